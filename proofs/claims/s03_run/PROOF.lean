import PyProof.Rows.All
import Wide.All
import OpenK.AllK
import Wide.FinOn
import PyProof.EqAt
import PyProof.EqKinds
import PyProof.TupleCall
import KE.BitLaws
import KE.OsGo
import KE.KDictSum
import KE.KDictList
import PyProof.Rows.SortShellAny
import Open.SpecLaws
import Sz43Spec
import PySz43
import PySem.Challenge.RW_sameruns_s03_bt_run
set_option Elab.async false
set_option linter.all false
set_option maxRecDepth 100000
noncomputable section
open PySem.W (keepIn nsIn findIn emptyDict instObj plainGet fnOf isFn lookIn codeIn takerIn methodObj hasDictIn callWith_K)
abbrev af:=@if_neg
abbrev ah:=@if_pos
abbrev ai:=@PySem.wpAny_bind
abbrev ax:=@PySem.W.Frag
abbrev aB:=@PySem.wpAny_pure
abbrev aI:=@List.length_map
abbrev aJ:=@Nat.le_refl
abbrev aL:=@List.getElem?_eq_getElem
abbrev aW:=@decide_eq_false
abbrev aX:=@List.mem_cons
abbrev aZ:=@PySem.sizeLine_eq
abbrev a7:=@PySem.Heap.lt_size
abbrev a8:=@List.length_append
abbrev bj:=@decide_eq_true
abbrev br:=@List.mem_of_getElem?
abbrev bt:=@PySem.Paired.length
abbrev bu:=@PySem.Heap.get?_push_of_some
abbrev bx:=@List.map_cons
abbrev bC:=@List.getElem?_map
abbrev bE:=@Nat.le_trans
abbrev bL:=@List.mem_append
abbrev bM:=@List.mem_cons_of_mem
abbrev bN:=@List.getElem?_eq_some_iff
abbrev bQ:=@Nat.ne_of_lt
abbrev bS:=@Nat.zero_le
abbrev bT:=@List.length_cons
abbrev b_:=@Option.some.inj
abbrev cj:=@List.size_toArray
abbrev cq:=@Ne.symm
abbrev cw:=@PySem.Heap.get?_push_size
abbrev cE:=@List.length_singleton
abbrev cF:=@Option.map_eq_some_iff
abbrev cM:=@Bool.false_ne_true
abbrev c7:=@congrArg
abbrev c8:=@PySem.boot_len
abbrev di:=@PySem.wpAny_mono
abbrev dy:=@List.getD_eq_getElem?_getD
abbrev dA:=@List.map_append
abbrev dB:=@List.not_mem_nil
abbrev dC:=@or_false
abbrev dN:=@List.mem_cons_self
abbrev d_:=@List.mem_map
abbrev e7:=@Nat.lt_of_lt_of_le
abbrev e8:=@PySem.Heap.size_push
abbrev e9:=@Option.bind_some
abbrev fk:=@List.mem_filter
abbrev fm:=@List.mem_append_left
abbrev fu:=@List.map_map
abbrev fv:=@PySem.F.plainAttrs_list
abbrev fM:=@Bool.and_eq_true
abbrev gj:=@Bool.eq_iff_iff
abbrev gk:=@List.length_set
abbrev gn:=@PySem.PassesOwn.never
abbrev gI:=@Array.length_toList
abbrev gJ:=@List.length_range
abbrev gK:=@List.cons.injEq
abbrev ie:=@List.append_nil
abbrev iK:=@PySem.mem_of_lookup
abbrev iL:=@PySem.Heap.get?_update_other
abbrev iM:=@List.getElem?_eq_none
abbrev iO:=@List.take_add_one
abbrev iP:=@Nat.succ_le_succ
abbrev iQ:=@List.sum_cons
abbrev jn:=@PySem.wpAny_holding
abbrev jo:=@PySem.wpAny_newObj_type
abbrev jq:=@Array.getElem?_eq_getElem
abbrev jr:=@of_decide_eq_true
abbrev jt:=@Iff.rfl
abbrev jI:=@List.mem_append_right
abbrev jJ:=@Nat.testBit_and
abbrev jK:=@Option.bind_none
abbrev jL:=@PySem.F.slot_list_append
abbrev jM:=@PySem.F.type_list_append
abbrev ke:=@beq_iff_eq
abbrev kf:=@if_false
abbrev kg:=@PySem.wpAny_loadPart_at
abbrev kh:=@List.take_length
abbrev ki:=@of_decide_eq_false
abbrev lC:=@List.getElem?_set_self
abbrev lD:=@List.replicate_succ
abbrev lE:=@List.find?_cons
abbrev lG:=@PySem.wpAny_setField
abbrev mF:=@Nat.lt_irrefl
abbrev mG:=@Nat.ne_of_gt
abbrev mH:=@PySem.codeAny_mono
abbrev mI:=@Nat.le_succ
abbrev mJ:=@List.append_assoc
abbrev mK:=@Option.map_some
abbrev mL:=@decide_eq_decide
abbrev mM:=@List.findIdx?_eq_some_iff_getElem
abbrev mO:=@List.any_eq_true
abbrev nV:=@beq_eq_false_iff_ne
abbrev nW:=@List.getElem?_set_ne
abbrev nX:=@PySem.wpAny_truthy_bool
abbrev nY:=@List.mem_filterMap
abbrev nZ:=@Nat.le_of_eq
abbrev n8:=@List.getElem?_replicate
abbrev n9:=@PySem.wpAny_call_entry
abbrev n_:=@PySem.Heap.get?_update_self
abbrev oa:=@PySem.call_meets
abbrev oe:=@List.lookup_cons
abbrev og:=@Nat.zero_add
abbrev oh:=@Bool.not_eq_true
abbrev oj:=@List.flatMap_append
abbrev om:=@List.flatMap_cons
abbrev oq:=@decide_eq_true_eq
abbrev qv:=@List.mem_range
abbrev qw:=@Nat.le_of_lt
abbrev qx:=@PySem.wpAny_Call_Name_kw
abbrev qy:=@List.length_replicate
abbrev qz:=@PySem.wpAny_field
abbrev qA:=@List.foldl_cons
abbrev qB:=@Array.getElem?_toList
abbrev qC:=@List.map_nil
abbrev qD:=@Bool.false_eq_true
abbrev qE:=@List.length_nil
abbrev qF:=@PySem.codeAny_builtin
abbrev qG:=@PySem.plainId_quiet
abbrev qH:=@PySem.Obj.data_mapFields
abbrev qI:=@Nat.lt_of_le_of_lt
abbrev qJ:=@Nat.eq_of_testBit_eq
abbrev qK:=@List.filter_cons
abbrev qL:=@decide_eq_true_iff
abbrev qM:=@Nat.ne_of_beq_eq_false
abbrev qN:=@PySem.F.called_set
abbrev sD:=@PySem.wpAny_passesOwn
abbrev sE:=@Nat.lt_succ_self
abbrev sF:=@PySem.wpAny_call
abbrev sG:=@Option.isSome_iff_exists
abbrev sH:=@if_true
abbrev sI:=@List.any_cons
abbrev sJ:=@Nat.lt_succ_of_lt
abbrev sM:=@PySem.Around.under_plainId
abbrev sN:=@List.mem_singleton
abbrev sO:=@Nat.testBit_or
abbrev sP:=@List.cons.inj
abbrev sQ:=@List.range_succ
abbrev sR:=@List.filter_append
abbrev vL:=@PySem.wpAny_standAt
abbrev vN:=@List.nodup_cons
abbrev vO:=@List.length_take
abbrev vP:=@Int.toNat_natCast
abbrev vQ:=@PySem.wpAny_callSpecial?_slot
abbrev vR:=@PySem.wpAny_typeOf
abbrev vS:=@Nat.lt_trans
abbrev vT:=@PySem.tupleKind_room_in1
abbrev vU:=@PySem.wpAny_rule
abbrev vV:=@PySem.wpAny_typeLookup_exc
abbrev vW:=@Nat.testBit_xor
abbrev vX:=@PySem.W.binds_K
abbrev vY:=@List.getElem_mem
abbrev vZ:=@List.nodup_append
abbrev v_:=@List.length_filter_le
abbrev wc:=@List.map_congr_left
abbrev we:=@List.getElem?_of_mem
abbrev wg:=@List.countP_cons
abbrev wj:=@PySem.wpAny_setState_of
abbrev wk:=@PySem.wpAny_askSetting
abbrev zz:=@Bool.false_and
abbrev zA:=@PyProof.Rows.callWith_type1
abbrev zB:=@List.length_drop
abbrev zC:=@PySem.Paired.snoc
abbrev zD:=@List.nodup_nil
abbrev zE:=@Array.getElem?_eq_none
abbrev zF:=@PySem.F.slot_dict_keyiterator_next
abbrev zG:=@Array.getElem?_eq_some_iff
abbrev zH:=@Nat.le_add_right
abbrev zI:=@Nat.or_lt_two_pow
abbrev zJ:=@Int.neg_neg
abbrev zK:=@List.foldl_append
abbrev zL:=@List.all_eq_true
abbrev zM:=@List.contains_iff_mem
abbrev zN:=@List.findIdx?_isSome
abbrev zO:=@Bool.or_eq_true
abbrev zP:=@List.mem_flatMap
abbrev Fs:=@List.filterMap_cons
abbrev Ft:=@PySem.wpAny_execs_nil
abbrev Fu:=@PySem.wpAny_pyIter_list
abbrev Fv:=@Int.fdiv_eq_ediv_of_nonneg
abbrev Fw:=@List.getElem?_append_left
abbrev Fx:=@List.all_cons
abbrev Fy:=@List.flatten_cons
abbrev FA:=@Bool.and_false
abbrev FC:=@Nat.add_comm
abbrev FD:=@List.nil_append
abbrev FF:=@List.range_succ_eq_map
abbrev FG:=@PySem.pushCells_keeps
abbrev FH:=@Nat.le_of_succ_le
abbrev FI:=@PySem.wpAny_dictEntries
abbrev FJ:=@PySem.wpAny_attempt
abbrev FK:=@PySem.wpAny_typeNameOfWhole_keyiter
abbrev FL:=@PySem.wpAny_typeNameOf_keyiter
abbrev FN:=@PySem.wpAny_fieldsOf
abbrev FO:=@PySem.Obj.isFreed_of_fields
abbrev FP:=@PySem.Heap.SameBut.update
abbrev FQ:=@PySem.wpAny_isInstance
abbrev FR:=@Nat.mod_two_eq_zero_or_one
abbrev FT:=@Nat.le_of_lt_succ
abbrev FU:=@Int.tdiv_eq_ediv_of_nonneg
abbrev FV:=@Int.tmod_eq_emod_of_nonneg
abbrev FW:=@Bool.true_and
abbrev FX:=@Bool.and_true
abbrev FY:=@List.findIdx?_cons
abbrev FZ:=@Nat.le_of_not_lt
abbrev F0:=@List.getElem?_cons_succ
abbrev F1:=@Option.mem_toList
abbrev F2:=@List.findIdx?_eq_none_iff
abbrev F3:=@List.map_id
abbrev F4:=@Nat.add_sub_cancel
abbrev Q7:=@List.getElem_inj
abbrev Q8:=@PySem.W.plainGet_of
abbrev Q9:=@List.of_mem_zip
abbrev Q_:=@List.take_sublist
abbrev Ra:=@PyProof.Rows.slot_tuple_getitem
abbrev Rb:=@List.reverse_cons
abbrev Rc:=@List.cons_append
abbrev Rf:=@Option.isSome_map
abbrev Rg:=@PySem.F.slot_list_getattribute
abbrev Rh:=@PySem.Code.quiet_builtin
abbrev Ri:=@PySem.wpAny_isSubtype_exc
abbrev Rj:=@PySem.builtinLookup_eq_fast
abbrev Rk:=@PySem.codeAny_call_builtin
abbrev Rm:=@Nat.and_le_left
abbrev Rn:=@List.take_of_length_le
abbrev Ro:=@List.findIdx?_append
abbrev Rp:=@List.find?_eq_none
abbrev Rq:=@Int.natCast_add
abbrev Rr:=@List.mem_or_eq_of_mem_set
abbrev Rt:=@List.getElem?_zipIdx
abbrev Ru:=@List.mem_zipIdx_iff_getElem?
abbrev Rv:=@List.getElem?_range
abbrev Rw:=@List.mem_of_find?_eq_some
abbrev Rx:=@Nat.testBit_two_pow
abbrev Ry:=@Nat.zero_testBit
abbrev Rz:=@List.flatMap_singleton
abbrev RB:=@PySem.F.slot_list_pop
abbrev RC:=@PySem.F.type_list_pop
abbrev RD:=@List.eq_of_mem_replicate
abbrev RE:=@List.dropLast_concat
abbrev RF:=@List.map_replicate
abbrev RG:=@Array.toList_push
abbrev RH:=@List.pairwise_cons
abbrev RI:=@List.pairwise_lt_range
abbrev RJ:=@PyProof.Rows.F.plain_set_update_loop
abbrev RK:=@PySem.wpAny_setEntries_of
abbrev abB:=@List.eq_nil_of_length_eq_zero
abbrev abC:=@List.eq_nil_iff_forall_not_mem
abbrev abD:=@PyProof.Rows.F.entry_set_update_loop
abbrev ψ:=List Nat
abbrev ω:=List PySem.Value
abbrev θ:=List PySem.Addr
abbrev η:=List (PySem.Addr×PySem.Obj)
abbrev ζ:=List Sz43.Bytes
abbrev ξ:=List (List Nat)
abbrev ρ:=PySem.Value->PySem.Shared->Prop
abbrev τ:=PySem.Str->Option PySem.Value
abbrev δ:=List Int
abbrev γ:=List PySem.Str
namespace L2
open PySem PySem.Spec PyProof.Rows
abbrev Key:=Sum Int Str
def lH:Key->Value->Bool
 | .inl k,v=>Value.isInt k v
 | .inr x,v=>Value.isStrOf x v
def RL(w:World):Key->Int
 | .inl k=>hashInt k
 | .inr x=>hashStr w x
theorem lI:∀{k:Key}{v:Value},lH k v=true->(∃i t,k=Sum.inl i/\v=Value.int i t)\/(∃x t,k=Sum.inr x/\v=Value.str x t)
 | .inl i,v,h=>by obtain⟨t,e⟩:=Value.isInt_shape (k:=i) (v:=v) h;exact .inl ⟨i,t,rfl,e⟩
 | .inr x,v,h=>by obtain⟨t,e⟩:=Value.isStrOf_shape (x:=x) (v:=v) h;exact .inr ⟨x,t,rfl,e⟩
theorem wm(i:Int)(t:Tok):lH (.inl i) (.int i t)=true:=by simp[lH,Value.isInt]
theorem RM(x:Str)(t:Tok):lH (.inr x) (.str x t)=true:=by simp[lH,Value.isStrOf]
theorem RN(a b:Int):decide ((Sum.inl a:Key)=Sum.inl b)=(a==b):=by
 by_cases e:a=b
 ·subst e;simp
 ·have h:¬(Sum.inl a:Key)=Sum.inl b:=λq=>e (Sum.inl.inj q)
  rw[aW h];exact(nV.mpr e).symm
theorem RO(a b:Str):decide ((Sum.inr a:Key)=Sum.inr b)=decide (a=b):=by
 by_cases e:a=b
 ·subst e;simp
 ·have h:¬(Sum.inr a:Key)=Sum.inr b:=λq=>e (Sum.inr.inj q)
  rw[aW h,aW e]
theorem RP(a:Int)(b:Str):decide ((Sum.inl a:Key)=Sum.inr b)=false:=aW (λq=>nomatch q)
theorem RQ(a:Str)(b:Int):decide ((Sum.inr a:Key)=Sum.inl b)=false:=aW (λq=>nomatch q)
def bU(prog:Program)(w:World):PySem.KeyKind prog w Key where
 is:=lH
 hash:=RL w
 inj:=λv a b ha hb=>by
  rcases lI ha with ⟨i,t,rfl,rfl⟩ |⟨x,t,rfl,rfl⟩
  ·rcases lI hb with ⟨j,u,rfl,e⟩ |⟨y,u,rfl,e⟩
   ·injection e with e1 _;rw[e1]
   ·exact nomatch e
  ·rcases lI hb with ⟨j,u,rfl,e⟩ |⟨y,u,rfl,e⟩
   ·exact nomatch e
   ·injection e with e1 _;rw[e1]
 byValue:=λk v h=>by rcases lI h with ⟨i,t,rfl,rfl⟩ |⟨x,t,rfl,rfl⟩<;>rfl
 pyHash:=λhv h=>by
  rcases lI hv with ⟨i,t,rfl,rfl⟩ |⟨x,t,rfl,rfl⟩
  ·exact wpAny_pyHash_int h
  ·exact wpAny_pyHash_str h
 eqBool:=λhu hv h=>by
  rcases lI hu with ⟨i,t,rfl,rfl⟩ |⟨x,t,rfl,rfl⟩
  ·rcases lI hv with ⟨j,u,rfl,rfl⟩ |⟨y,u,rfl,rfl⟩
   ·rw[RN]at h;exact wpAny_eqBool_int h
   ·rw[RP]at h;exact SeqAt.EqAt.int_str i t y u _ _ _ _ h
  ·rcases lI hv with ⟨j,u,rfl,rfl⟩ |⟨y,u,rfl,rfl⟩
   ·rw[RQ]at h;exact SeqAt.EqAt.str_int x t j u _ _ _ _ h
   ·rw[RO]at h;exact wpAny_eqBool_str h
 «strs»:=λk x t v h=>by
  rcases lI h with ⟨i,u,rfl,e⟩ |⟨y,u,rfl,e⟩
  ·exact nomatch e
  ·injection e with e1 _
   subst e1;cases v<;>rfl
theorem RR(prog:Program)(w:World)(i:Int)(t:Tok):(bU prog w).is (.inl i) (.int i t)=true:=wm i t
theorem RS(prog:Program)(w:World)(x:Str)(t:Tok):(bU prog w).is (.inr x) (.str x t)=true:=RM x t
inductive V where
 |aw |bl (b:Bool) |int (i:Int) |str (x:Str) |gL (b:Array UInt8) |flt (b:UInt64) |ref (a:Addr) |ty (n:String)
 deriving DecidableEq
abbrev ε:=List V
abbrev χ(a:Addr):Option V:=some (.ref a)
abbrev υ(n:Nat):Option V:=some (.int (n:Int))
def RelV:V->Value->Prop
 | .aw,u=>u=Value.none
 | .bl b,u=>u=Value.bool b
 | .int i,u=>∃t,u=Value.int i t
 | .str x,u=>∃t,u=Value.str x t
 | .gL b,u=>∃t,u=Value.bytes b t
 | .flt b,u=>∃t,u=Value.float b t
 | .ref a,u=>u=Value.ref a
 | .ty n,u=>u=Value.type n
abbrev Vals:List V->List Value->Prop:=Paired RelV
theorem Vals.length{xs:ε}{us:ω}(r:Vals xs us):xs.length=us.length:=bt r
theorem Vals.get:∀{xs:ε}{us:ω}{i:Nat}{x:V},Vals xs us->xs[i]? =some x->∃u,us[i]? =some u/\RelV x u
 |_,_,_,_,.nil,e=>by simp at e
 |_,_,0,_,.cons r _,e=>by simp at e;subst e;exact⟨_,rfl,r⟩
 |_,_,i+1,x,.cons _ t,e=>by obtain⟨u,h1,h2⟩:=Vals.get (i:=i) (x:=x) t (by simpa using e);exact⟨u,by simpa using h1,h2⟩
theorem Vals.set{x:V}{u:Value}(r:RelV x u):∀{xs:ε}{us:ω}(i:Nat),Vals xs us->Vals (xs.set i x) (us.set i u)
 |_,_,_,.nil=>.nil
 |_,_,0,.cons _ t=>.cons r t
 |_,_,i+1,.cons q t=>.cons q (Vals.set r i t)
theorem Vals.append:∀{xs ys:ε}{us ws:ω},Vals xs us->Vals ys ws->Vals (xs++ys) (us++ws)
 |_,_,_,_,.nil,s=>s
 |_,_,_,_,.cons r t,s=>.cons r (Vals.append t s)
theorem Vals.take:∀{xs:ε}{us:ω}(n:Nat),Vals xs us->Vals (xs.take n) (us.take n)
 |_,_,0,_=>.nil
 |_,_,_+1,.nil=>.nil
 |_,_,n+1,.cons r t=>.cons r (Vals.take n t)
theorem Vals.drop:∀{xs:ε}{us:ω}(n:Nat),Vals xs us->Vals (xs.drop n) (us.drop n)
 |_,_,0,r=>r
 |_,_,_+1,.nil=>.nil
 |_,_,n+1,.cons _ t=>Vals.drop n t
def fA:Option V->Option Value->Prop
 |some v,some u=>RelV v u
 |none,none=>True
 |_,_=>False
def KV{κ:Type}:List (κ×V)->List (κ×Value)->Prop:=Paired λ(p:κ×V)(q:κ×Value)=>p.1=q.1/\RelV p.2 q.2
def kV:Key->V
 | .inl i=>.int i
 | .inr x=>.str x
inductive HO where
 |lst (xs:ε)
 |tup (xs:ε)
 |dK (kvs:List (Key×V)) |dT (kvs:List (List Key×V))
 |set (S:Int->Bool) (n:Nat)
 |ins (C dx:Addr) (fs:List (Str×V))
 |own (x:Addr)
 |xd (fs:List (Str×V))
 |met (f x:Addr)
 |zQ (lo hi:Int)
 |gp (o:Obj) (u:HO)
 |ou (ps:Array Value)
 |ext (φ:Heap->Prop)
abbrev Hp:=Addr->Option HO
def upd(H:Hp)(a:Addr)(o:HO):Hp:=λb=>if b=a then some o else H b
theorem au{H:Hp}{a:Addr}{o:HO}:upd H a o a=some o:=by unfold upd;rw[ah rfl]
theorem ay{H:Hp}{a b:Addr}{o:HO}(h:b≠a):upd H a o b=H b:=by unfold upd;rw[af h]
theorem zR{H:Hp}{a:Addr}{o u:HO}:upd (upd H a o) a u=upd H a u:=by funext b;unfold upd;split<;>rfl
theorem bg{H:Hp}{a b:Addr}{o u:HO}(h:H a=some o)(h':H b=some u)(d:o≠u:=by intro z;cases z):a≠b:=by intro e;subst e;rw[h]at h';exact d (b_ h')
theorem aH{H:Hp}{a b:Addr}{o:HO}(h:H a=some o)(h':H b=none):a≠b:=by intro e;subst e;rw[h]at h';cases h'
section
variable(P:Program)(w:World)
def ck(H:Hp)(h:Heap)(a:Addr):HO->Prop
 | .lst xs=>xs.length<=sizeLine/\∃(its:ω)(n:Nat),Vals xs its/\h.get? a=some {cls:=.type "list",data:=.seq its.toArray n}
 | .tup xs=>xs.length<=sizeLine/\∃its:List Value,Vals xs its/\IsTup h a its.toArray
 | .dK kvs=>kvs.length<=sizeLine/\(a==sysModules)=false/\∃vs,KV kvs vs/\h.DictOf (bU P w) a vs
 | .dT kvs=>kvs.length<=sizeLine/\(a==sysModules)=false/\∃xs:List (List Key×Addr×Value),
   Paired (λ(p:List Key×V)(q:List Key×Addr×Value)=>p.1=q.1/\H q.2.1=some (.tup (p.1.map kV))/\RelV p.2 q.2.2) kvs xs/\
   ∃o es ep,h.get? a=some o/\o.ExactDict/\o.data=.dict es ep/\es.toList=xs.map (entryOfKey (tupleKind (bU P w)))/\(xs.map (·.1)).Nodup
 | .set S n=>h.SetOf (intKind P w) a S n
 | .ins C dx fs=>H dx=some (.own a)/\fs.length<=1000/\dx≠a/\h.get? a=some (instObj C dx)/\
   ∃mA,h.Ns1 dx mA/\(∀f,fA (fs.lookup f) (mA f))/\PySem.Within mA (fs.map (·.1))
 | .own _=>∃o,h.get? a=some o
 | .xd fs=>∃mA,h.Ns1 a mA/\∀f,fA (fs.lookup f) (mA f)
 | .zQ lo hi=>∃t u v,h.get? a=some {cls:=.type "range",data:=.fields #[.int lo t,.int hi u,.int 1 v]}
 | .gp o u=>h.get? a=some o/\ck H h a u
 | .ou ps=>h.get? a=some {cls:=.none,data:=.fields ps}
 | .met f x=>h.get? a=some (methodObj (.ref f) (.ref x))
 | .ext φ=>φ h/\(∃o,h.get? a=some o)/\∀h1 h2:Heap,φ h1->(∀o,h1.get? a=some o->h2.get? a=some o)->φ h2
def cu(H:Hp)(h:Heap):Prop:=∀a o,H a=some o->ck P w H h a o
end
section
variable{P:Program}{w:World}{H H':Hp}{h h':Heap}{a:Addr}{o:HO}
theorem ck.lt(x:ck P w H h a o):a<h.objs.size:=by
 cases o with
 |lst xs=>obtain⟨_,_,_,_,e⟩:=x;exact a7 e
 |tup xs=>obtain⟨_,_,_,p⟩:=x;exact p.lt
 |dK kvs=>obtain⟨_,_,_,_,o,_,_,e,_⟩:=x;exact a7 e
 |dT kvs=>obtain⟨_,_,_,_,o,_,_,e,_⟩:=x;exact a7 e
 |set S n=>obtain⟨o,_,_,_,e,_⟩:=x;exact a7 e
 |ins C dx fs=>obtain⟨_,_,_,e,_⟩:=x;exact a7 e
 |own y=>obtain⟨_,e⟩:=x;exact a7 e
 |xd fs=>obtain⟨_,⟨_,_,_,e,_⟩,_⟩:=x;exact a7 e
 |zQ lo hi=>obtain⟨_,_,_,e⟩:=x;exact a7 e
 |gp ob u=>obtain⟨e,_⟩:=x;exact a7 e
 |ou ps=>exact a7 (show h.get? a=some _ from x)
 |met f y=>exact a7 (show h.get? a=some _ from x)
 |ext φ=>obtain⟨_,⟨_,e⟩,_⟩:=x;exact a7 e
theorem Paired.cR{α β:Type}{F G:α->β->Prop}:∀{l₁:List α}{l₂:List β},Paired F l₁ l₂->(∀a b,F a b->G a b)->Paired G l₁ l₂
 |_,_,.nil,_=>.nil
 |_,_,.cons r t,f=>.cons (f _ _ r) (Paired.cR t f)
theorem ck.stay(x:ck P w H h a o)(k:∀b u,(b=a\/H b=some (.own a))->h.get? b=some u->h'.get? b=some u) (ho:∀b,H b=some (.own a)->H' b=some (.own a))(ht:∀b xs,H b=some (.tup xs)->H' b=some (.tup xs)):ck P w H' h' a o:=by
 induction o with
 |lst xs=>obtain⟨z,its,n,r,e⟩:=x;exact⟨z,its,n,r,k _ _ (.inl rfl) e⟩
 |tup xs=>obtain⟨z,its,r,ob,e,c⟩:=x;exact⟨z,its,r,ob,k _ _ (.inl rfl) e,c⟩
 |dK kvs=>obtain⟨z,y,vs,r,ob,es,ep,e,c⟩:=x;exact⟨z,y,vs,r,ob,es,ep,k _ _ (.inl rfl) e,c⟩
 |dT kvs=>obtain⟨z,y,xs,r,ob,es,ep,e,c⟩:=x;exact⟨z,y,xs,Paired.cR r λp q z=>⟨z.1,ht _ _ z.2.1,z.2.2⟩,ob,es,ep,k _ _ (.inl rfl) e,c⟩
 |set S n=>obtain⟨ob,es,ep,t,e,c⟩:=x;exact⟨ob,es,ep,t,k _ _ (.inl rfl) e,c⟩
 |ins C dx fs=>obtain⟨d,z,ne,e,mA,⟨od,es,ep,e2,c⟩,r⟩:=x;exact⟨ho _ d,z,ne,k _ _ (.inl rfl) e,mA,⟨od,es,ep,k _ _ (.inr d) e2,c⟩,r⟩
 |own y=>obtain⟨ob,e⟩:=x;exact⟨ob,k _ _ (.inl rfl) e⟩
 |xd fs=>obtain⟨mA,⟨od,es,ep,e,c⟩,r⟩:=x;exact⟨mA,⟨od,es,ep,k _ _ (.inl rfl) e,c⟩,r⟩
 |zQ lo hi=>obtain⟨t,u,v,e⟩:=x;exact⟨t,u,v,k _ _ (.inl rfl) e⟩
 |gp ob u ih=>obtain⟨e,q⟩:=x;exact⟨k _ _ (.inl rfl) e,ih q⟩
 |ou ps=>have e:h.get? a=some {cls:=.none,data:=.fields ps}:=x;show h'.get? a=some {cls:=.none,data:=.fields ps};exact k a _ (.inl rfl) e
 |met f y=>have e:h.get? a=some (methodObj (.ref f) (.ref y)):=x;show h'.get? a=some (methodObj (.ref f) (.ref y));exact k a _ (.inl rfl) e
 |ext φ=>obtain⟨p,⟨o,e⟩,st⟩:=x;exact⟨st _ _ p λo q=>k _ _ (.inl rfl) q,⟨o,k _ _ (.inl rfl) e⟩,st⟩
theorem cu.lt(x:cu P w H h)(e:H a=some o):a<h.objs.size:=(x a o e).lt
theorem cu.fresh(x:cu P w H h)(e:h.objs.size<=a):H a=none:=by
 cases q:H a with
 |none=>rfl
 |some u=>exact absurd (e7 (x.lt q) e) (mF _)
theorem cu.kept(x:cu P w H h)(k:∀b u,h.get? b=some u->h'.get? b=some u):cu P w H h':=λa o e=>(x a o e).stay (λb u _ q=>k b u q) (λ_ q=>q) λ_ _ q=>q
theorem cu.laid(x:cu P w H h)(k:∀b u,h.get? b=some u->h'.get? b=some u)(hp:h.objs.size<=a)(new:ck P w (upd H a o) h' a o):cu P w (upd H a o) h':=λb u e=>by
 have hn:=x.fresh hp;by_cases hb:b=a
 ·subst hb;rw[au]at e;cases e;exact new
 ·rw[ay hb]at e;exact(x b u e).stay (λc v _ q=>k c v q) (λc q=>by rw[ay (aH q hn)];exact q) λc xs q=>by rw[ay (aH q hn)];exact q
end
def Rd(H:Hp)(a:Addr)(u:HO):Prop:=H a=some u\/∃o,H a=some (.gp o u)
theorem Rd.ok{P:Program}{w:World}{H:Hp}{h:Heap}{a:Addr}{u:HO}(r:Rd H a u)(x:cu P w H h):ck P w H h a u:=by
 rcases r with r |⟨o,r⟩
 ·exact x a u r
 ·obtain⟨_,q⟩:=x a _ r;exact q
def sS:Option HO->Prop
 |some (.lst _)=>True
 |some (.dK _)=>True
 |some (.dT _)=>True
 |some (.set _ _)=>True
 |some (.ins _ _ _)=>True
 |some (.ext _)=>True
 |_=>False
section
variable{P:Program}{w:World}{H:Hp}{h h':Heap}{x e:Addr}{o':HO}
theorem cu.write(ok:cu P w H h)(mu:sS (H x))(he:e=x\/H e=some (.own x))(k:∀b u,b≠e->h.get? b=some u->h'.get? b=some u)(heo:∃u,h'.get? e=some u) (new:ck P w (upd H x o') h' x o'):cu P w (upd H x o') h':=λb u q=>by
 have nown:∀c y,H c=some (.own y)->c≠x:=λc y r z=>by subst z;rw[r]at mu;exact mu
 have ntup:∀c xs,H c=some (.tup xs)->c≠x:=λc xs r z=>by subst z;rw[r]at mu;exact mu
 by_cases hb:b=x
 ·subst hb;rw[au]at q;cases q;exact new
 ·rw[ay hb]at q;by_cases hbe:b=e
  ·have q':H b=some (.own x):=by
    rcases he with z |z
    ·exact absurd (hbe.trans z) hb
    ·rw[hbe];exact z
   rw[q]at q';cases q';obtain⟨v,hv⟩:=heo;exact⟨v,by rw[hbe];exact hv⟩
  ·refine(ok b u q).stay (λc v hc r=>k c v ?_ r) (λc r=>by rw[ay (nown c b r)];exact r) λc xs r=>by rw[ay (ntup c xs r)];exact r
   rcases hc with rfl |hc
   ·exact hbe
   ·rintro rfl
    rcases he with z |z
    ·exact nown c b hc z
    ·rw[hc]at z;cases z;exact hb rfl
end
structure Un(fs ex:θ)(H H':Hp)(h h':Heap):Prop where
 keep:∀b o,h.get? b=some o->H b=none->b ∉ fs->b ∉ ex->h'.get? b=some o
 slot:∀b o,h.get? b=some o->H b=none->b∈fs->b ∉ ex->∃sl,h'.get? b=some {o with slots:=sl}
 free:∀b o,h.get? b=some o->H b=none->b ∉ ex->H' b=none
 there:∀b o,h.get? b=some o->b ∉ ex->∃o',h'.get? b=some o'
 tups:∀b xs,H b=some (.tup xs)->H' b=some (.tup xs)
 iR:∀b o u,H b=some (.gp o u)->H' b=some (.gp o u)
 jN:∀b ps,H b=some (.ou ps)->∃more,H' b=some (.ou (ps++more))
section
variable{fs fs' ex ex':θ}{H H1 H2:Hp}{h h1 h2 h':Heap}{a x e:Addr}{o:HO}
theorem Un.any(u:Un fs ex H H1 h h1){b:Addr}{ob:Obj}(q:h.get? b=some ob)(n:H b=none)(hx:b ∉ ex):∃sl,h1.get? b=some {ob with slots:=sl}:=by
 by_cases hb:b∈fs
 ·exact u.slot b ob q n hb hx
 ·exact⟨ob.slots,u.keep b ob q n hb hx⟩
theorem Un.kept(k:∀b u,h.get? b=some u->h'.get? b=some u):Un fs ex H H h h':=⟨λb ob q _ _ _=>k b ob q,λb ob q _ _ _=>⟨ob.slots,k b ob q⟩,λ_ _ _ n _=>n,λb ob q _=>⟨ob,k b ob q⟩,λ_ _ q=>q,λ_ _ _ q=>q,λ_ ps q=>⟨#[],by rw[q];simp⟩⟩
theorem Un.refl:Un fs ex H H h h:=Un.kept λ_ _ q=>q
theorem Un.laid(k:∀b u,h.get? b=some u->h'.get? b=some u)(hp:h.objs.size<=a)(hn:H a=none):Un fs ex H (upd H a o) h h' where
 keep:=λb u q _ _ _=>k b u q
 slot:=λb u q _ _ _=>⟨u.slots,k b u q⟩
 free:=λb u q n _=>by rw[ay (bQ (e7 (a7 q) hp))];exact n
 there:=λb u q _=>⟨u,k b u q⟩
 tups:=λb xs q=>by rw[ay (aH q hn)];exact q
 iR:=λb u xs q=>by rw[ay (aH q hn)];exact q
 jN:=λb ps q=>⟨#[],by rw[ay (aH q hn),q];simp⟩
theorem Un.write(mu:sS (H x))(he:e=x\/H e=some (.own x))(k:∀b u,b≠e->h.get? b=some u->h'.get? b=some u)(heo:∃u,h'.get? e=some u):Un fs ex H (upd H x o) h h':=by
 have hx:∀b,H b=none->b≠x:=λb n z=>by subst z;rw[n]at mu;exact mu
 have hb:∀b,H b=none->b≠e:=λb n z=>by
  subst z;rcases he with r |r
  ·exact hx b n r
  ·rw[n]at r;cases r
 have hm:∀b u,H b=some u->¬sS (some u)->b≠x:=λb u q nm z=>by subst z;rw[q]at mu;exact nm mu
 refine⟨λb u q n _ _=>k b u (hb b n) q,λb u q n _ _=>⟨u.slots,k b u (hb b n) q⟩,λb u q n _=>by rw[ay (hx b n)];exact n,λb u q _=>?_,λb xs q=>by rw[ay (hm b _ q λz=>z)];exact q,λb u xs q=>by rw[ay (hm b _ q λz=>z)];exact q,λb ps q=>⟨#[],by rw[ay (hm b _ q λz=>z),q];simp⟩⟩
 by_cases hbe:b=e
 ·subst hbe;exact heo
 ·exact⟨u,k b u hbe q⟩
end
def wu(h:Heap)(H:Hp):List Addr:=(List.range h.objs.size).filter λa=>(H a).isSome
def lJ(h:Heap)(H:Hp):Heap:=PySem.W.hideAll h (wu h H)
theorem RT(h:Heap)(H:Hp):(lJ h H).objs.size=h.objs.size:=PySem.W.hideAll_size _ _
theorem RU{h:Heap}{H:Hp}{b:Addr}{o:Obj}(e:h.get? b=some o)(n:H b=none):(lJ h H).get? b=some o:=PySem.W.hideAll_get _ e λhm=>by have q:(H b).isSome=true:=(fk.mp hm).2;rw[n]at q;simp at q
theorem RV{h:Heap}{H:Hp}{b:Addr}{o:Obj}(e:(lJ h H).get? b=some o):h.get? b=some o/\H b=none:=by
 have e':h.get? b=some o:=PySem.W.of_hideAll (wu h H) e;refine⟨e',?_⟩;cases q:H b with
 |none=>rfl
 |some x=>have hm:b∈wu h H:=fk.mpr ⟨qv.mpr (a7 e'),by simp[q]⟩;have z:(lJ h H).get? b=none:=PySem.W.hideAll_none (wu h H) hm;rw[z]at e;cases e
structure Mod(K:ax)(mg:τ)(base:Heap):Prop where
 kj:K.In base
 glob:base.Ns mainGlobals mg
 blt:∃mb,base.Ns builtinsNs mb/\∀x:Str,x≠ "__name__" ->mb x=bootBuiltins x
 nolimit:base.NoLimit
structure Cx where
 prog:Program
 w:World
 K:ax
 mg:Str->Option Value
 base:Heap
 A:Around
 N:List Str
 s₀:Shared
 H₀:Hp
 env:Env
 outer:List Env
 stack:List Env
 ex:List Addr
 fn:Str->Bool
 calm:Bool
 pn:List (Addr×Obj)
 xe:Value->Shared->Prop
def frs(l:List Env):List Addr:=l.filterMap (·.frame)
abbrev Cx.fs(X:Cx):List Addr:=frs X.outer
def qO(sc:Scope)(x:Str):Prop:=sc.names.lookup x=some .local\/sc.names.lookup x=some .cell\/sc.names.lookup x=some .free
def Loc(sc:Scope)(x:Str):Prop:=sc.names.lookup x=some .local\/sc.names.lookup x=some .cell
def Look(env:Env)(h:Heap)(m:τ)(x:Str)(u:Value):Prop:=(env.kindOf x=some .local/\m x=some u)\/((env.kindOf x=some .cell\/env.kindOf x=some .free)/\∃c,env.cells.lookup x=some c/\h.IsCell c (some u))
structure Cx.Ok(X:Cx):Prop where
 mod:Mod X.K X.mg X.base
 kind:X.env.scope.kind=.function
 glob:X.env.globals=mainGlobals
 blt:X.env.builtins=builtinsNs
 above:X.s₀.heap.objs.size<=X.env.locals
 inj:∀x y c,X.env.cells.lookup x=some c->X.env.cells.lookup y=some c->x=y
 has:∀x,(X.env.kindOf x=some .cell\/X.env.kindOf x=some .free)->∃c,X.env.cells.lookup x=some c
 lK:∀x c,X.fn x=true->X.env.cells.lookup x=some c->X.s₀.heap.objs.size<=c
 hd:X.calm=true->X.A.handled=none
 frames:X.A.frames=some X.stack
 stk:X.stack=X.outer\/(X.stack=X.env::X.outer/\X.env.frame=some X.env.locals)
 mP:∀b∈X.ex,b≠X.env.locals/\∀x c,X.env.cells.lookup x=some c->c≠b
 bs:∀b o,X.base.get? b=some o->X.s₀.heap.get? b=some o/\X.H₀ b=none
 iT:X.base.objs.size<=X.s₀.heap.objs.size
 lL:∀b o,X.base.get? b=some o->b ∉ X.ex
 lO:∀b∈X.ex,b ∉ X.fs
 fO:X.s₀.heap.FunFrames X.base X.outer
 jO:∀b∈X.fs,X.H₀ b=none
structure Inv(X:Cx)(pins:η)(σ:List (Option V))(H:Hp)(s:Shared):Prop where
 ok:X.Ok
 os:s.os=X.s₀.os
 bare:AllBare s.gens
 base:Un X.fs X.ex X.H₀ H X.s₀.heap s.heap
 loc:∃m,s.heap.Ns X.env.locals m/\∀(i:Nat)(x:Str)(v:V),X.N[i]? =some x->σ[i]? =some (some v)->qO X.env.scope x->∃u,RelV v u/\Look X.env s.heap m x u
 cell:∀x c,X.env.cells.lookup x=some c->∃v,s.heap.IsCell c v
 free:H X.env.locals=none
 fC:∀x c,X.env.cells.lookup x=some c->H c=none
 pin:∀p∈X.pn++pins,s.heap.get? p.1=some p.2/\H p.1=none/\p.1≠X.env.locals/\p.1 ∉ X.fs/\∀v,p.2.data≠ .cell v
 hok:cu X.prog X.w H s.heap
 len:σ.length=X.N.length
section
variable{X:Cx}{pins:η}{σ:List (Option V)}{H H':Hp}{s:Shared}{h':Heap}
theorem Cx.Ok.RW(ok:X.Ok){b:Addr}{o:Obj}(e:X.base.get? b=some o):b ∉ X.fs:=λhb=>by have:=(ok.fO.mem hb).1;rw[e]at this;cases this
theorem Inv.bs(I:Inv X pins σ H s):∀b o,X.base.get? b=some o->s.heap.get? b=some o/\H b=none:=λb o e=>⟨I.base.keep b o (I.ok.bs b o e).1 (I.ok.bs b o e).2 (I.ok.RW e) (I.ok.lL b o e),I.base.free b o (I.ok.bs b o e).1 (I.ok.bs b o e).2 (I.ok.lL b o e)⟩
theorem Inv.bk(I:Inv X pins σ H s):∀b o,X.base.get? b=some o->s.heap.get? b=some o:=λb o e=>(I.bs b o e).1
theorem Inv.mod(I:Inv X pins σ H s):Mod X.K X.mg X.base:=I.ok.mod
theorem Inv.bO(I:Inv X pins σ H s):X.K.In s.heap:=I.ok.mod.kj.keeps I.bk
theorem Inv.lt(I:Inv X pins σ H s):X.env.locals<s.heap.objs.size:=let ⟨_,hn,_⟩:=I.loc;hn.lt
theorem Inv.sz(I:Inv X pins σ H s):X.s₀.heap.objs.size<=s.heap.objs.size:=bE I.ok.above (qw I.lt)
theorem Inv.RX(I:Inv X pins σ H s){a:Addr}(h:s.heap.objs.size<=a):a ∉ X.fs:=λhb=>by obtain⟨_,o,ho,_⟩:=I.ok.fO.mem hb;exact absurd (e7 (a7 ho) (bE I.sz h)) (mF _)
theorem Inv.mQ(I:Inv X pins σ H s):∀x c,X.env.cells.lookup x=some c->c≠X.env.locals:=λx c e z=>by obtain⟨v,o,ho,hd⟩:=I.cell x c e;obtain⟨m,⟨o',es,ep,ho',hd',_⟩,_⟩:=I.loc;rw[z,ho']at ho;cases ho;rw[hd']at hd;cases hd
theorem Inv.fO(I:Inv X pins σ H s):s.heap.FunFrames X.base X.outer:=by
 have all:∀(l:List Env),(∀b∈frs l,b∈X.fs)->X.s₀.heap.FunFrames X.base l->s.heap.FunFrames X.base l:=by
  intro l
  induction l with
  |nil=>intro _ _;trivial
  |cons env r ih=>
   intro hs hl;obtain⟨hk,⟨L,o,hf,hn,ho,hd⟩,hr⟩:=hl;have hL:L∈X.fs:=hs L (by unfold frs;rw[Fs,hf];exact dN);obtain⟨sl,e⟩:=I.base.slot L o ho (I.ok.jO L hL) hL λz=>I.ok.lO L z hL
   exact⟨hk,⟨L,_,hf,hn,e,hd⟩,ih (λb hb=>hs b (by unfold frs;rw[Fs,hf];exact bM _ hb)) hr⟩
 exact all X.outer (λ_ hb=>hb) I.ok.fO
theorem Inv.stack(I:Inv X pins σ H s):s.heap.FunFrames X.base X.stack:=by
 rcases I.ok.stk with e |⟨e,hf⟩
 ·rw[e];exact I.fO
 ·rw[e];obtain⟨m,hn,_⟩:=I.loc;refine .cons (by rw[I.ok.kind];decide) hf hn ?_ I.fO;exact Heap.get?_none_of_le (bE I.ok.iT I.ok.above)
theorem Inv.sT(I:Inv X pins σ H s):∀b∈frs X.stack,b∈X.env.locals::X.fs:=λb hb=>by
 rcases I.ok.stk with e |⟨e,hf⟩
 ·rw[e]at hb;exact bM _ hb
 ·rw[e]at hb;unfold frs at hb;rw[Fs,hf]at hb;exact hb
theorem Inv.zS(I:Inv X pins σ H s):∀b∈frs X.stack,H b=none:=λb hb=>by
 rcases aX.mp (I.sT b hb)with e |hb
 ·rw[e];exact I.free
 ·obtain⟨_,o,ho,_⟩:=I.ok.fO.mem hb;exact I.base.free b o ho (I.ok.jO b hb) λz=>I.ok.lO b z hb
theorem Inv.step{g':Array GenState}{t':Nat}{d':Drawn}{ch:θ}(I:Inv X pins σ H s) (hch:∀b∈ch,(b∈X.ex\/X.s₀.heap.objs.size<=b)/\b≠X.env.locals/\(∀x c,X.env.cells.lookup x=some c->c≠b)/\∀p∈X.pn++pins,p.1≠b) (keep:∀b o,b≠X.env.locals->b ∉ X.fs->b ∉ ch->s.heap.get? b=some o->H b=none->h'.get? b=some o) (slot:∀b o,b≠X.env.locals->b∈X.fs->b ∉ ch->s.heap.get? b=some o->H b=none->∃sl,h'.get? b=some {o with slots:=sl})(free:∀b o,b ∉ ch->s.heap.get? b=some o->H b=none->H' b=none) (there:∀b o,b ∉ ch->s.heap.get? b=some o->∃o',h'.get? b=some o') (tups:∀b xs,H b=some (.tup xs)->H' b=some (.tup xs))(iR:∀b o u,H b=some (.gp o u)->H' b=some (.gp o u))(jN:∀b ps,H b=some (.ou ps)->∃more,H' b=some (.ou (ps++more))) (ns:∀m,s.heap.Ns X.env.locals m->h'.Ns X.env.locals m)(hok:cu X.prog X.w H' h')(hg:AllBare g'):Inv X pins σ H' {s with heap:=h',gens:=g',drawn:=d',toks:=t'}:=by
 have neL:∀b o,X.s₀.heap.get? b=some o->b≠X.env.locals:=λb o e=>bQ (e7 (a7 e) I.ok.above)
 have neC:∀b o,X.s₀.heap.get? b=some o->b ∉ X.ex->b ∉ ch:=λb o e hx hb=>by
  rcases(hch b hb).1 with z |z
  ·exact hx z
  ·exact absurd (e7 (a7 e) z) (mF _)
 have cellK:∀x c,X.env.cells.lookup x=some c->∀v,s.heap.IsCell c v->h'.IsCell c v:=λx c e v ⟨o,ho,hd⟩=>by
  have sU:c ∉ ch:=λz=>(hch c z).2.2.1 x c e rfl
  by_cases hc:c∈X.fs
  ·obtain⟨sl,q⟩:=slot c o (I.mQ x c e) hc sU ho (I.fC x c e);exact⟨_,q,hd⟩
  ·exact⟨o,keep c o (I.mQ x c e) hc sU ho (I.fC x c e),hd⟩
 refine⟨I.ok,I.os,hg,⟨λb o e n hb hx=>?_,λb o e n hb hx=>?_,λb o e n hx=>?_,λb o e hx=>?_,λb xs e=>tups b xs (I.base.tups b xs e),λb o xs e=>iR b o xs (I.base.iR b o xs e),λb ps e=>?_⟩,?_,λx c e=>?_,?_,λx c e=>?_,λp hp=>?_,hok,I.len⟩
 ·exact keep b o (neL b o e) hb (neC b o e hx) (I.base.keep b o e n hb hx) (I.base.free b o e n hx)
 ·obtain⟨sl,e1⟩:=I.base.slot b o e n hb hx;obtain⟨sl',e2⟩:=slot b _ (neL b o e) hb (neC b o e hx) e1 (I.base.free b o e n hx);exact⟨sl',e2⟩
 ·obtain⟨o',e1⟩:=I.base.there b o e hx;exact free b o' (neC b o e hx) e1 (I.base.free b o e n hx)
 ·obtain⟨o',e1⟩:=I.base.there b o e hx;exact there b o' (neC b o e hx) e1
 ·obtain⟨m1,e1⟩:=I.base.jN b ps e;obtain⟨m2,e2⟩:=jN b _ e1;exact⟨m1++m2,by rw[e2,Array.append_assoc]⟩
 ·obtain⟨m,hn,hl⟩:=I.loc;refine⟨m,ns m hn,λi x v e1 e2 e3=>?_⟩;obtain⟨u,r,l⟩:=hl i x v e1 e2 e3;refine⟨u,r,?_⟩;rcases l with l |⟨k,c,e,z⟩
  ·exact .inl l
  ·exact .inr ⟨k,c,e,cellK x c e _ z⟩
 ·obtain⟨v,z⟩:=I.cell x c e;exact⟨v,cellK x c e v z⟩
 ·obtain⟨m,⟨o,_,_,ho,_⟩,_⟩:=I.loc;exact free _ o (λz=>(hch _ z).2.1 rfl) ho I.free
 ·obtain⟨v,o,ho,hd⟩:=I.cell x c e;exact free c o (λz=>(hch c z).2.2.1 x c e rfl) ho (I.fC x c e)
 ·obtain⟨e,n,ne,nf,d⟩:=I.pin p hp;have sU:p.1 ∉ ch:=λz=>(hch p.1 z).2.2.2 p hp rfl
  exact⟨keep p.1 p.2 ne nf sU e n,free p.1 p.2 sU e n,ne,nf,d⟩
theorem Inv.un{t':Nat}(I:Inv X pins σ H s)(u:Un X.fs [] H H' s.heap h')(hok:cu X.prog X.w H' h'):Inv X pins σ H' {s with heap:=h',toks:=t'}:=by obtain⟨m,⟨o,es,ep,ho,r⟩,_⟩:=id I.loc;obtain⟨sl,hL⟩:=u.any ho I.free (by simp);exact I.step (g':=s.gens) (d':=s.drawn) (ch:=[]) (λ_ z=>nomatch z) (λb o _ hb _ e n=>u.keep b o e n hb (by simp)) (λb o _ hb _ e n=>u.slot b o e n hb (by simp)) (λb o _ e n=>u.free b o e n (by simp)) (λb o _ e=>u.there b o e (by simp)) u.tups u.iR u.jN (λm' hm=>by obtain⟨o',es',zT,ho',r'⟩:=hm;rw[ho]at ho';cases ho';exact⟨_,es',zT,hL,r'⟩) hok I.bare
theorem Inv.call{g':Array GenState}{t':Nat}{d':Drawn}{ch:θ}(I:Inv X pins σ H s)(u:Un (frs X.stack) ch H H' s.heap h')(hok:cu X.prog X.w H' h')(hg:AllBare g') (hch:∀b∈ch,(b∈X.ex\/X.s₀.heap.objs.size<=b)/\b≠X.env.locals/\(∀x c,X.env.cells.lookup x=some c->c≠b)/\∀p∈X.pn++pins,p.1≠b):Inv X pins σ H' {s with heap:=h',gens:=g',drawn:=d',toks:=t'}:=by
 obtain⟨m,⟨o,es,ep,ho,r⟩,_⟩:=id I.loc;obtain⟨sl,hL⟩:=u.any ho I.free λz=>(hch _ z).2.1 rfl
 exact I.step (ch:=ch) hch (λb o hL hb hc e n=>u.keep b o e n (λz=>(aX.mp (I.sT b z)).elim hL hb) hc) (λb o _ _ hc e n=>u.any e n hc) (λb o hc e n=>u.free b o e n hc) (λb o hc e=>u.there b o e hc) u.tups u.iR u.jN (λm' hm=>by obtain⟨o',es',zT,ho',r'⟩:=hm;rw[ho]at ho';cases ho';exact⟨_,es',zT,hL,r'⟩) hok hg
theorem Inv.turned{t':Nat}{it:Addr}(I:Inv X pins σ H s)(k:∀b o,b≠it->s.heap.get? b=some o->h'.get? b=some o)(hn:H it=none)(hL:it≠X.env.locals) (h1:it∈X.ex\/X.s₀.heap.objs.size<=it)(h2:∀x c,X.env.cells.lookup x=some c->c≠it)(h3:∀p∈X.pn++pins,p.1≠it):Inv X pins σ H {s with heap:=h',toks:=t'}:=by
 have mR:∀b u,H b=some u->b≠it:=λb u e z=>by rw[z,hn]at e;cases e
 refine I.step (g':=s.gens) (d':=s.drawn) (ch:=[it]) (λb hb=>?_) (λb o _ _ hc e _=>k b o (λz=>hc (by simp[z])) e) (λb o _ _ hc e _=>⟨o.slots,k b o (λz=>hc (by simp[z])) e⟩) (λ_ _ _ _ n=>n) (λb o hc e=>⟨o,k b o (λz=>hc (by simp[z])) e⟩) (λ_ _ e=>e) (λ_ _ _ e=>e) (λb ps e=>⟨#[],by rw[e];simp⟩) (λm hm=>?_) (λb u e=>?_) I.bare
 ·have e:b=it:=by simpa using hb
  subst e;exact⟨h1,hL,h2,h3⟩
 ·obtain⟨o,es,ep,ho,r⟩:=hm;exact⟨o,es,ep,k _ o (cq hL) ho,r⟩
 ·refine(I.hok b u e).stay (λc v hc q=>k c v ?_ q) (λ_ q=>q) λ_ _ q=>q
  rcases hc with z |z
  ·rw[z];exact mR b u e
  ·exact mR c _ z
theorem Inv.tok(I:Inv X pins σ H s)(t:Nat):Inv X pins σ H {s with toks:=t}:=I.un (h':=s.heap) (t':=t) Un.refl I.hok
theorem Inv.kept{t':Nat}(I:Inv X pins σ H s)(k:∀b u,s.heap.get? b=some u->h'.get? b=some u):Inv X pins σ H {s with heap:=h',toks:=t'}:=I.un (Un.kept k) (I.hok.kept k)
theorem Inv.laid{a:Addr}{o:HO}{t':Nat}(I:Inv X pins σ H s)(k:∀b u,s.heap.get? b=some u->h'.get? b=some u)(hp:s.heap.objs.size<=a)(new:ck X.prog X.w (upd H a o) h' a o):Inv X pins σ (upd H a o) {s with heap:=h',toks:=t'}:=I.un (Un.laid k hp (I.hok.fresh hp)) (I.hok.laid k hp new)
theorem Inv.write{x e:Addr}{o:HO}{t':Nat}(I:Inv X pins σ H s)(mu:sS (H x))(he:e=x\/H e=some (.own x))(k:∀b u,b≠e->s.heap.get? b=some u->h'.get? b=some u)(heo:∃u,h'.get? e=some u) (new:ck X.prog X.w (upd H x o) h' x o):Inv X pins σ (upd H x o) {s with heap:=h',toks:=t'}:=I.un (Un.write mu he k heo) (I.hok.write mu he k heo new)
theorem Inv.weak{σ':List (Option V)}(I:Inv X pins σ H s)(hl:σ'.length=σ.length)(w:∀(i:Nat) v,σ'[i]? =some (some v)->σ[i]? =some (some v)):Inv X pins σ' H s:=⟨I.ok,I.os,I.bare,I.base,let ⟨m,hn,hl'⟩:=I.loc;⟨m,hn,λi x v e1 e2 e3=>hl' i x v e1 (w i v e2) e3⟩,I.cell,I.free,I.fC,I.pin,I.hok,hl.trans I.len⟩
theorem Inv.zU{pins':η}(I:Inv X pins σ H s)(h:∀p∈pins',s.heap.get? p.1=some p.2/\H p.1=none/\p.1≠X.env.locals/\p.1 ∉ X.fs/\∀v,p.2.data≠ .cell v):Inv X pins' σ H s:=⟨I.ok,I.os,I.bare,I.base,I.loc,I.cell,I.free,I.fC,λp hp=>(bL.mp hp).elim (λz=>I.pin p (fm _ z)) (h p),I.hok,I.len⟩
theorem zV{N:γ}(hN:N.Nodup){i j:Nat}{x:Str}(a:N[i]? =some x)(b:N[j]? =some x):i=j:=by obtain⟨h1,e1⟩:=bN.mp a;obtain⟨h2,e2⟩:=bN.mp b;exact(Q7 hN).mp (e1.trans e2.symm)
theorem F5{M:Model}{A:Around}{E:ρ}{i:Nat}{x:Str}{v:V}{u:Value}{Q:Unit->Shared->Prop}(I:Inv X pins σ H s)(hN:X.N.Nodup)(hi:X.N[i]? =some x)(hx:Loc X.env.scope x)(r:RelV v u) (h:∀s',Inv X pins (σ.set i (some v)) H s'->(∃a,Heap.SameBut a s.heap s'.heap/\(a=X.env.locals\/X.env.cells.lookup x=some a))->Q () s')(hf:X.fn x=true\/X.env.scope.names.lookup x=some .local:=by first |exact .inl rfl |exact .inr rfl |assumption):wpAny M A (storeName X.env x u) Q E s:=by
 obtain⟨m,hn,hl⟩:=id I.loc;have hcls:(X.env.scope.kind==.class||(X.env.scope.kind==.module&&X.env.locals !=X.env.globals))=false:=by rw[I.ok.kind];rfl
 have F6:i<σ.length:=by rw[I.len];exact(bN.mp hi).1
 have mQ:=I.mQ;have tracked:∀{a:Addr}{h':Heap},(∃o,s.heap.get? a=some o/\H a=none)->Heap.SameBut a s.heap h'->cu X.prog X.w H h':=λ{a h'} ha hs b ob e=>by
  obtain⟨_,_,hfree⟩:=ha;refine(I.hok b ob e).stay (λc w' hc q=>(hs.2 c ?_).trans q) (λ_ q=>q) λ_ _ q=>q
  rintro rfl
  rcases hc with rfl |hc
  ·rw[hfree]at e;cases e
  ·rw[hfree]at hc;cases hc
 rcases hx with hk |hk
 ·refine wpAny_storeName_local hk hn (λh' hn' hs=>?_) hcls;obtain⟨oL,_,_,hoL,_⟩:=id hn;refine h _ ⟨I.ok,I.os,I.bare,⟨λb o e n hb hx=>?_,λb o e n hb hx=>?_,I.base.free,λb o e hx=>?_,I.base.tups,I.base.iR,I.base.jN⟩,⟨_,hn',λj y v' e1 e2 e3=>?_⟩,λy c e=>?_,I.free,I.fC,λp hp=>?_,tracked ⟨oL,hoL,I.free⟩ hs,by simpa using I.len⟩ ⟨_,hs,.inl rfl⟩
  ·exact(hs.2 b (bQ (e7 (a7 e) I.ok.above))).trans (I.base.keep b o e n hb hx)
  ·obtain⟨sl,e1⟩:=I.base.slot b o e n hb hx;exact⟨sl,(hs.2 b (bQ (e7 (a7 e) I.ok.above))).trans e1⟩
  ·obtain⟨o',e1⟩:=I.base.there b o e hx;exact⟨o',(hs.2 b (bQ (e7 (a7 e) I.ok.above))).trans e1⟩
  ·by_cases hj:j=i
   ·subst hj;rw[hi]at e1;cases e1;rw[lC F6]at e2;cases e2;exact⟨u,r,.inl ⟨hk,by simp⟩⟩
   ·rw[nW (cq hj)]at e2;obtain⟨u',r',q⟩:=hl j y v' e1 e2 e3;refine⟨u',r',?_⟩;rcases q with ⟨k,e⟩ |⟨k,c,e,z⟩
    ·refine .inl ⟨k,?_⟩;have:y≠x:=λe=>hj (zV hN e1 (e▸hi))
     simp[this,e]
    ·exact .inr ⟨k,c,e,z.sameBut hs (mQ y c e)⟩
  ·obtain⟨w',z⟩:=I.cell y c e;exact⟨w',z.sameBut hs (mQ y c e)⟩
  ·obtain⟨e,n,ne,nf,d⟩:=I.pin p hp;exact⟨(hs.2 p.1 ne).trans e,n,ne,nf,d⟩
 ·have hfn:X.fn x=true:=by
   rcases hf with z |z
   ·exact z
   ·rw[z]at hk;cases hk
  obtain⟨c,hc⟩:=I.ok.has x (.inl hk);obtain⟨w',z⟩:=I.cell x c hc;refine wpAny_storeName_cell I.ok.kind hk hc z (λh' hc' hs=>?_);obtain⟨oc,hoc,RY⟩:=id z;refine h {s with heap:=h'} ⟨I.ok,I.os,I.bare,⟨λb o e n hb hx=>?_,λb o e n hb hx=>?_,I.base.free,λb o e hx=>?_,I.base.tups,I.base.iR,I.base.jN⟩,⟨m,hn.sameBut hs (cq (mQ x c hc)),λj y v' e1 e2 e3=>?_⟩,λy c' e=>?_,I.free,I.fC,λp hp=>?_,tracked ⟨oc,hoc,I.fC x c hc⟩ hs,by simpa using I.len⟩ ⟨c,hs,.inr hc⟩
  ·exact(hs.2 b (bQ (e7 (a7 e) (I.ok.lK x c hfn hc)))).trans (I.base.keep b o e n hb hx)
  ·obtain⟨sl,e1⟩:=I.base.slot b o e n hb hx;exact⟨sl,(hs.2 b (bQ (e7 (a7 e) (I.ok.lK x c hfn hc)))).trans e1⟩
  ·obtain⟨o',e1⟩:=I.base.there b o e hx;exact⟨o',(hs.2 b (bQ (e7 (a7 e) (I.ok.lK x c hfn hc)))).trans e1⟩
  ·by_cases hj:j=i
   ·subst hj;rw[hi]at e1;cases e1;rw[lC F6]at e2;cases e2;exact⟨u,r,.inr ⟨.inl hk,c,hc,hc'⟩⟩
   ·rw[nW (cq hj)]at e2;obtain⟨u',r',q⟩:=hl j y v' e1 e2 e3;refine⟨u',r',?_⟩;rcases q with q |⟨k,c',e,z'⟩
    ·exact .inl q
    ·refine .inr ⟨k,c',e,z'.sameBut hs ?_⟩
     rintro rfl
     exact hj (zV hN e1 (I.ok.inj _ _ _ e hc▸hi))
  ·by_cases hcc:c'=c
   ·subst hcc;exact⟨_,hc'⟩
   ·obtain⟨w2,z2⟩:=I.cell y c' e;exact⟨w2,z2.sameBut hs hcc⟩
  ·obtain⟨e,n,ne,nf,d⟩:=I.pin p hp;refine⟨(hs.2 p.1 ?_).trans e,n,ne,nf,d⟩;intro q;rw[q,hoc]at e;have q':oc=p.2:=b_ e;exact d w' (by rw[<-q'];exact RY)
theorem zW{M:Model}{A:Around}{E:ρ}{i:Nat}{x:Str}{v:V}{u:Value}{Q:Unit->Shared->Prop}(I:Inv X pins σ H s)(hN:X.N.Nodup)(hi:X.N[i]? =some x)(hx:Loc X.env.scope x)(r:RelV v u) (h:∀s',Inv X pins (σ.set i (some v)) H s'->Q () s')(hf:X.fn x=true\/X.env.scope.names.lookup x=some .local:=by first |exact .inl rfl |exact .inr rfl |assumption):wpAny M A (storeName X.env x u) Q E s:=F5 I hN hi hx r (λs' I' _=>h s' I') hf
theorem Inv.zX{s':Shared}{ch:θ}(I:Inv X pins σ H s)(ho:s'.os=s.os)(u:Un (frs X.stack) ch H H' s.heap s'.heap)(hok:cu X.prog X.w H' s'.heap)(hg:AllBare s'.gens) (hch:∀b∈ch,(b∈X.ex\/X.s₀.heap.objs.size<=b)/\b≠X.env.locals/\(∀x c,X.env.cells.lookup x=some c->c≠b)/\∀p∈X.pn++pins,p.1≠b):Inv X pins σ H' s':=by
 obtain⟨h',g',d',t',o'⟩:=s';have e:o'=s.os:=ho;subst e;exact I.call (g':=g') (t':=t') (d':=d') u hok hg hch
end
abbrev XK:=Value->Option Addr->Hp->Prop
abbrev St:=List (Option V)
abbrev VK:=V->Hp->Prop
abbrev TE:=St->Hp->VK->Prop
abbrev TT:=St->Hp->(Bool->Hp->Prop)->Prop
abbrev TA:=St->Hp->(List V->Hp->Prop)->Prop
structure Ends where
 nx:St->Hp->Prop
 rt:VK
 bk:St->Hp->Prop:=λ_ _=>False
 ct:St->Hp->Prop:=λ_ _=>False
abbrev TS:=Ends->St->Hp->Prop
def EP(X:Cx)(pins:η)(σ:St)(Q:VK)(u:Value)(s':Shared):Prop:=∃v H',Inv X pins σ H' s'/\RelV v u/\Q v H'
def TP(X:Cx)(pins:η)(σ:St)(Q:Bool->Hp->Prop)(b:Bool)(s':Shared):Prop:=∃H',Inv X pins σ H' s'/\Q b H'
def AP(X:Cx)(pins:η)(σ:St)(Q:List V->Hp->Prop)(us:ω)(s':Shared):Prop:=∃vs H',Inv X pins σ H' s'/\Vals vs us/\Q vs H'
def SP(X:Cx)(pins:η)(D:Ends)(f:Flow)(s':Shared):Prop:=match f with
 | .next=>∃σ' H',Inv X pins σ' H' s'/\D.nx σ' H'
 | .brk=>∃σ' H',Inv X pins σ' H' s'/\D.bk σ' H'
 | .cont=>∃σ' H',Inv X pins σ' H' s'/\D.ct σ' H'
 | .ret u=>∃v σ' H',Inv X pins σ' H' s'/\RelV v u/\D.rt v H'
def PE(X:Cx)(e:Expr)(t:TE):Prop:=∀(pins:η)(s:Shared)(σ:St)(H:Hp)(Q:VK),Inv X pins σ H s->t σ H Q->wpAny (model X.prog X.w) X.A (eval e X.env) (EP X pins σ Q) X.xe s
def PT(X:Cx)(e:Expr)(t:TT):Prop:=∀(pins:η)(s:Shared)(σ:St)(H:Hp)(Q:Bool->Hp->Prop),Inv X pins σ H s->t σ H Q->wpAny (model X.prog X.w) X.A (isTrue e X.env (eval e X.env)) (TP X pins σ Q) X.xe s
def PW(X:Cx)(e:Expr)(t:TT):Prop:=∀(whole:Sem Value)(pins:η)(s:Shared)(σ:St)(H:Hp)(Q:Bool->Hp->Prop),Inv X pins σ H s->t σ H Q->wpAny (model X.prog X.w) X.A (isTrue e X.env whole) (TP X pins σ Q) X.xe s
theorem PW.pt{X:Cx}{e:Expr}{t:TT}(h:PW X e t):PT X e t:=h _
def PA(X:Cx)(es:List Expr)(t:TA):Prop:=∀(pos:Pos)(pins:η)(s:Shared)(σ:St)(H:Hp)(Q:List V->Hp->Prop),Inv X pins σ H s->t σ H Q->wpAny (model X.prog X.w) X.A (spliced (backTo pos (starEach es X.env))) (AP X pins σ Q) X.xe s
def PS(X:Cx)(st:Stmt)(t:TS):Prop:=∀(pins:η)(s:Shared)(σ:St)(H:Hp)(D:Ends),Inv X pins σ H s->t D σ H->wpAny (model X.prog X.w) X.A (exec st X.env) (SP X pins D) X.xe s
def dP(X:Cx)(st:List Stmt)(t:TS):Prop:=∀(pins:η)(s:Shared)(σ:St)(H:Hp)(D:Ends),Inv X pins σ H s->t D σ H->wpAny (model X.prog X.w) X.A (execs st X.env) (SP X pins D) X.xe s
theorem aG{α:Type}{t:Sem α}{Q Q':α->Shared->Prop}{M:Model}{A:Around}{E:ρ}{s:Shared}(h:wpAny M A t Q E s)(hQ:∀a s,Q a s->Q' a s):wpAny M A t Q' E s:=di h hQ λ_ _ x=>x
section
variable{X:Cx}
inductive dX(i:Nat)(σ:St)(H:Hp)(Q:VK):Prop
 |mk v:σ[i]? =some (some v)->Q v H->dX i σ H Q
def tC(v:V):TE:=λ_ H Q=>Q v H
theorem F7{i:Nat}{x:Str}{pos:Pos}(hN:X.N[i]? =some x)(hv:qO X.env.scope x)(hd:(x==("__debug__" :Str))=false:=by decide)(hcd:(x==("__classdict__" :Str))=false:=by decide):PE X (.Name x pos) (dX i):=by
 intro pins s σ H Q I h;obtain⟨v,e,h⟩:=h;obtain⟨m,hn,hl⟩:=I.loc;obtain⟨u,r,l⟩:=hl i x v hN e hv;have fin:EP X pins σ Q u s:=⟨v,H,I,r,h⟩;rcases l with ⟨hk,hm⟩ |⟨hk,c,hc,hcell⟩
 ·exact wpAny_Name (wpAny_loadName_local I.ok.kind hk hn hm fin) hd
 ·rcases hk with hk |hk
  ·exact wpAny_Name (wpAny_loadName_cell I.ok.kind hk hc hcell fin) hd
  ·exact wpAny_Name (wpAny_loadName_free I.ok.kind hk hc hcell fin hcd) hd
theorem aF{i j pos}:PE X (.Constant (.int i) j pos) (tC (.int i)):=λ_ _ _ H _ I h=>wpAny_Constant_int ⟨.int i,H,I.tok _,⟨_,rfl⟩,h⟩
theorem mS{b j pos}:PE X (.Constant (.bool b) j pos) (tC (.bl b)):=λ_ _ _ H _ I h=>Constant_bool ⟨.bl b,H,I,rfl,h⟩
theorem e_{j pos}:PE X (.Constant .none j pos) (tC .aw):=λ_ _ _ H _ I h=>Constant_none ⟨.aw,H,I,rfl,h⟩
theorem bq{x j pos}:PE X (.Constant (.str x) j pos) (tC (.str x)):=λ_ _ _ H _ I h=>Calls.Constant_str ⟨.str x,H,I.tok _,⟨_,rfl⟩,h⟩
def Gl(X:Cx)(x:Str):Prop:=X.env.kindOf x=some .globalImplicit
theorem ow{E:ρ}{pins:η}{s:Shared}{σ:St}{H:Hp}{x:Str}{u:Value}{pos:Pos}{Q:ρ}(I:Inv X pins σ H s)(hg:Gl X x)(hm:X.mg x=some u)(h:Q u s) (hd:(x==("__debug__" :Str))=false:=by decide):wpAny (model X.prog X.w) X.A (eval (.Name x pos) X.env) Q E s:=Calls.Name_function_global I.ok.kind hg (Calls.loadGlobal_global (by rw[I.ok.glob];exact I.mod.glob.keeps I.bk) hm h) hd
theorem qP{E:ρ}{pins:η}{s:Shared}{σ:St}{H:Hp}{x:Str}{u:Value}{pos:Pos}{Q:ρ}(I:Inv X pins σ H s)(hg:Gl X x)(hm:X.mg x=none)(hv:bootBuiltins x=some u)(h:Q u s) (hn:x≠ "__name__":=by decide)(hd:(x==("__debug__" :Str))=false:=by decide):wpAny (model X.prog X.w) X.A (eval (.Name x pos) X.env) Q E s:=by
 obtain⟨mb,h1,h2⟩:=I.mod.blt;exact Calls.Name_function_global I.ok.kind hg (Calls.loadGlobal_builtin (by rw[I.ok.glob];exact I.mod.glob.keeps I.bk) hm (by rw[I.ok.blt];exact h1.keeps I.bk) ((h2 x hn).trans hv) h) hd
theorem iU{x:Str}{v:V}{u:Value}{pos:Pos}(hg:Gl X x)(hm:X.mg x=some u)(r:RelV v u)(hd:(x==("__debug__" :Str))=false:=by decide):PE X (.Name x pos) (tC v):=λ_ _ _ H _ I h=>ow I hg hm ⟨v,H,I,r,h⟩ hd
variable{a b:Expr}{ta tb:TE}{pos:Pos}
def PC(X:Cx)(op:CmpOp)(a b:Expr)(t:TE):Prop:=∀(pins:η)(s:Shared)(σ:St)(H:Hp)(Q:VK),Inv X pins σ H s->t σ H Q->wpAny (model X.prog X.w) X.A (eval a X.env) (λv s₁=>wpAny (model X.prog X.w) X.A (eval b X.env) (λu s₂=>wpAny (model X.prog X.w) X.A (compareOp op v u) (EP X pins σ Q) X.xe s₂) X.xe s₁) X.xe s
theorem F8(b:Expr){op:CmpOp}(h:op≠ .In)(h2:op≠ .NotIn):behindInMarks op b=false:=by
 have e1:(op==CmpOp.In)=false:=by cases op<;>first |rfl |exact absurd rfl h
 have e2:(op==CmpOp.NotIn)=false:=by cases op<;>first |rfl |exact absurd rfl h2
 cases b<;>simp[behindInMarks,e1,e2]
def RZ(ta:TE):TE:=λσ H Q=>ta σ H λx H1=>Q (.bl (decide (x=.aw))) H1
def F9(ta:TE):TE:=λσ H Q=>ta σ H λx H1=>Q (.bl (!decide (x=.aw))) H1
theorem RelV.F_{x:V}{v:Value}(r:RelV x v):(v==Value.none)=decide (x=.aw):=by
 cases x with
 |aw=>cases r;rfl
 |bl _=>cases r;rfl
 |int _=>obtain⟨t,rfl⟩:=r;rfl
 |str _=>obtain⟨t,rfl⟩:=r;rfl
 |gL _=>obtain⟨t,rfl⟩:=r;rfl
 |flt _=>obtain⟨t,rfl⟩:=r;rfl
 |ref _=>cases r;rfl
 |ty _=>cases r;rfl
theorem ig{j pos'}(ha:PE X a ta):PC X .Is a (.Constant .none j pos') (RZ ta):=by
 intro pins s σ H Q I h;refine aG (ha pins s σ H _ I h) λv s1 ⟨x,H1,I1,r1,q1⟩=>?_
 exact Constant_none (is_none_gen ⟨.bl _,H1,I1,by rw[r1.F_];rfl,q1⟩)
theorem lP{j pos'}(ha:PE X a ta):PC X .IsNot a (.Constant .none j pos') (F9 ta):=by
 intro pins s σ H Q I h;refine aG (ha pins s σ H _ I h) λv s1 ⟨x,H1,I1,r1,q1⟩=>?_
 exact Constant_none (isnot_none_gen ⟨.bl _,H1,I1,by rw[r1.F_];rfl,q1⟩)
inductive Ga(Q:(Bool->Hp->Prop))(x:V)(H1:Hp):Prop
 |mk c:x=.bl c->Q c H1->Ga Q x H1
def tB(t:TE):TT:=λσ H Q=>t σ H λx H1=>Ga Q x H1
theorem R9{op:CmpOp}{t:TE}(h:PC X op a b t)(h1:behindInMarks op b=false:=by first |exact F8 _ (by decide) (by decide) |rfl):PE X (.Compare a [op] [b] pos) t:=λpins s σ H Q I hw=>wpAny_Compare1 (h pins s σ H Q I hw) h1
theorem cG{op:CmpOp}{t:TE}(h:PC X op a b t)(h1:behindInMarks op b=false:=by first |exact F8 _ (by decide) (by decide) |rfl):PT X (.Compare a [op] [b] pos) (tB t):=by intro pins s σ H Q I hw;refine wpAny_isTrue_Compare1 (aG (h pins s σ H _ I hw) λv s1 h1=>aG h1 λu s2 h2=>aG h2 λc s3 ⟨x,H1,I1,r1,q1⟩=>?_) h1;obtain⟨d,rfl,q⟩:=q1;cases r1;exact nX ⟨H1,I1,q⟩
theorem jv{e:Expr}{t:TE}(h:PE X e t)(he:∀whole,isTrue e X.env whole=(do let v<-whole;standAt e.pos;holding [v] (truthy v)):=by intro _;rfl):PT X e (tB t):=by intro pins s σ H Q I hw;refine isTrue_plain (aG (h pins s σ H _ I hw) λv s1 ⟨x,H1,I1,r1,q1⟩=>?_) (he _);obtain⟨d,rfl,q⟩:=q1;cases r1;exact nX ⟨H1,I1,q⟩
variable{tA wx:TT}{rest:List Expr}
def zY(t u:TT):TT:=λσ H Q=>t σ H λc H1=>if c=true then u σ H1 Q else Q false H1
def R_(t u:TT):TT:=λσ H Q=>t σ H λc H1=>if c=true then Q true H1 else u σ H1 Q
def Sa(t:TT):TT:=λσ H Q=>t σ H λc H1=>Q (!c) H1
theorem jP(ha:PT X a tA):PW X (.BoolOp .And [a] pos) tA:=by
 intro wh pins s σ H Q I h;refine isTrue_and (aG (ha pins s σ H Q I h) λc s1 e=>?_);cases c with
 |true=>exact isTrue_and_nil e
 |false=>exact e
theorem lQ(ha:PT X a tA):PW X (.BoolOp .Or [a] pos) tA:=by
 intro wh pins s σ H Q I h;refine isTrue_or (aG (ha pins s σ H Q I h) λc s1 e=>?_);cases c with
 |false=>exact isTrue_or_nil e
 |true=>exact e
theorem jw(ha:PT X a tA)(hb:PW X (.BoolOp .And (b::rest) pos) wx):PW X (.BoolOp .And (a::b::rest) pos) (zY tA wx):=by
 intro wh pins s σ H Q I h;refine isTrue_and (aG (ha pins s σ H _ I h) λc s1 ⟨H1,I1,q1⟩=>?_);cases c with
 |true=>exact hb wh pins s1 σ H1 Q I1 q1
 |false=>exact⟨H1,I1,q1⟩
theorem lR(ha:PT X a tA)(hb:PW X (.BoolOp .Or (b::rest) pos) wx):PW X (.BoolOp .Or (a::b::rest) pos) (R_ tA wx):=by
 intro wh pins s σ H Q I h;refine isTrue_or (aG (ha pins s σ H _ I h) λc s1 ⟨H1,I1,q1⟩=>?_);cases c with
 |true=>exact⟨H1,I1,q1⟩
 |false=>exact hb wh pins s1 σ H1 Q I1 q1
theorem ox(ha:PT X a tA):PT X (.UnaryOp .Not a pos) (Sa tA):=by intro pins s σ H Q I h;exact isTrue_not (ha pins s σ H (λc H1=>Q (!c) H1) I h)
inductive Gb(tb:TE)(σ:St)(Q:VK)(x:V)(H1:Hp):Prop
 |mk c:x=.bl c->(if c=true then tb σ H1 Q else Q (.bl false) H1)->Gb tb σ Q x H1
def Sb(ta tb:TE):TE:=λσ H Q=>ta σ H λx H1=>Gb tb σ Q x H1
inductive Gc(tb:TE)(σ:St)(Q:VK)(x:V)(H1:Hp):Prop
 |mk c:x=.bl c->(if c=true then Q (.bl true) H1 else tb σ H1 Q)->Gc tb σ Q x H1
def Sd(ta tb:TE):TE:=λσ H Q=>ta σ H λx H1=>Gc tb σ Q x H1
theorem zZ{op}{t:TE}(h:PE X a t):PE X (.BoolOp op [a] pos) t:=λpins s σ H Q I hw=>BoolOp_one (h pins s σ H Q I hw)
theorem z5(ha:PE X a ta)(hb:PE X (.BoolOp .And (b::rest) pos) tb):PE X (.BoolOp .And (a::b::rest) pos) (Sb ta tb):=by
 intro pins s σ H Q I h;refine BoolOp_and (aG (ha pins s σ H _ I h) λv s1 ⟨x,H1,I1,r1,q1⟩=>?_);obtain⟨c,rfl,q1⟩:=q1;cases r1;refine nX ?_;cases c with
 |true=>exact hb pins s1 σ H1 Q I1 q1
 |false=>exact⟨.bl false,H1,I1,rfl,q1⟩
theorem Gd(ha:PE X a ta)(hb:PE X (.BoolOp .Or (b::rest) pos) tb):PE X (.BoolOp .Or (a::b::rest) pos) (Sd ta tb):=by
 intro pins s σ H Q I h;refine BoolOp_or (aG (ha pins s σ H _ I h) λv s1 ⟨x,H1,I1,r1,q1⟩=>?_);obtain⟨c,rfl,q1⟩:=q1;cases r1;refine nX ?_;cases c with
 |false=>exact hb pins s1 σ H1 Q I1 q1
 |true=>exact⟨.bl true,H1,I1,rfl,q1⟩
def z7(t:TT)(ta tb:TE):TE:=λσ H Q=>t σ H λc H1=>if c=true then ta σ H1 Q else tb σ H1 Q
theorem gM{c:Expr}(hc:PT X c tA)(ha:PE X a ta)(hb:PE X b tb):PE X (.IfExp c a b pos) (z7 tA ta tb):=by
 intro pins s σ H Q I h;refine wpAny_IfExp (aG (hc pins s σ H _ I h) λd s1 ⟨H1,I1,q1⟩=>?_);cases d with
 |true=>exact ha pins s1 σ H1 Q I1 q1
 |false=>exact hb pins s1 σ H1 Q I1 q1
end
def aj(K:ax)(H:Hp)(a:Addr)(xs:ε):Prop:=Rd H a (.lst xs)\/ ∃(o:Obj)(its:Array Value)(n:Nat),K.lookup a=some o/\o.cls=.type "list" /\o.dict=none/\o.data=.seq its n/\its.size<=sizeLine/\Vals xs its.toList
def aV(K:ax)(H:Hp)(a:Addr)(xs:ε):Prop:=Rd H a (.tup xs)\/ ∃(o:Obj)(its:Array Value)(n:Nat),K.lookup a=some o/\o.cls=.type "tuple" /\o.data=.seq its n/\its.size<=sizeLine/\Vals xs its.toList
def Se:Value->Option V
 | .none=>some .aw
 | .bool b=>some (.bl b)
 | .int i _=>some (.int i)
 | .str x _=>some (.str x)
 | .bytes b _=>some (.gL b)
 | .float b _=>some (.flt b)
 | .ref a=>some (.ref a)
 | .type n=>some (.ty n)
 |_=>none
theorem RelV.abs{x:V}{u:Value}(r:RelV x u):Se u=some x:=by
 cases x with
 |aw=>cases r;rfl
 |bl _=>cases r;rfl
 |int _=>obtain⟨t,rfl⟩:=r;rfl
 |str _=>obtain⟨t,rfl⟩:=r;rfl
 |gL _=>obtain⟨t,rfl⟩:=r;rfl
 |flt _=>obtain⟨t,rfl⟩:=r;rfl
 |ref _=>cases r;rfl
 |ty _=>cases r;rfl
theorem RelV.inj{x y:V}{u:Value}(r:RelV x u)(q:RelV y u):x=y:=b_ (r.abs.symm.trans q.abs)
theorem Vals.inj:∀{xs ys:ε}{us:ω},Vals xs us->Vals ys us->xs=ys
 |_,_,_,.nil,.nil=>rfl
 |_,_,_,.cons r t,.cons r' t'=>by rw[r.inj r',Vals.inj t t']
section
variable{X:Cx}{pins:η}{σ:St}{H:Hp}{s:Shared}{a:Addr}{xs ys:ε}
theorem aj.of{K:ax}(h:H a=some (.lst xs)):aj K H a xs:=.inl (.inl h)
theorem aV.of{K:ax}(h:H a=some (.tup xs)):aV K H a xs:=.inl (.inl h)
theorem Inv.list(I:Inv X pins σ H s)(h:aj X.K H a xs):∃its:List Value,Vals xs its/\PlainL s.heap a its.toArray/\xs.length<=sizeLine:=by
 rcases h with h |⟨o,its,n,hk,hc,hd,hs,hz,r⟩
 ·obtain⟨z,its,n,r,e⟩:=h.ok I.hok;exact⟨its,r,⟨_,n,e,rfl,rfl,rfl⟩,z⟩
 ·refine⟨its.toList,r,⟨o,n,I.bO a o hk,hc,hd,by simpa using hs⟩,?_⟩;have e:=r.length;simp only[gI]at e;omega
theorem Inv.tuple(I:Inv X pins σ H s)(h:aV X.K H a xs):∃its:List Value,Vals xs its/\IsTup s.heap a its.toArray/\xs.length<=sizeLine:=by
 rcases h with h |⟨o,its,n,hk,hc,hs,hz,r⟩
 ·obtain⟨z,its,r,p⟩:=h.ok I.hok;exact⟨its,r,p,z⟩
 ·refine⟨its.toList,r,⟨o,I.bO a o hk,hc,n,by simpa using hs⟩,?_⟩;have e:=r.length;simp only[gI]at e;omega
theorem Inv.wy(I:Inv X pins σ H s)(h:aj X.K H a xs)(h':aj X.K H a ys):xs=ys:=by
 obtain⟨its,r,⟨o,n,e,_,_,d⟩,_⟩:=I.list h;obtain⟨its',r',⟨o',n',e',_,_,d'⟩,_⟩:=I.list h';rw[e]at e';cases e';rw[d]at d';injection d' with d1 _
 have:its=its':=by simpa using c7 Array.toList d1
 subst this;exact r.inj r'
theorem Inv.Sf(I:Inv X pins σ H s)(h:aV X.K H a xs)(h':aV X.K H a ys):xs=ys:=by
 obtain⟨its,r,⟨o,e,_,n,d⟩,_⟩:=I.tuple h;obtain⟨its',r',⟨o',e',_,n',d'⟩,_⟩:=I.tuple h';rw[e]at e';cases e';rw[d]at d';injection d' with d1 _
 have:its=its':=by simpa using c7 Array.toList d1
 subst this;exact r.inj r'
end
abbrev Cx.c9(X:Cx)(E:ρ):Cx:= {X with xe:=E}
abbrev Cx.bZ(X:Cx):Cx:=X.c9 λ_ _=>False
theorem Cx.Ok.c9{X:Cx}(ok:X.Ok)(E:ρ):(X.c9 E).Ok:=⟨ok.mod,ok.kind,ok.glob,ok.blt,ok.above,ok.inj,ok.has,ok.lK,ok.hd,ok.frames,ok.stk,ok.mP,ok.bs,ok.iT,ok.lL,ok.lO,ok.fO,ok.jO⟩
theorem Cx.Ok.iV{X:Cx}{E:ρ}(ok:(X.c9 E).Ok):X.Ok:=⟨ok.mod,ok.kind,ok.glob,ok.blt,ok.above,ok.inj,ok.has,ok.lK,ok.hd,ok.frames,ok.stk,ok.mP,ok.bs,ok.iT,ok.lL,ok.lO,ok.fO,ok.jO⟩
section
variable{X:Cx}{pins:η}{σ:St}{H:Hp}{s:Shared}{E:ρ}
theorem Inv.c9(I:Inv X pins σ H s)(E:ρ):Inv (X.c9 E) pins σ H s:=⟨I.ok.c9 E,I.os,I.bare,I.base,I.loc,I.cell,I.free,I.fC,I.pin,I.hok,I.len⟩
theorem Inv.iV(I:Inv (X.c9 E) pins σ H s):Inv X pins σ H s:=⟨I.ok.iV,I.os,I.bare,I.base,I.loc,I.cell,I.free,I.fC,I.pin,I.hok,I.len⟩
theorem SP.iV{D:Ends}{f:Flow}{s':Shared}(h:SP (X.c9 E) pins D f s'):SP X pins D f s':=by
 cases f with
 |next=>obtain⟨σ',H',I,q⟩:=h;exact⟨σ',H',I.iV,q⟩
 |brk=>obtain⟨σ',H',I,q⟩:=h;exact⟨σ',H',I.iV,q⟩
 |cont=>obtain⟨σ',H',I,q⟩:=h;exact⟨σ',H',I.iV,q⟩
 |ret u=>obtain⟨v,σ',H',I,r,q⟩:=h;exact⟨v,σ',H',I.iV,r,q⟩
theorem dP.bZ{st:List Stmt}{t:TS}(h:dP X.bZ st t):dP X st t:=λpins s σ H D I hw=>di (h pins s σ H D (I.c9 _) hw) (λ_ _ q=>q.iV) λ_ _ z=>False.elim z
end
section
variable{X:Cx}{st:Stmt}{rest:List Stmt}{t u:TS}{e:Expr}{te:TE}{pos:Pos}
def wz:TS:=λD σ H=>D.nx σ H
def Ge(t u:TS):TS:=λD σ H=>t {D with nx:=u D} σ H
theorem aR:dP X [] wz:=λ_ _ σ H _ I h=>Ft ⟨σ,H,I,h⟩
theorem ak(h1:PS X st t)(h2:dP X rest u):dP X (st::rest) (Ge t u):=by
 intro pins s σ H D I h;refine wpAny_execs_cons (aG (h1 pins s σ H {D with nx:=u D} I h) λf s1 q=>?_);cases f with
 |next=>obtain⟨σ',H',I',q⟩:=q;exact h2 pins s1 σ' H' D I' q
 |ret v=>exact q
 |brk=>exact q
 |cont=>exact q
theorem aq(h1:PS X st t):dP X [st] t:=by
 intro pins s σ H D I h;refine wpAny_execs_cons (aG (h1 pins s σ H D I h) λf s1 q=>?_);cases f with
 |next=>exact Ft q
 |ret v=>exact q
 |brk=>exact q
 |cont=>exact q
def Sg:TS:=λD σ H=>D.ct σ H
theorem z8:PS X (.Continue pos) Sg:=λ_ _ σ H _ I h=>wpAny_Continue ⟨σ,H,I,h⟩
theorem Inv.quiet{pins:η}{σ:St}{H:Hp}{s:Shared}(I:Inv X pins σ H s):interactive X.env=false:=by simp[interactive,I.ok.kind]
def Sh(te:TE):TS:=λD σ H=>te σ H λ_ H1=>D.nx σ H1
theorem eA(he:PE X e te)(hs:swapsWith e none pos.line X.env=pure false:=by rfl):PS X (.Expr e pos) (Sh te):=by intro pins s σ H D I h;exact wpAny_Expr_any (aG (he pins s σ H _ I h) λv s1 ⟨x,H1,I1,r1,q1⟩=>⟨σ,H1,I1,q1⟩) I.quiet hs
def Gf(te:TE):TS:=λD σ H=>te σ H D.rt
theorem aC(he:PE X e te):PS X (.Return (some e) pos) (Gf te):=by intro pins s σ H D I h;exact wpAny_Return_some (aG (he pins s σ H _ I h) λv s1 ⟨x,H1,I1,r1,q1⟩=>⟨x,σ,H1,I1,r1,q1⟩)
def Si:TS:=λD _ H=>D.rt .aw H
theorem Sj:PS X (.Return none pos) Si:=λ_ _ σ H _ I h=>wpAny_Return_none ⟨.aw,σ,H,I,rfl,h⟩
def Gg(c:TT)(t u:TS):TS:=λD σ H=>c σ H λb H1=>if b=true then t D σ H1 else u D σ H1
theorem aP{c:Expr}{a b:List Stmt}{tc:TT}(hc:PT X c tc)(ha:dP X a t)(hb:dP X b u):PS X (.If c a b pos) (Gg tc t u):=by
 intro pins s σ H D I h;refine wpAny_If (aG (hc pins s σ H _ I h) λd s1 ⟨H1,I1,q1⟩=>?_);cases d with
 |true=>exact ha pins s1 σ H1 D I1 q1
 |false=>exact hb pins s1 σ H1 D I1 q1
end
abbrev TG:=V->St->Hp->(St->Hp->Prop)->Prop
abbrev qQ:=List V->St->Hp->(St->Hp->Prop)->Prop
def PG(X:Cx)(target:Expr)(t:TG):Prop:=∀(pins:η)(s:Shared)(σ:St)(H:Hp)(v:V)(u:Value)(Q:St->Hp->Prop),Inv X pins σ H s->RelV v u->t v σ H Q->wpAny (model X.prog X.w) X.A (assign target X.env u) (λ_ s'=>∃σ' H',Inv X pins σ' H' s'/\Q σ' H') X.xe s
def wA(X:Cx)(ts:List Expr)(t:qQ):Prop:=∀(pins:η)(s:Shared)(σ:St)(H:Hp)(vs:ε)(us:ω)(Q:St->Hp->Prop),Inv X pins σ H s->Vals vs us->t vs σ H Q->wpAny (model X.prog X.w) X.A (assignInOrder ((assignEach ts X.env).map (·.2)) us) (λ_ s'=>∃σ' H',Inv X pins σ' H' s'/\Q σ' H') X.xe s
abbrev z9:=V->V->V->Hp->(Hp->Prop)->Prop
def Gh(X:Cx)(t:z9):Prop:=∀(pins:η)(s:Shared)(σ:St)(H:Hp)(o i v:V)(ov iv u:Value)(Q:Hp->Prop),Inv X pins σ H s->RelV o ov->RelV i iv->RelV v u->t o i v H Q->wpAny (model X.prog X.w) X.A (setItem ov iv u) (λ_ s'=>∃H',Inv X pins σ H' s'/\Q H') X.xe s
section
variable{X:Cx}{pos:Pos}
def cW(i:Nat):TG:=λv σ H Q=>Q (σ.set i (some v)) H
theorem bD(i:Nat){x:Str}(hN:X.N.Nodup)(hi:X.N[i]? =some x:=by rfl)(hx:Loc X.env.scope x:=by first |exact Or.inl rfl |exact Or.inr rfl)(hf:X.fn x=true\/X.env.scope.names.lookup x=some .local:=by first |exact .inl rfl |exact .inr rfl |assumption):PG X (.Name x pos) (cW i):=by intro pins s σ H v u Q I r h;exact wpAny_assign_Name (zW I hN hi hx r (λs' I'=>⟨_,H,I',h⟩) hf)
def kl:qQ:=λvs σ H Q=>vs=[]/\Q σ H
inductive eC(t:TG)(u:qQ)(vs:ε)(σ:St)(H:Hp)(Q:(St->Hp->Prop)):Prop
 |mk v r:vs=v::r->(t v σ H λσ' H'=>u r σ' H' Q)->eC t u vs σ H Q
theorem mT:wA X [] kl:=by intro pins s σ H vs us Q I r h;obtain⟨e,h⟩:=h;subst e;cases r;exact assignInOrder_nil ⟨σ,H,I,h⟩
theorem fQ{e:Expr}{es:List Expr}{t:TG}{u:qQ}(h1:PG X e t)(h2:wA X es u) (hs:(assignEach (e::es) X.env).map (·.2)=assign e X.env::(assignEach es X.env).map (·.2):=by rfl):wA X (e::es) (eC t u):=by
 intro pins s σ H vs us Q I r h;obtain⟨v,vr,e1,h⟩:=h;subst e1;cases r with
 |cons r rr=>rw[hs];refine assignInOrder_cons (aG (h1 pins s σ H _ _ _ I r h) λ_ s1 ⟨σ1,H1,I1,q1⟩=>?_);exact h2 pins s1 σ1 H1 _ _ Q I1 rr q1
inductive jQ(K:ax)(n:Nat)(t:qQ)(v:V)(σ:St)(H:Hp)(Q:(St->Hp->Prop)):Prop
 |mk a xs:v=.ref a->aV K H a xs->xs.length=n->t xs σ H Q->jQ K n t v σ H Q
theorem mU{es:List Expr}{k:Nat}{t:qQ}{n:Nat}(hc:X.calm=true)(h:wA X es t) (hn:(assignEach es X.env).length=n:=by rfl)(hst:(assignEach es X.env).findIdx? (·.1)=none:=by rfl):PG X (.Tuple es k pos) (jQ X.K n t):=by
 intro pins s σ H v u Q I r hw;obtain⟨a,xs,e1,hq,hl,hw⟩:=hw;subst e1;cases r;obtain⟨its,rv,ht,hz⟩:=I.tuple hq;refine assign_Tuple_tuple (I.ok.hd hc) ht (by simp[hn,<-hl,rv.length]) hst λh' hx=>?_
 have I1:Inv X pins σ H {s with heap:=h'}:=I.kept (t':=s.toks) λb o e=>hx b o (bQ (a7 e)) e
 exact h pins _ σ H xs _ Q I1 (by simpa using rv) hw
def Sk(to ti:TE)(t:z9):TG:=λv σ H Q=>to σ H λo H1=>ti σ H1 λi H2=>t o i v H2 λH3=>Q σ H3
theorem oy{o i:Expr}{to ti:TE}{t:z9}(ho:PE X o to)(hi:PE X i ti)(hs:Gh X t) (ha:∀v,assign (.Subscript o i pos) X.env v=(do
   let ov<-holding [v] (eval o X.env)
   let iv<-holding [v,ov] (eval i X.env)
   standAt pos
   holding [v,ov,iv] (setItem ov iv v)
   release [v,ov,iv] []):=by intro _;rfl):PG X (.Subscript o i pos) (Sk to ti t):=by
 intro pins s σ H v u Q I r h;rw[ha];refine ai (jn (aG (ho pins s σ H _ I h) λov s1 ⟨x,H1,I1,r1,q1⟩=>?_));refine ai (jn (aG (hi pins s1 σ H1 _ I1 q1) λiv s2 ⟨y,H2,I2,r2,q2⟩=>?_));refine ai (vL (ai (jn (aG (hs pins s2 σ H2 x y v ov iv u _ I2 r1 r2 r q2) λ_ s3 ⟨H3,I3,q3⟩=>?_))));exact wpAny_release ⟨σ,H3,I3,q3⟩
def wB(te:TE)(g:TG):TS:=λD σ H=>te σ H λx H1=>g x σ H1 D.nx
theorem oz{tg e:Expr}{te:TE}{g:TG}(he:PE X e te)(hg:PG X tg g)(hs:swapsWithSole [tg] e pos.line X.env=pure false:=by rfl)(hw:swappedStores [tg] e X.env=pure none:=by rfl) (h1:(assignEach [tg] X.env).map (·.2)=[assign tg X.env]:=by rfl):PS X (.Assign [tg] e pos) (wB te g):=by
 intro pins s σ H D I h;refine wpAny_Assign_stores (aG (he pins s σ H _ I h) λv s1 ⟨x,H1,I1,r1,q1⟩=>?_) hs hw;rw[h1];exact aG (hg pins s1 σ H1 x v _ I1 r1 q1) λ_ s2 q=>q
theorem aS(i:Nat){x:Str}{e:Expr}{te:TE}{pos':Pos}(hN:X.N.Nodup)(he:PE X e te)(hi:X.N[i]? =some x:=by rfl)(hx:Loc X.env.scope x:=by first |exact Or.inl rfl |exact Or.inr rfl)(hs:swapsWith e (some (.Name x pos')) pos.line X.env=pure false:=by rfl)(hf:X.fn x=true\/X.env.scope.names.lookup x=some .local:=by first |exact .inl rfl |exact .inr rfl |assumption):PS X (.Assign [.Name x pos'] e pos) (wB te (cW i)):=by
 intro pins s σ H D I h;refine wpAny_Assign_Name (aG (he pins s σ H _ I h) λv s1 ⟨y,H1,I1,r1,q1⟩=>?_) hs;exact zW I1 hN hi hx r1 (λs2 I2=>⟨_,H1,I2,q1⟩) hf
end
section
variable{X:Cx}{pos:Pos}
def Gi(c:TT)(tb:TS):TS:=λD σ H=>∃W:Nat->St->Hp->Prop,(∃m,W m σ H)/\∀m σ H,W m σ H->c σ H λb H1=>if b=true then ∃N:St->Hp->Prop,(∀σ' H',N σ' H'->∃m',m'<m/\W m' σ' H')/\tb {D with nx:=N,ct:=N,bk:=D.nx} σ H1 else D.nx σ H1
theorem sV{c:Expr}{body:List Stmt}{tc:TT}{tb:TS}(hp:PassesOwn (model X.prog X.w) X.A X.env X.xe)(hc:PT X c tc)(hb:dP X body tb):PS X (.While c body [] pos) (Gi tc tb):=by
 intro pins s σ H D I h;obtain⟨W,⟨m0,w0⟩,turn⟩:=h;refine wpAny_While (codeAny_whileLoop (λn s'=>∃σ' H',Inv X pins σ' H' s'/\W n σ' H') ?_ m0 ⟨σ,H,I,w0⟩)
 rintro n s1 ⟨σ1,H1,I1,w1⟩
 refine sD hp (aG (hc pins s1 σ1 H1 _ I1 (turn n σ1 H1 w1)) λb s2 ⟨H2,I2,q2⟩=>?_);cases b with
 |true=>
  obtain⟨N,hN,q2⟩:=q2;rw[ah rfl];refine sD hp (aG (hb pins s2 σ1 H2 _ I2 q2) λf s3 q3=>?_);cases f with
  |next=>obtain⟨σ3,H3,I3,n3⟩:=q3;obtain⟨m',hm,w3⟩:=hN σ3 H3 n3;exact⟨m',hm,σ3,H3,I3,w3⟩
  |cont=>obtain⟨σ3,H3,I3,n3⟩:=q3;obtain⟨m',hm,w3⟩:=hN σ3 H3 n3;exact⟨m',hm,σ3,H3,I3,w3⟩
  |brk=>exact q3
  |ret v=>exact q3
 |false=>rw[af cM];exact Ft ⟨σ1,H2,I2,q2⟩
end
structure It where
 go:Nat->Hp->Prop
 gN:Nat->Hp->V->Hp->Prop
 stop:Nat->Hp->Prop
def fD(X:Cx)(pins:η)(H:Hp)(b:Addr):Prop:=H b=none/\b≠X.env.locals/\b ∉ X.fs/\(b∈X.ex\/X.s₀.heap.objs.size<=b)/\(∀x c,X.env.cells.lookup x=some c->c≠b)/\∀p∈X.pn++pins,p.1≠b
theorem Inv.jx{X:Cx}{pins:η}{σ:St}{H H':Hp}{s:Shared}{b:Addr}(I:Inv X pins σ H s)(hb:s.heap.objs.size<=b)(hn:H' b=none):fD X pins H' b:=by
 refine⟨hn,mG (e7 I.lt hb),I.RX hb,.inr (bE I.sz hb),λx c e z=>?_,λp hp z=>?_⟩
 ·obtain⟨v,q⟩:=I.cell x c e;exact absurd (e7 q.lt (by rw[z];exact hb)) (mF _)
 ·exact absurd (e7 (a7 (I.pin p hp).1) (by rw[z];exact hb)) (mF _)
structure mE(P:Program)(w:World)(K:ax)(tg:Expr)(J:It)(fp:θ)(it:Addr)(tn:Nat->Heap->Prop):Prop where
 mem:it∈fp
 obj:∀i h,tn i h->∀b∈fp,∃o,h.get? b=some o/\∀v,o.data≠ .cell v
 keep:∀i h h',tn i h->(∀b∈fp,∀o,h.get? b=some o->h'.get? b=some o)->tn i h'
 item:∀(X:Cx),X.prog=P->X.w=w->X.K=K->X.calm=true->∀(i:Nat)(pins:η)(s:Shared)(σ:St)(H:Hp)(E:ρ),Inv X pins σ H s->(∀b∈fp,fD X pins H b)->tn i s.heap->J.go i H->wpAny (model P w) X.A (pyNext (.ref it)) (λr s1=>∃u,r=some u/\ wpAny (model P w) X.A (letOwnedTupleGo tg (.ref it) u) (λ_ s2=>∃x H',Inv X pins σ H' s2/\RelV x u/\J.gN i H x H'/\tn (i+1) s2.heap/\∀b∈fp,H' b=none) E s1) E s
 done:∀(X:Cx),X.prog=P->X.w=w->X.K=K->X.calm=true->∀(i:Nat)(pins:η)(s:Shared)(σ:St)(H:Hp)(E:ρ),Inv X pins σ H s->(∀b∈fp,fD X pins H b)->tn i s.heap->J.stop i H->wpAny (model P w) X.A (pyNext (.ref it)) (λr s1=>r=none/\Inv X pins σ H s1) E s
 self:∀(A:Around)(i:Nat)(s:Shared)(Q:ρ)(E:ρ),tn i s.heap->Q (.ref it) s->wpAny (model P w) A (pyIter (.ref it)) Q E s
abbrev TI:=St->Hp->(It->Hp->Prop)->Prop
def z_(X:Cx)(pins:η)(σ:St)(tg:Expr)(R:It->Hp->Prop)(itv:Value)(s2:Shared):Prop:=∃(it:Addr)(fp:θ)(tn:Nat->Heap->Prop)(J:It)(H':Hp),itv=.ref it/\Inv X pins σ H' s2/\mE X.prog X.w X.K tg J fp it tn/\tn 0 s2.heap/\(∀b∈fp,fD X pins H' b)/\R J H'
def PI(X:Cx)(tg iter:Expr)(wi:TI):Prop:=∀(pins:η)(s:Shared)(σ:St)(H:Hp)(R:It->Hp->Prop),Inv X pins σ H s->wi σ H R->wpAny (model X.prog X.w) X.A (eval iter X.env) (λv s1=>wpAny (model X.prog X.w) X.A (pyIter v) (z_ X pins σ tg R) X.xe s1) X.xe s
theorem sW{M:Model}{A:Around}{E:ρ}{s:Shared}{tg:Expr}{it:Addr}{u:Value}{o:Obj}{n:String}{vs:Array Value}{Q:Unit->Shared->Prop}(ho:s.heap.get? it=some o)(hc:o.cls=.type n)(hd:o.data=.fields vs) (hn:["enumerate","zip","dict_itemiterator","dict_reverseitemiterator","odict_iterator","itertools.zip_longest","itertools.pairwise"].contains n=false)(hQ:Q () s):wpAny M A (letOwnedTupleGo tg (.ref it) u) Q E s:=by
 unfold letOwnedTupleGo;cases tg<;>first
  |exact aB hQ
  |(cases u<;>first
    |exact aB hQ
    |(refine ai (wpAny_load ho ?_)
      rw[hc,hd];show wpAny M A (if (["enumerate","zip","dict_itemiterator","dict_reverseitemiterator","odict_iterator","itertools.zip_longest","itertools.pairwise"].contains n&&vs[0]? ==some (rawInt _))=true then _ else _) Q E s;rw[af (by intro h;rw[hn,zz]at h;cases h)];exact aB hQ))
def qR(K:ax)(a:Addr):It:=⟨λi H=>∃xs x,aj K H a xs/\xs[i]? =some x,λi H x H'=>H'=H/\∀xs,aj K H a xs->xs[i]? =some x,λi H=>∃xs,aj K H a xs/\xs.length<=i⟩
def qT(K:ax)(a:Addr):It:=⟨λi H=>∃xs x,aV K H a xs/\xs[i]? =some x,λi H x H'=>H'=H/\∀xs,aV K H a xs->xs[i]? =some x,λi H=>∃xs,aV K H a xs/\xs.length<=i⟩
def oA(lo:Int)(n:Nat):It:=⟨λi _=>i<n,λi H x H'=>H'=H/\x=.int (lo+i),λi _=>n<=i⟩
theorem Sl{P:Program}{w:World}{K:ax}{tg:Expr}(a it:Addr):mE P w K tg (qR K a) [it] it (λi h=>h.IsListIter it a i) where
 mem:=by simp
 obj:=λi h st b hb=>by
  have e:b=it:=by simpa using hb
  subst e;obtain⟨o,e,c,d⟩:=st;exact⟨o,e,λv z=>by rw[d]at z;cases z⟩
 keep:=λi h h' st k=>st.at λo e=>k it (by simp) o e
 item:=by
  intro X hP hw hK hc i pins s σ H E I hf st hg;subst hP hw hK;obtain⟨xs,x,hq,hx⟩:=hg;obtain⟨its,rv,p,hz⟩:=I.list hq;obtain⟨u,hu,ru⟩:=rv.get hx;obtain⟨f0,f1,f2,f3,f4,f5⟩:=hf it (by simp);refine wpAny_pyNext_list_item st p.isList (x:=u) (by simpa using hu) λh' st' sb=>?_
  have I1:Inv X pins σ H {s with heap:=h'}:=I.turned (t':=s.toks) (λb o hb e=>(sb.2 b hb).trans e) f0 f1 f3 f4 f5;obtain⟨o,e,c,d⟩:=id st';exact⟨u,rfl,sW (s:= {s with heap:=h'}) e c d (by decide) ⟨x,H,I1,ru,⟨rfl,λys hy=>by rw[I.wy hy hq];exact hx⟩,st',λb hb=>(hf b hb).1⟩⟩
 done:=by intro X hP hw hK hc i pins s σ H E I hf st hg;subst hP hw hK;obtain⟨xs,hq,hx⟩:=hg;obtain⟨its,rv,p,hz⟩:=I.list hq;obtain⟨f0,f1,f2,f3,f4,f5⟩:=hf it (by simp);have hl:=rv.length;exact wpAny_pyNext_list_end (I.ok.hd hc) st p.isList (by simp;omega) λh' eb=>⟨rfl,I.turned (t':=s.toks) (λb o hb e=>eb b o hb e) f0 f1 f3 f4 f5⟩
 self:=λ_ _ _ _ _ st h=>wpAny_pyIter_listiter st h
theorem Sm{P:Program}{w:World}{K:ax}{tg:Expr}(a it:Addr):mE P w K tg (qT K a) [it] it (λi h=>h.IsTupleIter it a i) where
 mem:=by simp
 obj:=λi h st b hb=>by
  have e:b=it:=by simpa using hb
  subst e;obtain⟨o,e,c,d⟩:=st;exact⟨o,e,λv z=>by rw[d]at z;cases z⟩
 keep:=λi h h' st k=>st.at λo e=>k it (by simp) o e
 item:=by
  intro X hP hw hK hc i pins s σ H E I hf st hg;subst hP hw hK;obtain⟨xs,x,hq,hx⟩:=hg;obtain⟨its,rv,p,hz⟩:=I.tuple hq;obtain⟨u,hu,ru⟩:=rv.get hx;obtain⟨f0,f1,f2,f3,f4,f5⟩:=hf it (by simp);refine wpAny_pyNext_tuple_item st (show s.heap.IsTuple a its.toArray from p) (x:=u) (by simpa using hu) λh' st' sb=>?_
  have I1:Inv X pins σ H {s with heap:=h'}:=I.turned (t':=s.toks) (λb o hb e=>(sb.2 b hb).trans e) f0 f1 f3 f4 f5;obtain⟨o,e,c,d⟩:=id st';exact⟨u,rfl,sW (s:= {s with heap:=h'}) e c d (by decide) ⟨x,H,I1,ru,⟨rfl,λys hy=>by rw[I.Sf hy hq];exact hx⟩,st',λb hb=>(hf b hb).1⟩⟩
 done:=by intro X hP hw hK hc i pins s σ H E I hf st hg;subst hP hw hK;obtain⟨xs,hq,hx⟩:=hg;obtain⟨its,rv,p,hz⟩:=I.tuple hq;obtain⟨f0,f1,f2,f3,f4,f5⟩:=hf it (by simp);have hl:=rv.length;exact wpAny_pyNext_tuple_end (I.ok.hd hc) st (show s.heap.IsTuple a its.toArray from p) (by simp;omega) λh' eb=>⟨rfl,I.turned (t':=s.toks) (λb o hb e=>eb b o hb e) f0 f1 f3 f4 f5⟩
 self:=λ_ _ _ _ _ st h=>wpAny_pyIter_tupleiter st h
theorem Sn{P:Program}{w:World}{K:ax}{tg:Expr}(it:Addr)(lo:Int)(n:Nat):mE P w K tg (oA lo n) [it] it (λi h=>IsRangeIter h it (lo+(i:Nat)*1) ((n:Int)-(i:Nat)) 1) where
 mem:=by simp
 obj:=λi h st b hb=>by
  have e:b=it:=by simpa using hb
  subst e;exact⟨_,st,λv z=>by have z':Data.fields _=Data.cell v:=z;cases z'⟩
 keep:=λi h h' st k=>k it (by simp) _ st
 item:=by
  intro X hP hw hK hc i pins s σ H E I hf st hg;subst hP hw hK;obtain⟨f0,f1,f2,f3,f4,f5⟩:=hf it (by simp);have W:=Walks.range (prog:=X.prog) (w:=X.w) (I.ok.hd hc) it lo 1 n;refine W.item i s _ _ hg st λv h' tk hv st' kk=>?_
  obtain⟨t,rfl⟩:=hv;have I1:Inv X pins σ H {s with heap:=h',toks:=tk}:=I.turned (λb o hb e=>kk b o (by simpa using hb) e) f0 f1 f3 f4 f5;refine⟨_,rfl,sW (s:= {s with heap:=h',toks:=tk}) (n:="range_iterator") st' rfl rfl (by decide) ⟨.int (lo+i),H,I1,⟨t,?_⟩,⟨rfl,rfl⟩,st',λb hb=>(hf b hb).1⟩⟩;rw[Int.mul_one]
 done:=by intro X hP hw hK hc i pins s σ H E I hf st hg;subst hP hw hK;obtain⟨f0,f1,f2,f3,f4,f5⟩:=hf it (by simp);exact wpAny_pyNext_range_end (I.ok.hd hc) st (by have:n<=i:=hg;omega) λh' eb=>⟨rfl,I.turned (t':=s.toks) (λb o hb e=>eb b o hb e) f0 f1 f3 f4 f5⟩
 self:=λ_ _ _ _ _ st h=>wpAny_pyIter_rangeiter st h
section
variable{X:Cx}{tg:Expr}
inductive Gj(K:ax)(R:(It->Hp->Prop))(x:V)(H1:Hp):Prop
 |mk a:x=.ref a->((∃xs,aj K H1 a xs))->R (qR K a) H1->Gj K R x H1
def So(K:ax)(tl:TE):TI:=λσ H R=>tl σ H λx H1=>Gj K R x H1
inductive Gk(K:ax)(R:(It->Hp->Prop))(x:V)(H1:Hp):Prop
 |mk a:x=.ref a->((∃xs,aV K H1 a xs))->R (qT K a) H1->Gk K R x H1
def Gm(K:ax)(tl:TE):TI:=λσ H R=>tl σ H λx H1=>Gk K R x H1
theorem gO{l:Expr}{tl:TE}(hl:PE X l tl):PI X tg l (So X.K tl):=by
 intro pins s σ H R I h;refine aG (hl pins s σ H _ I h) λv s1 ⟨x,H1,I1,r1,q1⟩=>?_
 obtain⟨a,e,⟨xs,hq⟩,q⟩:=q1;subst e;cases r1;obtain⟨its,rv,p,hz⟩:=I1.list hq;refine Fu p.isList ?_;refine⟨s1.heap.objs.size,[s1.heap.objs.size],_,_,H1,rfl,I1.kept (t':=s1.toks) λb o e=>bu _ e,Sl a _,⟨_,cw _ rfl,rfl,rfl⟩,λb hb=>?_,q⟩;have e:b=s1.heap.objs.size:=by simpa using hb
 subst e;exact I1.jx (aJ _) (I1.hok.fresh (aJ _))
theorem lT{l:Expr}{tl:TE}(hl:PE X l tl):PI X tg l (Gm X.K tl):=by
 intro pins s σ H R I h;refine aG (hl pins s σ H _ I h) λv s1 ⟨x,H1,I1,r1,q1⟩=>?_
 obtain⟨a,e,⟨xs,hq⟩,q⟩:=q1;subst e;cases r1;obtain⟨its,rv,p,hz⟩:=I1.tuple hq;refine wpAny_pyIter_tuple (show s1.heap.IsTuple a its.toArray from p) ?_;refine⟨s1.heap.objs.size,[s1.heap.objs.size],_,_,H1,rfl,I1.kept (t':=s1.toks) λb o e=>bu _ e,Sm a _,⟨_,cw _ rfl,rfl,rfl⟩,λb hb=>?_,q⟩;have e:b=s1.heap.objs.size:=by simpa using hb
 subst e;exact I1.jx (aJ _) (I1.hok.fresh (aJ _))
theorem Sq{pins:η}{σ:St}{H:Hp}{s:Shared}{R:It->Hp->Prop}{E:ρ}{lo hi:Int}{t u v:Tok}{tk:Nat}(I:Inv X pins σ H s)(h1: -(2^62)<=lo)(h2:lo<2^62)(h3: -(2^62)<=hi)(h4:hi<2^62) (q:R (oA lo (hi-lo).toNat) H):wpAny (model X.prog X.w) X.A (pyIter (.ref s.heap.objs.size)) (z_ X pins σ tg R) E {s with heap:=s.heap.push {cls:=.type "range",data:=.fields #[.int lo t,.int hi u,.int 1 v]},toks:=tk}:=by
 refine wpAny_pyIter_range (IsRange.new ..) (small_one h1 h2 h3 h4) ?_;have I1:Inv X pins σ H {s with heap:=s.heap.push {cls:=.type "range",data:=.fields #[.int lo t,.int hi u,.int 1 v]},toks:=tk}:=I.kept λb o e=>bu _ e
 refine⟨(s.heap.push {cls:=.type "range",data:=.fields #[.int lo t,.int hi u,.int 1 v]}).objs.size,[(s.heap.push {cls:=.type "range",data:=.fields #[.int lo t,.int hi u,.int 1 v]}).objs.size],_,_,H,rfl,I1.kept (t':=tk) λb o e=>bu _ e,Sn _ lo (hi-lo).toNat,?_,λb hb=>?_,q⟩
 ·have e1:lo+((0:Nat):Int)*1=lo:=by simp
  have e2:(((hi-lo).toNat:Nat):Int)-((0:Nat):Int)=Builtin.Range.rangeSize lo hi 1:=by rw[rangeSize_one];split<;>omega
  show IsRangeIter _ _ (lo+((0:Nat):Int)*1) ((((hi-lo).toNat:Nat):Int)-((0:Nat):Int)) 1;rw[e1,e2];exact cw _ rfl
 ·have e:b=(s.heap.push {cls:=.type "range",data:=.fields #[.int lo t,.int hi u,.int 1 v]}).objs.size:=by simpa using hb
  subst e;exact I1.jx (aJ _) (I1.hok.fresh (aJ _))
inductive Gn(R:(It->Hp->Prop))(vs:ε)(H1:Hp):Prop
 |mk (j:Int):vs=[.int j]-> -(2^62)<=j->j<2^62->R (oA 0 j.toNat) H1->Gn R vs H1
def Sr(ta:TA):TI:=λσ H R=>ta σ H λvs H1=>Gn R vs H1
theorem wC{a:Expr}{ta:TA}{p pos:Pos}(hg:Gl X "range")(hm:X.mg "range"=none)(ha:PA X [a] ta)(hs:starEach [a] X.env=[(false,eval a X.env)]:=by rfl):PI X tg (.Call (.Name "range" p) [a] [] pos) (Sr ta):=by
 intro pins s σ H R I h;refine Call_ (qP I hg hm boot_range (zA (aG (ha pos pins s σ H _ I h) λus s1 ⟨vs,H1,I1,r1,q1⟩=>?_) hs rfl));obtain⟨j,e,q1,q2,q⟩:=q1;subst e;cases r1 with
 |cons r rr=>cases rr;obtain⟨t,rfl⟩:=r;exact call_range_1 (Sq I1 (by omega) (by omega) q1 q2 (by simpa using q))
def Ss(wi:TI)(g:TG)(tb:TS):TS:=λD σ H=>wi σ H λJ H1=>∃W:Nat->Nat->St->Hp->Prop,(∃m,W 0 m σ H1)/\∀i m σ H,W i m σ H->(J.stop i H/\D.nx σ H)\/(J.go i H/\∃N:St->Hp->Prop,(∀σ' H',N σ' H'->∃m',m'<m/\W (i+1) m' σ' H')/\∀x H',J.gN i H x H'->g x σ H' λσ2 H2=>tb {D with nx:=N,ct:=N,bk:=D.nx} σ2 H2)
def sX(fp:θ)(h:Heap):List (Addr×Obj):=fp.filterMap λb=>(h.get? b).map λo=>(b,o)
theorem Aa{fp:θ}{h:Heap}{b:Addr}{o:Obj}(hb:b∈fp)(e:h.get? b=some o):(b,o)∈sX fp h:=nY.mpr ⟨b,hb,by rw[e];rfl⟩
theorem Su{fp:θ}{h:Heap}{p:Addr×Obj}(hp:p∈sX fp h):p.1∈fp/\h.get? p.1=some p.2:=by
 obtain⟨b,hb,e⟩:=nY.mp hp;cases q:h.get? b with
 |none=>rw[q]at e;cases e
 |some o=>rw[q]at e;have e':(b,o)=p:=b_ e;subst e';exact⟨hb,q⟩
theorem Inv.pinned{pins:η}{σ:St}{H:Hp}{s:Shared}{fp:θ}(I:Inv X pins σ H s)(hf:∀b∈fp,fD X pins H b)(ho:∀b∈fp,∃o,s.heap.get? b=some o/\∀v,o.data≠ .cell v):Inv X (pins++sX fp s.heap) σ H s:=I.zU λp hp=>(bL.mp hp).elim (λz=>I.pin p (jI _ z)) λz=>by obtain⟨hb,e⟩:=Su z;obtain⟨f0,f1,f2,_⟩:=hf p.1 hb;obtain⟨o,e',d⟩:=ho p.1 hb;rw[e]at e';cases e';exact⟨e,f0,f1,f2,d⟩
theorem Inv.wD{pins pl:η}{σ:St}{H:Hp}{s:Shared}(I:Inv X (pins++pl) σ H s):Inv X pins σ H s:=I.zU λp hp=>I.pin p (jI _ (fm _ hp))
theorem gP{iter:Expr}{body:List Stmt}{wi:TI}{g:TG}{tb:TS}{pos:Pos}(hp:PassesOwn (model X.prog X.w) X.A X.env X.xe)(hc:X.calm=true)(hi:PI X tg iter wi)(hg:PG X tg g)(hb:dP X body tb) (hs:∀x,foldedSetIterable iter X.env x=pure x:=by intro _;rfl):PS X (.For tg iter body [] pos) (Ss wi g tb):=by
 intro pins s σ H D I h;refine wpAny_For (aG (hi pins s σ H _ I h) λv s1 h1=>aG h1 λitv s2 h2=>?_) hs;obtain⟨it,fp,tn,J,H2,e,I2,T,st2,f2,W,⟨m0,w0⟩,turn⟩:=h2;subst e;have stat:∀{H':Hp},(∀b∈fp,H' b=none)->∀b∈fp,fD X pins H' b:=λhn b hb=>⟨hn b hb,(f2 b hb).2⟩
 refine codeAny_forLoop_any (λn s'=>∃i σ' H',Inv X pins σ' H' s'/\tn i s'.heap/\(∀b∈fp,H' b=none)/\W i n σ' H') ?_ m0 ⟨0,σ,H2,I2,st2,λb hb=>(f2 b hb).1,w0⟩
 rintro n s3 ⟨i,σ3,H3,I3,st3,fr3,w3⟩
 rcases turn i n σ3 H3 w3 with ⟨stop,qn⟩ |⟨go,N,hN,step⟩
 ·refine sD hp (aG (T.done X rfl rfl rfl hc i pins s3 σ3 H3 X.xe I3 (stat fr3) st3 stop) λr s4 ⟨hr,I4⟩=>?_);subst hr;exact Ft ⟨σ3,H3,I4,qn⟩
 ·refine sD hp (aG (T.item X rfl rfl rfl hc i pins s3 σ3 H3 X.xe I3 (stat fr3) st3 go) λr s4 ⟨u,hr,h4⟩=>?_);subst hr;refine sD hp (aG h4 λ_ s5 ⟨x,H5,I5,r5,y5,st5,fr5⟩=>?_);have I5':=I5.pinned (stat fr5) (T.obj _ _ st5);refine sD hp (aG (hg _ s5 σ3 H5 x u _ I5' r5 (step x H5 y5)) λ_ s6 ⟨σ6,H6,I6,q6⟩=>?_);refine sD hp (aG (hb _ s6 σ6 H6 _ I6 q6) λf s7 q7=>?_);have again:∀{jR:St}{H7:Hp},Inv X (pins++sX fp s5.heap) jR H7 s7->N jR H7->∃m,m<n/\∃i σ' H',Inv X pins σ' H' s7/\tn i s7.heap/\(∀b∈fp,H' b=none)/\W i m σ' H':=λ{jR H7} I7 n7=>by
   obtain⟨m',hm,w7⟩:=hN jR H7 n7;refine⟨m',hm,i+1,jR,H7,I7.wD,T.keep _ _ _ st5 λb hb o e=>(I7.pin (b,o) (jI _ (jI _ (Aa hb e)))).1,λb hb=>?_,w7⟩;obtain⟨o,e,d⟩:=T.obj _ _ st5 b hb;exact(I7.pin (b,o) (jI _ (jI _ (Aa hb e)))).2.1
  cases f with
  |next=>obtain⟨jR,H7,I7,n7⟩:=q7;exact again I7 n7
  |cont=>obtain⟨jR,H7,I7,n7⟩:=q7;exact again I7 n7
  |brk=>obtain⟨jR,H7,I7,q7⟩:=q7;exact⟨jR,H7,I7.wD,q7⟩
  |ret v=>obtain⟨x7,jR,H7,I7,r7,q7⟩:=q7;exact⟨x7,jR,H7,I7.wD,r7,q7⟩
end
theorem lU{K:ax}{a:Addr}{xs:ε}{g:TG}{tb:TS}{D:Ends}{σ:St}{H:Hp}(Pv:Nat->St->Hp->Prop)(h0:Pv 0 σ H)(hl:∀i σ H,i<=xs.length->Pv i σ H->aj K H a xs) (hs:∀i x σ H,xs[i]? =some x->Pv i σ H->g x σ H λσ2 H2=>tb {D with nx:=Pv (i+1),ct:=Pv (i+1),bk:=D.nx} σ2 H2)(hd:∀σ H,Pv xs.length σ H->D.nx σ H):∃W:Nat->Nat->St->Hp->Prop,(∃m,W 0 m σ H)/\∀i m σ H,W i m σ H->((qR K a).stop i H/\D.nx σ H)\/((qR K a).go i H/\∃N:St->Hp->Prop,(∀σ' H',N σ' H'->∃m',m'<m/\W (i+1) m' σ' H')/\∀x H',(qR K a).gN i H x H'->g x σ H' λσ2 H2=>tb {D with nx:=N,ct:=N,bk:=D.nx} σ2 H2):=by
 refine⟨λi m σ H=>m=xs.length-i/\i<=xs.length/\Pv i σ H,⟨xs.length,by simp,bS _,h0⟩,?_⟩
 rintro i m σ H ⟨rfl,hi,p⟩
 have q:=hl i σ H hi p;by_cases hlt:i<xs.length
 ·refine .inr ⟨⟨xs,xs[i],q,by simp[hlt]⟩,Pv (i+1),λσ' H' p'=>⟨xs.length-(i+1),by omega,rfl,hlt,p'⟩,λx H' y=>?_⟩;obtain⟨e,y⟩:=y;subst e;exact hs i x σ _ (y xs q) p
 ·have e:i=xs.length:=by omega
  subst e;exact .inl ⟨⟨xs,q,aJ _⟩,hd σ H p⟩
theorem Ab{K:ax}{a:Addr}{xs:ε}{g:TG}{tb:TS}{D:Ends}{σ:St}{H:Hp}(Pv:Nat->St->Hp->Prop)(h0:Pv 0 σ H)(hl:∀i σ H,i<=xs.length->Pv i σ H->aV K H a xs) (hs:∀i x σ H,xs[i]? =some x->Pv i σ H->g x σ H λσ2 H2=>tb {D with nx:=Pv (i+1),ct:=Pv (i+1),bk:=D.nx} σ2 H2)(hd:∀σ H,Pv xs.length σ H->D.nx σ H):∃W:Nat->Nat->St->Hp->Prop,(∃m,W 0 m σ H)/\∀i m σ H,W i m σ H->((qT K a).stop i H/\D.nx σ H)\/((qT K a).go i H/\∃N:St->Hp->Prop,(∀σ' H',N σ' H'->∃m',m'<m/\W (i+1) m' σ' H')/\∀x H',(qT K a).gN i H x H'->g x σ H' λσ2 H2=>tb {D with nx:=N,ct:=N,bk:=D.nx} σ2 H2):=by
 refine⟨λi m σ H=>m=xs.length-i/\i<=xs.length/\Pv i σ H,⟨xs.length,by simp,bS _,h0⟩,?_⟩
 rintro i m σ H ⟨rfl,hi,p⟩
 have q:=hl i σ H hi p;by_cases hlt:i<xs.length
 ·refine .inr ⟨⟨xs,xs[i],q,by simp[hlt]⟩,Pv (i+1),λσ' H' p'=>⟨xs.length-(i+1),by omega,rfl,hlt,p'⟩,λx H' y=>?_⟩;obtain⟨e,y⟩:=y;subst e;exact hs i x σ _ (y xs q) p
 ·have e:i=xs.length:=by omega
  subst e;exact .inl ⟨⟨xs,q,aJ _⟩,hd σ H p⟩
theorem Gp{lo:Int}{n:Nat}{g:TG}{tb:TS}{D:Ends}{σ:St}{H:Hp}(Pv:Nat->St->Hp->Prop)(h0:Pv 0 σ H) (hs:∀i σ H,i<n->Pv i σ H->g (.int (lo+i)) σ H λσ2 H2=>tb {D with nx:=Pv (i+1),ct:=Pv (i+1),bk:=D.nx} σ2 H2)(hd:∀σ H,Pv n σ H->D.nx σ H):∃W:Nat->Nat->St->Hp->Prop,(∃m,W 0 m σ H)/\∀i m σ H,W i m σ H->((oA lo n).stop i H/\D.nx σ H)\/((oA lo n).go i H/\∃N:St->Hp->Prop,(∀σ' H',N σ' H'->∃m',m'<m/\W (i+1) m' σ' H')/\∀x H',(oA lo n).gN i H x H'->g x σ H' λσ2 H2=>tb {D with nx:=N,ct:=N,bk:=D.nx} σ2 H2):=by
 refine⟨λi m σ H=>m=n-i/\i<=n/\Pv i σ H,⟨n,by simp,bS _,h0⟩,?_⟩
 rintro i m σ H ⟨rfl,hi,p⟩
 by_cases hlt:i<n
 ·refine .inr ⟨hlt,Pv (i+1),λσ' H' p'=>⟨n-(i+1),by omega,rfl,hlt,p'⟩,λx H' y=>?_⟩;obtain⟨e,y⟩:=y;subst e y;exact hs i σ _ hlt p
 ·have e:i=n:=by omega
  subst e;exact .inl ⟨aJ _,hd σ H p⟩
theorem Sv{c:TT}{tb:TS}{D:Ends}{σ:St}{H:Hp}(Pv:St->Hp->Prop)(μ:St->Hp->Nat)(h0:Pv σ H) (hs:∀σ H,Pv σ H->c σ H λb H1=>if b=true then tb {D with nx:=λσ' H'=>Pv σ' H'/\μ σ' H'<μ σ H,ct:=λσ' H'=>Pv σ' H'/\μ σ' H'<μ σ H,bk:=D.nx} σ H1 else D.nx σ H1) (mono:∀σ H Q Q',(∀b H1,Q b H1->Q' b H1)->c σ H Q->c σ H Q'):Gi c tb D σ H:=by
 refine⟨λm σ H=>m=μ σ H/\Pv σ H,⟨_,rfl,h0⟩,?_⟩
 rintro m σ H ⟨rfl,p⟩
 refine mono σ H _ _ (λb H1 q=>?_) (hs σ H p);cases b with
 |true=>exact⟨_,λσ' H' ⟨p',l⟩=>⟨_,l,rfl,p'⟩,q⟩
 |false=>exact q
abbrev R2:=V->V->Hp->VK->Prop
def b6(X:Cx)(f:Value->Value->Sem Value)(r:R2):Prop:=∀(pins:η)(s:Shared)(σ:St)(H:Hp)(x y:V)(v u:Value)(Q:VK),Inv X pins σ H s->RelV x v->RelV y u->r x y H Q->wpAny (model X.prog X.w) X.A (f v u) (EP X pins σ Q) X.xe s
def wF(X:Cx)(f:Value->Sem Value)(r:V->Hp->VK->Prop):Prop:=∀(pins:η)(s:Shared)(σ:St)(H:Hp)(x:V)(v:Value)(Q:VK),Inv X pins σ H s->RelV x v->r x H Q->wpAny (model X.prog X.w) X.A (f v) (EP X pins σ Q) X.xe s
def ij(X:Cx)(f:Value)(r:List V->Hp->VK->Prop):Prop:=∀(pins:η)(s:Shared)(σ:St)(H:Hp)(xs:ε)(us:ω)(Q:VK),Inv X pins σ H s->Vals xs us->r xs H Q->wpAny (model X.prog X.w) X.A (call f us) (EP X pins σ Q) X.xe s
def gQ(r:R2)(ta tb:TE):TE:=λσ H Q=>ta σ H λx H1=>tb σ H1 λy H2=>r x y H2 Q
def Sw(r:V->Hp->VK->Prop)(ta:TE):TE:=λσ H Q=>ta σ H λx H1=>r x H1 Q
inductive rI(C:Int->Int->Prop)(g:Int->Int->V)(x:V)(y:V)(H:Hp)(Q:VK):Prop
 |mk i j:x=.int i->y=.int j->C i j->Q (g i j) H->rI C g x y H Q
inductive ik(g:Int->Int->V)(x:V)(y:V)(H:Hp)(Q:VK):Prop
 |mk i j:x=.int i->y=.int j->Q (g i j) H->ik g x y H Q
inductive rU(g:Int->V)(x:V)(H:Hp)(Q:VK):Prop
 |mk i:x=.int i->Q (g i) H->rU g x H Q
section
variable{X:Cx}{a b c:Expr}{ta tb tc:TE}{pos:Pos}
theorem Ac(ha:PE X a ta)(hb:PE X b tb){pins:η}{s:Shared}{σ:St}{H:Hp}{R:V->V->Hp->Prop}(I:Inv X pins σ H s) (h:ta σ H λx H1=>tb σ H1 λy H2=>R x y H2){Q:ρ}{f:Value->Value->Sem Value} (hf:∀v u s2 x y H2,Inv X pins σ H2 s2->RelV x v->RelV y u->R x y H2->wpAny (model X.prog X.w) X.A (f v u) Q X.xe s2):wpAny (model X.prog X.w) X.A (eval a X.env) (λv s₁=>wpAny (model X.prog X.w) X.A (eval b X.env) (λu s₂=>wpAny (model X.prog X.w) X.A (f v u) Q X.xe s₂) X.xe s₁) X.xe s:=by
 refine aG (ha pins s σ H _ I h) λv s1 ⟨x,H1,I1,r1,q1⟩=>?_
 refine aG (hb pins s1 σ H1 _ I1 q1) λu s2 ⟨y,H2,I2,r2,q2⟩=>?_
 exact hf v u s2 x y H2 I2 r1 r2 q2
theorem bG{op:Operator}{r:R2}(ho:b6 X (binaryOp op) r)(ha:PE X a ta)(hb:PE X b tb):PE X (.BinOp a op b pos) (gQ r ta tb):=by intro pins s σ H Q I h;exact wpAny_BinOp (Ac ha hb I h λv u s2 x y H2 I2 rx ry q=>ho pins s2 σ H2 x y v u Q I2 rx ry q)
theorem mV{op:UnaryOp}{r:V->Hp->VK->Prop}(ho:wF X (unaryOp op) r)(ha:PE X a ta):PE X (.UnaryOp op a pos) (Sw r ta):=by intro pins s σ H Q I h;exact UnaryOp_ (aG (ha pins s σ H _ I h) λv s1 ⟨x,H1,I1,r1,q1⟩=>ho pins s1 σ H1 x v Q I1 r1 q1)
theorem sY{f:Value->Value->Sem Value}{C:Int->Int->Prop}{g:Int->Int->Int} (rule:∀(i j:Int)(t u:Tok)(s:Shared)(Q:ρ)(E:ρ),C i j->Q (.int (g i j) s.toks) {s with toks:=s.toks+1}->wpAny (model X.prog X.w) X.A (f (.int i t) (.int j u)) Q E s):b6 X f (rI C λi j=>.int (g i j)):=by
 intro pins s σ H x y v u Q I rx ry h;obtain⟨i,j,rfl,rfl,hc,q⟩:=h;obtain⟨t,rfl⟩:=rx;obtain⟨t',rfl⟩:=ry;exact rule i j t t' s _ _ hc ⟨.int (g i j),H,I.tok _,⟨_,rfl⟩,q⟩
theorem sZ{f:Value->Value->Sem Value}{g:Int->Int->Int} (rule:∀(i j:Int)(t u:Tok)(s:Shared)(Q:ρ)(E:ρ),Q (.int (g i j) s.toks) {s with toks:=s.toks+1}->wpAny (model X.prog X.w) X.A (f (.int i t) (.int j u)) Q E s):b6 X f (ik λi j=>.int (g i j)):=by
 intro pins s σ H x y v u Q I rx ry h;obtain⟨i,j,rfl,rfl,q⟩:=h;obtain⟨t,rfl⟩:=rx;obtain⟨t',rfl⟩:=ry;exact rule i j t t' s _ _ ⟨.int (g i j),H,I.tok _,⟨_,rfl⟩,q⟩
theorem wG{f:Value->Value->Sem Value}{g:Int->Int->Bool} (rule:∀(i j:Int)(t u:Tok)(s:Shared)(Q:ρ)(E:ρ),Q (.bool (g i j)) s->wpAny (model X.prog X.w) X.A (f (.int i t) (.int j u)) Q E s):b6 X f (ik λi j=>.bl (g i j)):=by
 intro pins s σ H x y v u Q I rx ry h;obtain⟨i,j,rfl,rfl,q⟩:=h;obtain⟨t,rfl⟩:=rx;obtain⟨t',rfl⟩:=ry;exact rule i j t t' s _ _ ⟨.bl (g i j),H,I,rfl,q⟩
def Sx(i j:Int):Prop:=0<=j/\j<=1000000/\i.natAbs<2^64
def Ae(i j:Int):Prop:=(-(2^64)<i/\i<2^64)\/(-(2^64)<j/\j<2^64)
theorem Ae.ok{i j:Int}(h:Ae i j):IntMulOk i j:=by
 rcases h with ⟨h1,h2⟩ |⟨h1,h2⟩
 ·exact .of_left (intBits_le_64 h1 h2)
 ·exact .of_right (intBits_le_64 h1 h2)
theorem Af(k:Nat):(0:Int)<=2^k:=by rw[two_pow_cast];exact Int.natCast_nonneg _
theorem iq:b6 X (binaryOp .Add) (ik λi j=>.int (i+j)):=sZ λ_ _ _ _ _ _ _ q=>add_int q
theorem s_:b6 X (binaryOp .Sub) (ik λi j=>.int (i-j)):=sZ λ_ _ _ _ _ _ _ q=>sub_int q
theorem Gq:b6 X (binaryOp .Mult) (rI Ae λi j=>.int (i*j)):=sY λ_ _ _ _ _ _ _ hc q=>mul_int q hc.ok
theorem Gr:b6 X (binaryOp .Mod) (rI (λ_ j=>0<j) λi j=>.int (i%j)):=sY λi j _ _ _ _ _ hc q=>by have h1:(0:Int)<j:=hc;exact mod_int' (by omega) (by rw[Int.fmod_eq_emod_of_nonneg i (by omega)];exact q)
theorem Gs:b6 X (binaryOp .LShift) (rI Sx λi j=>.int (i*2^j.toNat)):=sY λ_ _ _ _ _ _ _ hc q=>lshift_int_small hc.1 hc.2.1 hc.2.2 q
theorem Sy:b6 X (binaryOp .RShift) (rI (λ_ j=>0<=j) λi j=>.int (i/2^j.toNat)):=sY λi j _ _ _ _ _ hc q=>rshift_int hc (by rw[Fv i (Af _)];exact q)
theorem tf:b6 X (binaryOp .BitAnd) (ik λi j=>.int (Builtin.bitAnd i j)):=sZ λ_ _ _ _ _ _ _ q=>and_int q
theorem wH:b6 X (binaryOp .BitOr) (ik λi j=>.int (Builtin.bitOr i j)):=sZ λ_ _ _ _ _ _ _ q=>or_int q
theorem Sz:b6 X (binaryOp .BitXor) (ik λi j=>.int (Builtin.bitXor i j)):=sZ λ_ _ _ _ _ _ _ q=>xor_int q
theorem Gu{f:Value->Sem Value}{g:Int->Int} (rule:∀(i:Int)(t:Tok)(s:Shared)(Q:ρ)(E:ρ),Q (.int (g i) s.toks) {s with toks:=s.toks+1}->wpAny (model X.prog X.w) X.A (f (.int i t)) Q E s):wF X f (rU λi=>.int (g i)):=by
 intro pins s σ H x v Q I rx h;obtain⟨i,rfl,q⟩:=h;obtain⟨t,rfl⟩:=rx;exact rule i t s _ _ ⟨.int (g i),H,I.tok _,⟨_,rfl⟩,q⟩
theorem oC:wF X (unaryOp .USub) (rU λi=>.int (-i)):=Gu λ_ _ _ _ _ q=>neg_int q
theorem SA:wF X (unaryOp .Invert) (rU λi=>.int (Builtin.bitNot i)):=Gu λ_ _ _ _ _ q=>invert_int q
end
def wI:V->V->Bool
 | .aw,.aw=>true | .aw,.int _=>true | .int _,.aw=>true | .aw,.bl _=>true | .bl _,.aw=>true | .aw,.str _=>true | .str _,.aw=>true
 | .int _,.int _=>true | .bl _,.bl _=>true | .str _,.str _=>true | .gL _,.gL _=>true
 | .int _,.str _=>true | .str _,.int _=>true | .bl _,.str _=>true | .str _,.bl _=>true
 |_,_=>false
def Ag:R2:=λx y H Q=>wI x y=true/\Q (.bl (decide (x=y))) H
def Gv:R2:=λx y H Q=>wI x y=true/\Q (.bl (!decide (x=y))) H
theorem Gw{i j:Int}:decide (V.int i=V.int j)=(i==j):=by rw[gj];simp
theorem Gx{i j:Bool}:decide (V.bl i=V.bl j)=(i==j):=by rw[gj];simp
theorem Gy{i j:Str}:decide (V.str i=V.str j)=(i==j):=by rw[gj];simp
theorem Gz{i j:Array UInt8}:decide (V.gL i=V.gL j)=(i.toList==j.toList):=by rw[gj];cases i;cases j;simp
section
variable{X:Cx}{a b c:Expr}{ta tb tc:TE}{pos:Pos}
theorem cH{pins:η}{σ:St}{H:Hp}{s:Shared}{Q:VK}{k k':Bool}(I:Inv X pins σ H s)(q:Q (.bl k) H)(e:k=k'):EP X pins σ Q (.bool k') s:=by subst e;exact⟨.bl k,H,I,rfl,q⟩
theorem bB:b6 X (compareOp .Eq) Ag:=by
 intro pins s σ H x y v u Q I rx ry h;obtain⟨hs,q⟩:=h;cases x with
 |aw=>
  cases rx;cases y with
  |aw=>cases ry;exact PySem.EqNone.eq_none_none (cH I q (by simp))
  |bl j=>cases ry;exact PySem.EqNone.eq_none_bool (cH I q (by simp))
  |int j=>obtain⟨t',rfl⟩:=ry;exact PySem.EqNone.eq_none_int (cH I q (by simp))
  |str j=>obtain⟨t',rfl⟩:=ry;exact PySem.EqNone.eq_none_str (cH I q (by simp))
  |_=>exact absurd (show false=true from hs) cM
 |bl i=>
  cases rx;cases y with
  |aw=>cases ry;exact PySem.EqNone.eq_bool_none (cH I q (by simp))
  |bl j=>cases ry;exact eq_bool (cH I q Gx)
  |str j=>obtain⟨t',rfl⟩:=ry;exact PySem.EqMixed.eq_bool_str (cH I q (by simp))
  |_=>exact absurd (show false=true from hs) cM
 |int i=>
  obtain⟨t,rfl⟩:=rx;cases y with
  |aw=>cases ry;exact PySem.EqNone.eq_int_none (cH I q (by simp))
  |int j=>obtain⟨t',rfl⟩:=ry;exact eq_int (cH I q Gw)
  |str j=>obtain⟨t',rfl⟩:=ry;exact PySem.EqMixed.eq_int_str (cH I q (by simp))
  |_=>exact absurd (show false=true from hs) cM
 |str i=>
  obtain⟨t,rfl⟩:=rx;cases y with
  |aw=>cases ry;exact PySem.EqNone.eq_str_none (cH I q (by simp))
  |bl j=>cases ry;exact PySem.EqMixed.eq_str_bool (cH I q (by simp))
  |int j=>obtain⟨t',rfl⟩:=ry;exact PySem.EqMixed.eq_str_int (cH I q (by simp))
  |str j=>obtain⟨t',rfl⟩:=ry;exact eq_str (cH I q Gy)
  |_=>exact absurd (show false=true from hs) cM
 |gL i=>
  obtain⟨t,rfl⟩:=rx;cases y with
  |gL j=>obtain⟨t',rfl⟩:=ry;exact PySem.W.eq_bytes (cH I q Gz)
  |_=>exact absurd (show false=true from hs) cM
 |_=>cases y<;>exact absurd (show false=true from hs) cM
theorem qU:b6 X (compareOp .NotEq) Gv:=by
 intro pins s σ H x y v u Q I rx ry h;obtain⟨hs,q⟩:=h;cases x with
 |aw=>
  cases rx;cases y with
  |aw=>cases ry;exact PySem.EqNone.ne_none_none (cH I q (by simp))
  |bl j=>cases ry;exact PySem.EqNone.ne_none_bool (cH I q (by simp))
  |int j=>obtain⟨t',rfl⟩:=ry;exact PySem.EqNone.ne_none_int (cH I q (by simp))
  |str j=>obtain⟨t',rfl⟩:=ry;exact PySem.EqNone.ne_none_str (cH I q (by simp))
  |_=>exact absurd (show false=true from hs) cM
 |bl i=>
  cases rx;cases y with
  |aw=>cases ry;exact PySem.EqNone.ne_bool_none (cH I q (by simp))
  |bl j=>cases ry;exact ne_bool (cH I q (c7 not Gx))
  |str j=>obtain⟨t',rfl⟩:=ry;exact PySem.EqMixed.ne_bool_str (cH I q (by simp))
  |_=>exact absurd (show false=true from hs) cM
 |int i=>
  obtain⟨t,rfl⟩:=rx;cases y with
  |aw=>cases ry;exact PySem.EqNone.ne_int_none (cH I q (by simp))
  |int j=>obtain⟨t',rfl⟩:=ry;exact ne_int (cH I q (c7 not Gw))
  |str j=>obtain⟨t',rfl⟩:=ry;exact PySem.EqMixed.ne_int_str (cH I q (by simp))
  |_=>exact absurd (show false=true from hs) cM
 |str i=>
  obtain⟨t,rfl⟩:=rx;cases y with
  |aw=>cases ry;exact PySem.EqNone.ne_str_none (cH I q (by simp))
  |bl j=>cases ry;exact PySem.EqMixed.ne_str_bool (cH I q (by simp))
  |int j=>obtain⟨t',rfl⟩:=ry;exact PySem.EqMixed.ne_str_int (cH I q (by simp))
  |str j=>obtain⟨t',rfl⟩:=ry;exact ne_str (cH I q (c7 not Gy))
  |_=>exact absurd (show false=true from hs) cM
 |gL i=>
  obtain⟨t,rfl⟩:=rx;cases y with
  |gL j=>obtain⟨t',rfl⟩:=ry;exact PySem.W.ne_bytes (cH I q (c7 not Gz))
  |_=>exact absurd (show false=true from hs) cM
 |_=>cases y<;>exact absurd (show false=true from hs) cM
theorem oE:b6 X (compareOp .Lt) (ik λi j=>.bl (decide (i<j))):=wG λ_ _ _ _ _ _ _ q=>lt_int q
theorem iW:b6 X (compareOp .LtE) (ik λi j=>.bl (decide (i<=j))):=wG λ_ _ _ _ _ _ _ q=>le_int q
theorem qV:b6 X (compareOp .Gt) (ik λi j=>.bl (decide (j<i))):=wG λ_ _ _ _ _ _ _ q=>gt_int q
theorem SD:b6 X (compareOp .GtE) (ik λi j=>.bl (decide (j<=i))):=wG λ_ _ _ _ _ _ _ q=>ge_int q
theorem GA(b:Expr){op:CmpOp}(h:op≠ .In:=by decide)(h2:op≠ .NotIn:=by decide):behindInMarks op b=false:=by
 have e1:(op==CmpOp.In)=false:=by cases op<;>first |rfl |exact absurd rfl h
 have e2:(op==CmpOp.NotIn)=false:=by cases op<;>first |rfl |exact absurd rfl h2
 cases b<;>simp[behindInMarks,e1,e2]
theorem qW{op:CmpOp}{r:R2}(ho:b6 X (compareOp op) r)(ha:PE X a ta)(hb:PE X b tb)(hm:behindInMarks op b=false:=by exact GA _):PE X (.Compare a [op] [b] pos) (gQ r ta tb):=by intro pins s σ H Q I h;exact wpAny_Compare1 (Ac ha hb I h λv u s2 x y H2 I2 rx ry q=>ho pins s2 σ H2 x y v u Q I2 rx ry q) hm
inductive GB(Q:(Bool->Hp->Prop))(x:V)(H':Hp):Prop
 |mk k:x=.bl k->Q k H'->GB Q x H'
def oF(t:TE):TT:=λσ H Q=>t σ H λx H'=>GB Q x H'
theorem aQ{op:CmpOp}{r:R2}(ho:b6 X (compareOp op) r)(ha:PE X a ta)(hb:PE X b tb)(hm:behindInMarks op b=false:=by exact GA _):PT X (.Compare a [op] [b] pos) (oF (gQ r ta tb)):=by
 intro pins s σ H Q I h;refine wpAny_isTrue_Compare1 (aG (ha pins s σ H _ I h) λv s1 ⟨x,H1,I1,r1,q1⟩=>aG (hb pins s1 σ H1 _ I1 q1) λu s2 ⟨y,H2,I2,r2,q2⟩=>aG (ho pins s2 σ H2 x y v u _ I2 r1 r2 q2) λc s3 ⟨z,H3,I3,r3,k,e,q3⟩=>?_) hm
 subst e;cases r3;exact nX ⟨H3,I3,q3⟩
inductive GC(r':R2)(tc:TE)(σ:St)(Q:VK)(y:V)(z:V)(H3:Hp):Prop
 |mk k:z=.bl k->((if k=true then tc σ H3 λw' H4=>r' y w' H4 Q else Q (.bl false) H3))->GC r' tc σ Q y z H3
def GD(r r':R2)(ta tb tc:TE):TE:=λσ H Q=>ta σ H λx H1=>tb σ H1 λy H2=>r x y H2 λz H3=>GC r' tc σ Q y z H3
theorem tj{op op':CmpOp}{r r':R2}(ho:b6 X (compareOp op) r)(ho':b6 X (compareOp op') r')(ha:PE X a ta)(hb:PE X b tb)(hc:PE X c tc) (hm:lastMarks [op,op'] [b,c]=false:=by with_unfolding_all rfl):PE X (.Compare a [op,op'] [b,c] pos) (GD r r' ta tb tc):=by
 intro pins s σ H Q I h;refine Compare_chain (aG (ha pins s σ H _ I h) λv s1 ⟨x,H1,I1,r1,q1⟩=>chain_link (aG (hb pins s1 σ H1 _ I1 q1) λu s2 ⟨y,H2,I2,r2,q2⟩=>aG (ho pins s2 σ H2 x y v u _ I2 r1 r2 q2) λd s3 ⟨z,H3,I3,r3,k,e,q3⟩=>?_)) hm
 subst e;cases r3;refine nX ?_;cases k with
 |false=>exact ite_ff ⟨.bl false,H3,I3,rfl,q3⟩
 |true=>exact ite_tt (chain_last (aG (hc pins s3 σ H3 _ I3 q3) λw' s4 ⟨z',H4,I4,r4,q4⟩=>ho' pins s4 σ H4 y z' u w' Q I4 r2 r4 q4))
theorem GF{op op':CmpOp}{r r':R2}(ho:b6 X (compareOp op) r)(ho':b6 X (compareOp op') r')(ha:PE X a ta)(hb:PE X b tb)(hc:PE X c tc) (hm:lastMarks [op,op'] [b,c]=false:=by with_unfolding_all rfl):PT X (.Compare a [op,op'] [b,c] pos) (oF (GD r r' ta tb tc)):=by
 intro pins s σ H Q I h;refine isTrue_chain (aG (ha pins s σ H _ I h) λv s1 ⟨x,H1,I1,r1,q1⟩=>test_link (aG (hb pins s1 σ H1 _ I1 q1) λu s2 ⟨y,H2,I2,r2,q2⟩=>aG (ho pins s2 σ H2 x y v u _ I2 r1 r2 q2) λd s3 ⟨z,H3,I3,r3,k,e,q3⟩=>?_)) hm
 subst e;cases r3;refine nX ?_;cases k with
 |false=>obtain⟨k',e',q'⟩:=q3;cases e';exact ite_ff ⟨H3,I3,q'⟩
 |true=>refine ite_tt (test_last (aG (hc pins s3 σ H3 _ I3 q3) λw' s4 ⟨z',H4,I4,r4,q4⟩=>aG (ho' pins s4 σ H4 y z' u w' _ I4 r2 r4 q4) λd' s5 ⟨z2,H5,I5,r5,k2,e2,q5⟩=>?_));subst e2;cases r5;exact nX ⟨H5,I5,q5⟩
theorem wJ:(sizeLine:Nat)<2^63:=by rw[aZ];decide
theorem vals1{x:V}{us:ω}(r:Vals [x] us):∃u,us=[u]/\RelV x u:=by
 cases r with
 |cons r1 r2=>cases r2;exact⟨_,rfl,r1⟩
theorem vals2{x y:V}{us:ω}(r:Vals [x,y] us):∃u w',us=[u,w']/\RelV x u/\RelV y w':=by
 cases r with
 |cons r1 r2=>
  cases r2 with
  |cons r3 r4=>cases r4;exact⟨_,_,rfl,r1,r3⟩
theorem wK:ij X (.builtin "abs") (λxs H Q=>∃i,xs=[.int i]/\Q (.int (if i<0 then-i else i)) H):=by intro pins s σ H xs us Q I r h;obtain⟨i,rfl,q⟩:=h;obtain⟨u,rfl,t,rfl⟩:=vals1 r;exact call_abs_int λu tk=>⟨.int (if i<0 then-i else i),H,I.tok _,⟨_,rfl⟩,q⟩
theorem SF:ij X (.type "str") (λxs H Q=>∃i,xs=[.int i]/\i.natAbs.log2<1920/\Q (.str (toString i)) H):=by intro pins s σ H xs us Q I r h;obtain⟨i,rfl,hz,q⟩:=h;obtain⟨u,rfl,t,rfl⟩:=vals1 r;exact PySem.P.str_of_int hz ⟨.str _,H,I.tok _,⟨_,rfl⟩,q⟩
theorem SG:ij X (.builtin "ord") (λxs H Q=>∃x,xs=[.str x]/\x.length=1/\Q (.int (x.cps.getD 0 0:Nat)) H):=by intro pins s σ H xs us Q I r h;obtain⟨x,rfl,hz,q⟩:=h;obtain⟨u,rfl,t,rfl⟩:=vals1 r;exact ord_of_one hz ⟨.int _,H,I.tok _,⟨_,rfl⟩,q⟩
end
structure oG(h:Heap)(x dx C:Addr)(mA:τ):Prop where
 obj:h.get? x=some (instObj C dx)
 ns:h.Ns1 dx mA
 ne:dx≠x
theorem SI{h:Heap}{dx:Addr}{mA:τ}(n:h.Ns1 dx mA):∃od,h.get? dx=some od/\∀name,lookIn name od=some (mA name):=by
 obtain⟨o,es,ep,ho,hd,hk,_,hm⟩:=n;refine⟨o,ho,λname=>?_⟩;have e:=hm name;unfold nsFind findBy at e;rw[<-Array.find?_toList]at e;unfold lookIn;rw[hd];dsimp only;split
 ·rename_i y q
  rw[q]at e;exact c7 some e
 ·rename_i q
  rw[q]at e;have a:es.toList.any (·.refKey)=false:=by rw[List.any_eq_false];intro y hy;obtain⟨z,t,hkey⟩:=hk y (Array.mem_toList_iff.mp hy);simp[DictEntry.refKey,hkey]
  have a':¬es.toList.any (·.refKey)=true:=by rw[a];exact cM
  rw[af a'];exact c7 some e
theorem oG.look{h:Heap}{x dx C:Addr}{mA:τ}(I:oG h x dx C mA):∃od,PySem.W.InstAt h x (instObj C dx) C (some od)/\∀name,lookIn name od=some (mA name):=let ⟨od,ho,hl⟩:=SI I.ns
 ⟨od,⟨I.obj,rfl,rfl,ho⟩,hl⟩
section
variable{prog:Program}{w:World}{A:Around}{E:ρ}{s:Shared}{K:ax}{x dx C f:Addr}{mA:τ}{name:Str}{v:Value}
theorem abq{expr:Bool}{Q:ρ}(X:K.In s.heap)(I:oG s.heap x dx C mA)(hg:plainGet K C name=true)(hh:hasDictIn K C=true) (ha:findIn K (.ref C) name=some none)(hv:mA name=some v)(hv':PySem.W.handedIn v=true)(h:Q v {s with toks:=s.toks+1}):wpAny (model prog w) A (getAttr (.ref x) name expr) Q E s:=by
 obtain⟨od,J,hl⟩:=I.look;exact PySem.W.get_value X J (Q8 hg).1 (PySem.W.findObj_own hh ha rfl (by rw[hl,hv])) hv' h
theorem SJ{pl:Sem Bool}{Q:Value×List Value->Shared->Prop}(X:K.In s.heap)(I:oG s.heap x dx C mA)(hg:plainGet K C name=true) (hf:findIn K (.ref C) name=some (some (.ref f)))(ht:isFn K (.ref f)=true)(hv:mA name=none)(h:Q (.ref f,[.ref x]) s):wpAny (model prog w) A (getMethod (.ref x) name pl) Q E s:=by
 obtain⟨od,J,hl⟩:=I.look;exact PySem.W.method_fn X J (Q8 hg).1 (Q8 hg).2 hf (ke.mp ht) (by show(lookIn name od).map (·.isSome)=some false;rw[hl,hv];rfl) h
theorem SK{ns:γ}{Q:Unit->Shared->Prop}(X:K.In s.heap)(I:oG s.heap x dx C mA) (hs:findIn K (.ref C) "__setattr__"=some (some (.builtin "object.__setattr__")))(hp:PySem.W.plainOver K C=true)(ht:takerIn K C name=some none)(hh:hasDictIn K C=true) (hw:PySem.Within mA ns)(hsz:ns.length<=sizeLine) (h:∀h',oG h' x dx C (λy=>if y=name then some v else mA y)->Heap.SameBut dx s.heap h'->Q () {s with heap:=h',toks:=s.toks+2}):wpAny (model prog w) A (setAttr (.ref x) name v) Q E s:=by
 obtain⟨od,J,hl⟩:=I.look;refine PySem.W.set_plain X J hs (PySem.W.osa_open (s:= {s with toks:=s.toks+1}) (r:=none) X J hp ht λb=>?_);obtain⟨cd,hc,hd'⟩:=PySem.W.any_some hh;have hx:s.heap.get? x=some ⟨.ref C,some dx,.plain, #[]⟩:=I.obj;refine ai (aB (ai (ai (wpAny_loadPart hx (ai (PySem.W.Looks.here (s:= {s with toks:=s.toks+1}) (PySem.W.looks_clsIn X hc) ?_))))));rw[hd'];refine aB (a:=some dx) (ai (aB (ai ?_)));refine wpAny_nsSet1 (s:= {s with toks:=s.toks+1}) I.ns λh' hn2 hs2=>?_
 obtain⟨oD,esD,epD,Ah,Ai,Aj⟩:=hn2.count (PySem.Within.cons name v hw);refine ai (wpAny_lookBehind Ah (by rw[Ai];exact pastItsLine_dict (bE Aj (by rw[bT];omega))) ?_);exact aB (h _ ⟨(hs2.2 _ (cq I.ne)).trans I.obj,hn2,I.ne⟩ hs2)
theorem GG{R:Result->Shared->Prop}{vs:ω}{kw:List (Str×Value)}(X:K.In s.heap)(hm:PySem.W.makesIn K C=true) (hi:findIn K (.ref C) "__init__"=some (some (.ref f)))(hf:PySem.W.typeIn K (.ref f)=some (.type "function")) (h:codeAny (model prog w) (A.under (.builtin "type.__call__" ⟨.ref C::vs,kw⟩)) (.call (.ref f) ⟨.ref (s.heap.objs.size+1)::vs,kw⟩) (PySem.W.InitBack (s.heap.objs.size+1) R) {s with heap:=(s.heap.push emptyDict).push (instObj C s.heap.objs.size)}):codeAny (model prog w) A (.call (.ref C) ⟨vs,kw⟩) R s:=by
 obtain⟨hh,g,d,t,os⟩:=s;exact PySem.W.make_core (PySem.W.makes_of X hm) (PySem.W.looks_findIn X hi) (λself=>PySem.W.bind_fn X self hf) (.inl rfl) h
end
def bz(f:Str)(v:V):List (Str×V)->List (Str×V)
 |[]=>[(f,v)]
 |(g,x)::r=>if g=f then (g,v)::r else (g,x)::bz f v r
theorem dD(f g:Str)(v:V):∀fs:List (Str×V),(bz f v fs).lookup g=if g=f then some v else fs.lookup g
 |[]=>by
  show List.lookup g [(f,v)]=_;by_cases h:g=f
  ·have hb:(g==f)=true:=ke.mpr h;simp only[List.lookup,hb,ah h]
  ·have hb:(g==f)=false:=nV.mpr h;simp only[List.lookup,hb,af h]
 |(k,x)::r=>by
  have ih:=dD f g v r;rw[show bz f v ((k,x)::r)=(if k=f then (k,v)::r else (k,x)::bz f v r) from rfl];by_cases hk:k=f
  ·rw[ah hk];by_cases h:g=k
   ·have hb:(g==k)=true:=ke.mpr h;simp only[List.lookup,hb,ah (h.trans hk)]
   ·have hb:(g==k)=false:=nV.mpr h;simp only[List.lookup,hb,af (λe:g=f=>h (e.trans hk.symm))]
  ·rw[af hk];by_cases h:g=k
   ·have hb:(g==k)=true:=ke.mpr h;simp only[List.lookup,hb,af (λe:g=f=>hk (h.symm.trans e))]
   ·have hb:(g==k)=false:=nV.mpr h;simp only[List.lookup,hb];exact ih
theorem Ak(f:Str)(v:V):∀fs:List (Str×V),f∈(bz f v fs).map (·.1)/\∀g,g∈fs.map (·.1)->g∈(bz f v fs).map (·.1)
 |[]=>⟨by simp[bz],λg h=>by simp at h⟩
 |(k,x)::r=>by
  obtain⟨i1,i2⟩:=Ak f v r;rw[show bz f v ((k,x)::r)=(if k=f then (k,v)::r else (k,x)::bz f v r) from rfl];by_cases hk:k=f
  ·rw[ah hk];subst hk;exact⟨by simp,λg h=>by simpa using h⟩
  ·rw[af hk];refine⟨?_,λg h=>?_⟩
   ·rw[bx];exact bM _ i1
   ·rw[bx]at h ⊢;rcases aX.mp h with e |e
    ·exact aX.mpr (.inl e)
    ·exact bM _ (i2 g e)
theorem GH(f:Str)(v:V):∀fs:List (Str×V),(bz f v fs).length<=fs.length+1
 |[]=>by simp[bz]
 |(k,x)::r=>by
  have ih:=GH f v r;rw[show bz f v ((k,x)::r)=(if k=f then (k,v)::r else (k,x)::bz f v r) from rfl];by_cases hk:k=f
  ·rw[ah hk,bT,bT];omega
  ·rw[af hk,bT,bT];omega
theorem fA.some_of{v:V}{o:Option Value}(r:fA (some v) o):∃u,o=some u/\RelV v u:=by
 cases o with
 |none=>exact(show False from r).elim
 |some u=>exact⟨u,rfl,r⟩
theorem fA.none_of{o:Option Value}(r:fA none o):o=none:=by
 cases o with
 |none=>rfl
 |some u=>exact(show False from r).elim
theorem SM{v:V}{u:Value}(r:RelV v u):PySem.W.handedIn u=true:=by
 cases v with
 |aw=>cases(show u=Value.none from r);rfl
 |bl b=>cases(show u=Value.bool b from r);rfl
 |int i=>obtain⟨t,e⟩:=(show ∃t,u=Value.int i t from r);cases e;rfl
 |str x=>obtain⟨t,e⟩:=(show ∃t,u=Value.str x t from r);cases e;rfl
 |gL b=>obtain⟨t,e⟩:=(show ∃t,u=Value.bytes b t from r);cases e;rfl
 |flt b=>obtain⟨t,e⟩:=(show ∃t,u=Value.float b t from r);cases e;rfl
 |ref a=>cases(show u=Value.ref a from r);rfl
 |ty n=>cases(show u=Value.type n from r);rfl
section
variable{P:Program}{w:World}{H H':Hp}{h h':Heap}{a C dx:Addr}{fs fs':List (Str×V)}
theorem Al(hok:cu P w H h)(e:H a=some (.ins C dx fs)):∃mA,oG h a dx C mA/\(∀f,fA (fs.lookup f) (mA f))/\PySem.Within mA (fs.map (·.1))/\fs.length<=1000/\H dx=some (.own a):=by obtain⟨d,z,ne,ob,mA,n,r,q⟩:=(show ck P w H h a (.ins C dx fs) from hok a _ e);exact⟨mA,⟨ob,n,ne⟩,r,q,z,d⟩
end
structure iX(K:ax)(C:Addr):Prop where
 pg:plainGet K C Str.empty=true
 hd:hasDictIn K C=true
 po:PySem.W.plainOver K C=true
 sa:findIn K (.ref C) "__setattr__"=some (some (.builtin "object.__setattr__"))
theorem iX.get{K:ax}{C:Addr}(c:iX K C)(f:Str):plainGet K C f=true:=c.pg
def dQ(K:ax)(C:Addr)(f:Str):Prop:=findIn K (.ref C) f=some none
theorem dQ.SN{K:ax}{C:Addr}{f:Str}(n:dQ K C f):takerIn K C f=some none:=by unfold takerIn;rw[show findIn K (.ref C) f=some none from n];rfl
structure kb(K:ax)(C:Addr)(m:Str)(f:Addr):Prop where
 at_:findIn K (.ref C) m=some (some (.ref f))
 fn:isFn K (.ref f)=true
 kp:keepIn K (.ref f)=true
section
variable{X:Cx}{pins:η}{σ:St}{H:Hp}{s:Shared}{a C dx:Addr}{fs:List (Str×V)}{f:Str}{v:V}{A:Around}{E:ρ}
theorem SO{b:Bool}{Q:ρ}(I:Inv X pins σ H s)(e:H a=some (.ins C dx fs))(c:iX X.K C)(n:dQ X.K C f)(l:fs.lookup f=some v) (h:∀u s',Inv X pins σ H s'->RelV v u->Q u s'):wpAny (model X.prog X.w) A (getAttr (.ref a) f b) Q E s:=by
 obtain⟨mA,O,r,_,_,_⟩:=Al I.hok e;obtain⟨u,hu,ru⟩:=fA.some_of (v:=v) (o:=mA f) (by rw[<-l];exact r f);exact abq I.bO O (c.get f) c.hd n hu (SM ru) (h u _ (I.tok _) ru)
theorem GJ{m:Str}{g:Addr}{pl:Sem Bool}{Q:Value×List Value->Shared->Prop}(I:Inv X pins σ H s)(e:H a=some (.ins C dx fs))(c:iX X.K C)(k:kb X.K C m g)(l:fs.lookup m=none) (h:Q (.ref g,[.ref a]) s):wpAny (model X.prog X.w) A (getMethod (.ref a) m pl) Q E s:=by
 obtain⟨mA,O,r,_,_,_⟩:=Al I.hok e;have hn:mA m=none:=fA.none_of (by rw[<-l];exact r m);exact SJ I.bO O (c.get m) k.at_ k.fn hn h
theorem SQ{y:V}{u:Value}{Q:Unit->Shared->Prop}(I:Inv X pins σ H s)(e:H a=some (.ins C dx fs))(c:iX X.K C)(n:dQ X.K C f)(hl:fs.length<1000)(ry:RelV y u) (h:∀s',Inv X pins σ (upd H a (.ins C dx (bz f y fs))) s'->Q () s'):wpAny (model X.prog X.w) A (setAttr (.ref a) f u) Q E s:=by
 obtain⟨mA,O,r,wi,_,ho⟩:=Al I.hok e;have hz:(fs.map (·.1)).length<=sizeLine:=by rw[aI,aZ];omega
 refine SK I.bO O c.sa c.po n.SN c.hd wi hz λh' O' sb=>h _ ?_
 have hd:∃o,h'.get? dx=some o:=let ⟨o,_,_,e',_⟩:=O'.ns;⟨o,e'⟩
 refine I.write (x:=a) (e:=dx) (by rw[e];exact True.intro) (.inr ho) (λb q hb z=>(sb.2 b hb).trans z) hd ?_;refine⟨by rw[ay O.ne];exact ho,?_,O.ne,O'.obj,_,O'.ns,λg=>?_,λg hg=>?_⟩
 ·have:=GH f y fs;omega
 ·show fA ((bz f y fs).lookup g) (if g=f then some u else mA g);rw[dD];by_cases q:g=f
  ·rw[ah q,ah q];exact ry
  ·rw[af q,af q];exact r g
 ·by_cases q:g=f
  ·rw[q];exact(Ak f y fs).1
  ·refine(Ak f y fs).2 g (wi g λz=>hg ?_);show(if g=f then some u else mA g)=none;rw[af q];exact z
theorem Inv.made(I:Inv X pins σ H s):Inv X pins σ (upd (upd H s.heap.objs.size (.own (s.heap.objs.size+1))) (s.heap.objs.size+1) (.ins C s.heap.objs.size [])) {s with heap:=(s.heap.push emptyDict).push (instObj C s.heap.objs.size)}:=by
 have e1:(s.heap.push emptyDict).get? s.heap.objs.size=some emptyDict:=cw s.heap rfl;have e2:((s.heap.push emptyDict).push (instObj C s.heap.objs.size)).get? (s.heap.objs.size+1)=some (instObj C s.heap.objs.size):=by
  have:=cw (s.heap.push emptyDict) (o:=instObj C s.heap.objs.size) rfl
  rwa [e8]at this
 have e3:(s.heap.push emptyDict).Ns s.heap.objs.size (λ_=>none):=⟨emptyDict, #[],_,e1,rfl,(λe he=>absurd he (by simp)),λ_=>rfl⟩;have I1:=I.laid (a:=s.heap.objs.size) (o:=.own (s.heap.objs.size+1)) (h':=s.heap.push emptyDict) (t':=s.toks) (λb u q=>bu _ q) (aJ _) ⟨_,e1⟩;refine I1.laid (a:=s.heap.objs.size+1) (o:=.ins C s.heap.objs.size []) (t':=s.toks) (λb u q=>bu _ q) (nZ (e8 _ _)) ?_;have ne:s.heap.objs.size≠s.heap.objs.size+1:=bQ (sE _);refine⟨by rw[ay ne,au],bS _,ne,e2,λ_=>none,(Heap.Ns1.of_empty e3).at λo q=>bu _ q,λ_=>True.intro,λy hy=>absurd rfl hy⟩
theorem GK{prog:Program}{w:World}{env:Env}{e:Expr}{f:Str}{pos:Pos}{s:Shared}{Q:ρ}(hb:attributeBase e f env (eval e env)=eval e env) (h:wpAny (model prog w) A (eval e env) (λo s₁=>wpAny (model prog w) A (getAttr o f true) Q E s₁) E s):wpAny (model prog w) A (eval (.Attribute e f pos) env) Q E s:=Attribute_any_ h (by rw[arm_eval_Attribute,hb])
end
inductive GL(K:ax)(f:Str)(Q:VK)(x:V)(H1:Hp):Prop
 |mk a C dx fs v:x=.ref a->H1 a=some (.ins C dx fs)->iX K C->dQ K C f->fs.lookup f=some v->Q v H1->GL K f Q x H1
def oH(K:ax)(ta:TE)(f:Str):TE:=λσ H Q=>ta σ H λx H1=>GL K f Q x H1
inductive GO(K:ax)(f:Str)(D:Ends)(σ:St)(y:V)(x:V)(H2:Hp):Prop
 |mk a C dx fs:x=.ref a->H2 a=some (.ins C dx fs)->iX K C->dQ K C f->fs.length<1000->D.nx σ (upd H2 a (.ins C dx (bz f y fs)))->GO K f D σ y x H2
def SR(K:ax)(ta tv:TE)(f:Str):TS:=λD σ H=>tv σ H λy H1=>ta σ H1 λx H2=>GO K f D σ y x H2
section
variable{X:Cx}{o e value:Expr}{f:Str}{pos pos' tpos:Pos}{ta tv:TE}
theorem aA(he:PE X e ta)(hb:attributeBase e f X.env (eval e X.env)=eval e X.env:=by rfl):PE X (.Attribute e f pos) (oH X.K ta f):=by intro pins s σ H Q I h;refine GK hb (aG (he pins s σ H _ I h) λu s1 ⟨x,H1,I1,rx,a,C,dx,fs,v,ex,ea,c,n,l,q⟩=>?_);subst ex;obtain rfl:u=Value.ref a:=rx;exact SO I1 ea c n l λu' s2 I2 ru=>⟨v,H1,I2,ru,q⟩
theorem fR(ha:PE X o ta)(hv:PE X value tv)(hs:swapsWith value (some (.Attribute o f pos')) pos.line X.env=pure false):PS X (.Assign [.Attribute o f pos'] value pos) (SR X.K ta tv f):=by intro pins s σ H D I h;refine plainObj_wpAny_Assign_Attribute (aG (hv pins s σ H _ I h) λu s1 ⟨y,H1,I1,ry,q⟩=>aG (ha pins s1 σ H1 _ I1 q) λov s2 ⟨x,H2,I2,rx,a,C,dx,fs,ex,ea,c,n,l,q2⟩=>?_) hs;subst ex;obtain rfl:ov=Value.ref a:=rx;exact SQ I2 ea c n l ry λs3 I3=>⟨σ,_,I3,q2⟩
end
structure b7(k:Nat)(A:Around):Prop where
 hd:A.handled=none
 dp:A.depth+3*k+5<recursionLimit
 un:A.units+16*k+200<cLine
theorem b7.mono{j k:Nat}{A:Around}(r:b7 k A)(h:j<=k):b7 j A:=⟨r.hd,by have:=r.dp;omega,by have:=r.un;omega⟩
theorem b7.deeper{k:Nat}{A:Around}(r:b7 (k+1) A)(env:Env):b7 k (A.deeper env):=⟨r.hd,by have:=r.dp;show A.depth+1+3*k+5<_;omega,by have:=r.un;show A.units+3+16*k+200<_;omega⟩
theorem SU{A:Around}{C:Addr}{us:ω}{kw:List (Str×Value)}:(A.under (.builtin "type.__call__" ⟨.ref C::us,kw⟩)).depth=A.depth+1:=by first |rfl |simp[Around.under,Code.weight,Code.isCreation,Code.isGuard,Code.isCaller,Code.frames,Code.isFrame,guardIds]
theorem SV{A:Around}{C:Addr}{us:ω}{kw:List (Str×Value)}:(A.under (.builtin "type.__call__" ⟨.ref C::us,kw⟩)).units=A.units+1:=by first |rfl |simp[Around.under,Code.cUnits,Code.frames,Code.isFrame]
theorem b7.make{k:Nat}{A:Around}(r:b7 (k+1) A)(C:Addr)(us:ω)(kw:List (Str×Value)):b7 k (A.under (.builtin "type.__call__" ⟨.ref C::us,kw⟩)):=⟨r.hd,by have:=r.dp;rw[SU];omega,by have:=r.un;rw[SV];omega⟩
theorem b7.depth{k:Nat}{A:Around}(r:b7 k A):A.depth<recursionLimit:=by have:=r.dp;omega
theorem b7.units{k:Nat}{A:Around}(r:b7 k A):A.units+64<cLine:=by have:=r.un;omega
def km:TA:=λ_ H Q=>Q [] H
def kn(ta:TE)(tr:TA):TA:=λσ H Q=>ta σ H λx H1=>tr σ H1 λxs H2=>Q (x::xs) H2
section
variable{X:Cx}{e:Expr}{es:List Expr}{te:TE}{t:TA}{pos:Pos}
theorem ag:PA X [] km:=λ_ _ _ _ H Q I h=>Calls.spliced_nil ⟨[],H,I,.nil,h⟩
theorem aa(ha:PE X e te)(hr:PA X es t)(hs:starEach (e::es) X.env=(false,eval e X.env)::starEach es X.env:=by rfl):PA X (e::es) (kn te t):=by intro pos pins s σ H Q I h;rw[hs];show wpAny _ _ (spliced ((false,eval e X.env)::backTo pos (starEach es X.env))) _ _ s;refine Calls.spliced_cons (aG (ha pins s σ H _ I h) λu s1 ⟨x,H1,I1,r1,q1⟩=>?_);exact aG (hr pos pins s1 σ H1 _ I1 q1) λus s2 ⟨xs,H2,I2,r2,q2⟩=>⟨x::xs,H2,I2,.cons r1 r2,q2⟩
def SW(t:TA):TE:=λσ H Q=>t σ H λxs H1=>xs.length<=sizeLine/\∀p,H1 p=none->Q (.ref p) (upd H1 p (.tup xs))
def GP(t:TA):TE:=λσ H Q=>t σ H λxs H1=>xs.length<=sizeLine/\∀p,H1 p=none->Q (.ref p) (upd H1 p (.lst xs))
theorem fE{x1}(h:PA X es t):PE X (.Tuple es x1 pos) (SW t):=by intro pins s σ H Q I hq;refine wpAny_Tuple_spliced (aG (h pos pins s σ H _ I hq) λus s1 ⟨xs,H1,I1,r,z,q⟩=>⟨by rw[<-r.length];exact z,?_⟩);have hf:H1 s1.heap.objs.size=none:=I1.hok.fresh (aJ _);refine⟨.ref s1.heap.objs.size,upd H1 s1.heap.objs.size (.tup xs),I1.laid (t':=s1.toks) (λb u e=>bu _ e) (aJ _) ?_,rfl,q _ hf⟩;exact⟨z,us,r,⟨_,cw _ rfl,rfl,_,rfl⟩⟩
theorem bV(h:PA X es t):PE X (.List es pos) (GP t):=by intro pins s σ H Q I hq;refine wpAny_List_spliced (aG (h pos pins s σ H _ I hq) λus s1 ⟨xs,H1,I1,r,z,q⟩=>⟨by rw[<-r.length];exact z,?_⟩);have hf:H1 s1.heap.objs.size=none:=I1.hok.fresh (aJ _);refine⟨.ref s1.heap.objs.size,upd H1 s1.heap.objs.size (.lst xs),I1.laid (t':=s1.toks) (λb u e=>bu _ e) (aJ _) ?_,rfl,q _ hf⟩;exact⟨z,us,0,r,cw _ rfl⟩
end
abbrev Sp:=List V->Hp->VK->XK->Prop
abbrev jy:=List Env->Hp->Shared->XK->Value->Shared->Prop
structure oJ(P:Program)(w:World)(K:ax)(mg:τ)(base:Heap)(A:Around)(outer:List Env)(s:Shared)(H:Hp):Prop where
 frames:A.frames=some outer
 mod:Mod K mg base
 bs:∀b o,base.get? b=some o->s.heap.get? b=some o/\H b=none
 iT:base.objs.size<=s.heap.objs.size
 fO:s.heap.FunFrames base outer
 jO:∀b∈frs outer,H b=none
 hok:cu P w H s.heap
 bare:AllBare s.gens
def CE(outer:List Env)(P:Program)(w:World)(H:Hp)(s:Shared)(Q:VK)(u:Value)(s':Shared):Prop:=∃v H',s'.os=s.os/\AllBare s'.gens/\Un (frs outer) [] H H' s.heap s'.heap/\cu P w H' s'.heap/\RelV v u/\Q v H'
def CR(CX:jy)(outer:List Env)(P:Program)(w:World)(H:Hp)(s:Shared)(Q:VK)(E:XK)(r:Result)(s':Shared):Prop:=match r with
 | .ok (.ret u)=>CE outer P w H s Q u s'
 | .ok _=>False
 | .error e=>CX outer H s E e s'
structure aE(P:Program)(w:World)(K:ax)(mg:τ)(base:Heap)(CX:jy)(k:Nat)(f:Addr)(fd:FuncData)(ps:γ)(sp:Sp):Prop where
 len:∀vs H Q E,sp vs H Q E->vs.length=ps.length
 run:∀(A:Around)(outer:List Env)(s:Shared)(H:Hp)(args:Args)(us:ω)(vs:ε)(Q:VK)(E:XK),b7 k A->oJ P w K mg base A outer s H->BindsTo s fd args (ps.zip us)->Vals vs us->sp vs H Q E->codeAny (model P w) A (.call (.ref f) args) (CR CX outer P w H s Q E) s
theorem oJ.make{P:Program}{w:World}{K:ax}{mg:τ}{base:Heap}{A:Around}{outer:List Env}{s:Shared}{H:Hp}(e:oJ P w K mg base A outer s H)(C:Addr)(us:ω)(kw:List (Str×Value)):oJ P w K mg base (A.under (.builtin "type.__call__" ⟨.ref C::us,kw⟩)) outer s H:=⟨by first |exact e.frames |(simpa[Around.under,Code.envs,Code.isFrame,pushEnvs]using e.frames),e.mod,e.bs,e.iT,e.fO,e.jO,e.hok,e.bare⟩
section
variable{X:Cx}{pins:η}{σ:St}{H:Hp}{s s':Shared}
theorem Inv.wL(I:Inv X pins σ H s):oJ X.prog X.w X.K X.mg X.base X.A X.stack s H:=⟨I.ok.frames,I.ok.mod,I.bs,bE I.ok.iT I.sz,I.stack,I.zS,I.hok,I.bare⟩
theorem Inv.after{Q:VK}{u:Value}(I:Inv X pins σ H s)(h:CE X.stack X.prog X.w H s Q u s'):EP X pins σ Q u s':=by obtain⟨v,H',os,bare,un,hok,r,q⟩:=h;obtain⟨hh,g,d,t,os'⟩:=s';obtain rfl:os'=s.os:=os;exact⟨v,H',I.call (h':=hh) (g':=g) (d':=d) (t':=t) (ch:=[]) un hok bare (λb z=>absurd z (by simp)),r,q⟩
end
def qX(sp:Sp)(dvs:ε)(E:XK)(t:TA):TE:=λσ H Q=>t σ H λvs H1=>sp (vs++dvs) H1 Q E
inductive GQ(C:Addr)(m:Str)(sp:Sp)(dvs:ε)(E:XK)(t:TA)(σ:St)(Q:VK)(x:V)(H1:Hp):Prop
 |mk a dx fs:x=.ref a->H1 a=some (.ins C dx fs)->fs.lookup m=none->(t σ H1 λvs H2=>sp (x::(vs++dvs)) H2 Q E)->GQ C m sp dvs E t σ Q x H1
def GR(C:Addr)(m:Str)(sp:Sp)(dvs:ε)(E:XK)(ta:TE)(t:TA):TE:=λσ H Q=>ta σ H λx H1=>GQ C m sp dvs E t σ Q x H1
def GS(C:Addr)(sp:Sp)(dvs:ε)(E:XK)(t:TA):TE:=λσ H Q=>t σ H λvs H1=>∀x dx,H1 x=none->H1 dx=none->dx≠x->sp (.ref x::(vs++dvs)) (upd (upd H1 dx (.own x)) x (.ins C dx [])) (λv H2=>v=.aw/\Q (.ref x) H2) E
def Binds(K:ax)(fd:FuncData)(ps:γ)(ds:ω):Prop:=∀(s:Shared)(us:ω),K.In s.heap->(us++ds).length=ps.length->BindsTo s fd ⟨us,[]⟩ (ps.zip (us++ds))
theorem Binds.all{K:ax}{fd:FuncData}{ps:γ}(h:∀us:List Value,us.length=ps.length->bindArgs fd ⟨us,[]⟩=pure (ps.zip us)):Binds K fd ps []:=λs us _ hl=>by rw[ie]at hl ⊢;exact .of_eq (h us hl)
def kc(CX:jy)(X:Cx)(E:XK):Prop:=∀(pins:η)(σ:St)(H:Hp)(s:Shared)(e:Value)(s':Shared),Inv X pins σ H s->CX X.stack H s E e s'->X.xe e s'
section
variable{X:Cx}{CX:jy}{k:Nat}{f C:Addr}{fd:FuncData}{ps:γ}{sp:Sp}{dvs:ε}{ds:ω}{E:XK}{x m:Str}{p pos apos:Pos}{e o:Expr}{es:List Expr}{ta:TE}{t:TA}
theorem wM{pins:η}{σ:St}{H:Hp}{s:Shared}{Q:VK}{us:ω}{vs:ε}(F:aE X.prog X.w X.K X.mg X.base CX k f fd ps sp)(hr:b7 k X.A)(hb:Binds X.K fd ps ds)(hd:Vals dvs ds)(hx:kc CX X E) (I:Inv X pins σ H s)(r:Vals vs us)(h:sp (vs++dvs) H Q E):wpAny (model X.prog X.w) X.A (call (.ref f) us) (EP X pins σ Q) X.xe s:=by
 have r2:Vals (vs++dvs) (us++ds):=r.append hd;have hl:(us++ds).length=ps.length:=by rw[<-r2.length];exact F.len _ _ _ _ h
 refine sF (mH (F.run X.A X.stack s H ⟨us,[]⟩ (us++ds) (vs++dvs) Q E hr I.wL (hb s us I.bO hl) r2 h) λr s' hq=>?_);cases r with
 |error e=>exact hx pins σ H s e s' I hq
 |ok fl=>
  cases fl with
  |ret u=>exact I.after hq
  |next=>exact False.elim hq
  |brk=>exact False.elim hq
  |cont=>exact False.elim hq
theorem tm(F:aE X.prog X.w X.K X.mg X.base CX k f fd ps sp)(hr:b7 k X.A)(hg:Gl X x)(hm:X.mg x=some (.ref f))(hk:keepIn X.K (.ref f)=true)(hb:Binds X.K fd ps ds)(hd:Vals dvs ds)(hx:kc CX X E) (ha:PA X (e::es) t)(hdb:(x==("__debug__" :Str))=false:=by decide)(he:starEach (e::es) X.env=(false,eval e X.env)::starEach es X.env:=by rfl)(hpl:(backTo pos (starEach es X.env)).any (·.1)=false:=by rfl):PE X (.Call (.Name x p) (e::es) [] pos) (qX sp dvs E t):=by
 intro pins s σ H Q I h;refine qx (ow I hg hm ?_ hdb);refine callWith_K (h₀:=X.base) I.ok.mod.kj hk (aG (ha pos pins s σ H _ I h) λus s1 ⟨vs,H1,I1,r,q⟩=>⟨I1.bO,?_⟩) he hpl;exact wM F hr hb hd hx I1 r q
theorem iY{pl:Sem Bool}(he:PE X o ta)(c:iX X.K C)(hm:kb X.K C m f)(F:aE X.prog X.w X.K X.mg X.base CX k f fd ps sp)(hr:b7 k X.A)(hb:Binds X.K fd ps ds)(hd:Vals dvs ds)(hx:kc CX X E)(ha:PA X (e::es) t) (hst:starEach (e::es) X.env=(false,eval e X.env)::starEach es X.env:=by rfl)(hpl:(backTo pos (starEach es X.env)).any (·.1)=false:=by rfl) (ht:eval (.Call (.Attribute o m apos) (e::es) [] pos) X.env=(do
   let ov<-eval o X.env
   standAt apos.atName
   let (f,first)<-holding [ov] (getMethod ov m pl)
   callWith pos f first (backTo pos (starEach (e::es) X.env)) (backToKw pos (keywordEach [] X.env))):=by rfl):
  PE X (.Call (.Attribute o m apos) (e::es) [] pos) (GR C m sp dvs E ta t):=by
 intro pins s σ H Q I h;refine PySem.W.methodCall_KW (pl:=pl) (aG (he pins s σ H _ I h) λu s1 ⟨x,H1,I1,rx,a,dx,fs,ex,ea,l,q⟩=>?_) ht;subst ex;obtain rfl:u=Value.ref a:=rx;refine GJ I1 ea c hm l ?_;refine callWith_K (first:=[.ref a]) (h₀:=X.base) I.ok.mod.kj hm.kp (aG (ha pos pins s1 σ H1 _ I1 q) λus s2 ⟨vs,H2,I2,r,q2⟩=>⟨I2.bO,?_⟩) hst hpl;exact wM (us:=.ref a::us) (vs:=.ref a::vs) F hr hb hd hx I2 (.cons rfl r) q2
theorem SX{pl:Sem Bool}(he:PE X o ta)(c:iX X.K C)(hm:kb X.K C m f)(F:aE X.prog X.w X.K X.mg X.base CX k f fd ps sp)(hr:b7 k X.A)(hb:Binds X.K fd ps ds)(hd:Vals dvs ds)(hx:kc CX X E) (ht:eval (.Call (.Attribute o m apos) [] [] pos) X.env=(do
   let ov<-eval o X.env
   standAt apos.atName
   let (f,first)<-holding [ov] (getMethod ov m pl)
   callWith pos f first (backTo pos (starEach [] X.env)) (backToKw pos (keywordEach [] X.env))):=by rfl):
  PE X (.Call (.Attribute o m apos) [] [] pos) (GR C m sp dvs E ta km):=by
 intro pins s σ H Q I h;refine PySem.W.methodCall_KW (pl:=pl) (aG (he pins s σ H _ I h) λu s1 ⟨x,H1,I1,rx,a,dx,fs,ex,ea,l,q⟩=>?_) ht;subst ex;obtain rfl:u=Value.ref a:=rx;refine GJ I1 ea c hm l ?_;exact PySem.W.callWith_K0 (first:=[.ref a]) I1.bO hm.kp (wM (us:=[.ref a]) (vs:=[.ref a]) F hr hb hd hx I1 (.cons rfl .nil) q)
structure Mk(K:ax)(C f:Addr):Prop where
 makes:PySem.W.makesIn K C=true
 init:findIn K (.ref C) "__init__"=some (some (.ref f))
 fn:isFn K (.ref f)=true
 kp:keepIn K (.ref C)=true
theorem GU{pins:η}{σ:St}{H:Hp}{s:Shared}{Q:VK}{us:ω}{vs:ε}(M:Mk X.K C f)(F:aE X.prog X.w X.K X.mg X.base CX k f fd ps sp)(hr:b7 (k+1) X.A)(hb:Binds X.K fd ps ds)(hd:Vals dvs ds) (hx:kc CX X E)(I:Inv X pins σ H s)(r:Vals vs us) (h:∀x dx,H x=none->H dx=none->dx≠x->sp (.ref x::(vs++dvs)) (upd (upd H dx (.own x)) x (.ins C dx [])) (λv H2=>v=.aw/\Q (.ref x) H2) E):wpAny (model X.prog X.w) X.A (call (.ref C) us) (EP X pins σ Q) X.xe s:=by
 have hq:=h (s.heap.objs.size+1) s.heap.objs.size (I.hok.fresh (mI _)) (I.hok.fresh (aJ _)) (bQ (sE _));have I2:=Inv.made (C:=C) I;have r2:Vals (V.ref (s.heap.objs.size+1)::(vs++dvs)) (Value.ref (s.heap.objs.size+1)::(us++ds)):=.cons rfl (r.append hd);have hl:(Value.ref (s.heap.objs.size+1)::us++ds).length=ps.length:=by have e:=r2.length;rw[F.len _ _ _ _ hq]at e;exact e.symm
 refine sF (GG (f:=f) I.bO M.makes M.init (ke.mp M.fn) (mH (F.run _ X.stack _ _ ⟨Value.ref (s.heap.objs.size+1)::us,[]⟩ (Value.ref (s.heap.objs.size+1)::(us++ds)) _ _ E (hr.make C us []) (I2.wL.make C us []) (hb _ (Value.ref (s.heap.objs.size+1)::us) I2.bO hl) r2 hq) λr s' hq'=>?_))
 cases r with
 |error e=>exact hx pins σ _ _ e s' I2 hq'
 |ok fl=>
  cases fl with
  |ret u=>obtain⟨v,H',I3,rv,ev,q3⟩:=I2.after hq';subst ev;exact⟨rv,⟨V.ref (s.heap.objs.size+1),H',I3,rfl,q3⟩⟩
  |next=>exact False.elim hq'
  |brk=>exact False.elim hq'
  |cont=>exact False.elim hq'
theorem mW(M:Mk X.K C f)(F:aE X.prog X.w X.K X.mg X.base CX k f fd ps sp)(hr:b7 (k+1) X.A)(hg:Gl X x)(hm:X.mg x=some (.ref C))(hb:Binds X.K fd ps ds)(hd:Vals dvs ds)(hx:kc CX X E) (ha:PA X (e::es) t)(hdb:(x==("__debug__" :Str))=false:=by decide)(he:starEach (e::es) X.env=(false,eval e X.env)::starEach es X.env:=by rfl)(hpl:(backTo pos (starEach es X.env)).any (·.1)=false:=by rfl):PE X (.Call (.Name x p) (e::es) [] pos) (GS C sp dvs E t):=by
 intro pins s σ H Q I h;refine qx (ow I hg hm ?_ hdb);refine callWith_K (h₀:=X.base) I.ok.mod.kj M.kp (aG (ha pos pins s σ H _ I h) λus s1 ⟨vs,H1,I1,r,q⟩=>⟨I1.bO,?_⟩) he hpl;exact GU M F hr hb hd hx I1 r q
theorem S0(M:Mk X.K C f)(F:aE X.prog X.w X.K X.mg X.base CX k f fd ps sp)(hr:b7 (k+1) X.A)(hg:Gl X x)(hm:X.mg x=some (.ref C))(hb:Binds X.K fd ps ds)(hd:Vals dvs ds)(hx:kc CX X E) (hdb:(x==("__debug__" :Str))=false:=by decide):PE X (.Call (.Name x p) [] [] pos) (GS C sp dvs E km):=by
 intro pins s σ H Q I h;refine qx (ow I hg hm ?_ hdb);exact PySem.W.callWith_K0 I.bO M.kp (GU (us:=[]) M F hr hb hd hx I .nil h)
end
def PK(X:Cx)(kws:List Keyword)(t:TA):Prop:=∀(pos:Pos)(pins:η)(s:Shared)(σ:St)(H:Hp)(Q:List V->Hp->Prop),Inv X pins σ H s->t σ H Q->wpAny (model X.prog X.w) X.A (evalAll ((backToKw pos (keywordEach kws X.env)).map (·.2))) (AP X pins σ Q) X.xe s
section
variable{X:Cx}{CX:jy}{k:Nat}{f C:Addr}{fd:FuncData}{ps ks:γ}{sp:Sp}{E:XK}{x m:Str}{p pos apos kpos:Pos}{e o:Expr}{es:List Expr}{kws:List Keyword}{te ta:TE}{t tk:TA}{nm:Option Str}
theorem lV:PK X [] km:=λ_ _ _ _ H Q I h=>wpAny_evalAll_nil ⟨[],H,I,.nil,h⟩
theorem ir(ha:PE X e te)(hr:PK X kws t):PK X (⟨nm,e,kpos⟩::kws) (kn te t):=by intro pos pins s σ H Q I h;show wpAny _ _ (evalAll ((do let v<-eval e X.env;standAt pos;pure v)::(backToKw pos (keywordEach kws X.env)).map (·.2))) _ _ s;refine wpAny_evalAll_cons (ai (aG (ha pins s σ H _ I h) λu s1 ⟨x,H1,I1,r1,q1⟩=>ai (vL (aB ?_))));exact aG (hr pos pins s1 σ H1 _ I1 q1) λus s2 ⟨xs,H2,I2,r2,q2⟩=>⟨x::xs,H2,I2,.cons r1 r2,q2⟩
structure mX(K:ax)(fd:FuncData)(ps ks:γ)(g:List Value->List Value->List Value)(gV:List V->List V->List V):Prop where
 to:∀(s:Shared)(us ws:ω),K.In s.heap->(g us ws).length=ps.length->BindsTo s fd ⟨us,ks.zip ws⟩ (ps.zip (g us ws))
 rel:∀{vs:ε}{us:ω}{zs:ε}{ws:ω},Vals vs us->Vals zs ws->Vals (gV vs zs) (g us ws)
variable{g:List Value->List Value->List Value}{gV:List V->List V->List V}
end
structure mY(N P:γ)(sc:Scope):Prop where
 kind:sc.kind=.function
 co:sc.isCoroutine=false
 gen:sc.isGenerator=false
 nd:N.Nodup
 pre:N.take P.length=P
 par:∀x∈P,sc.names.lookup x=some .local\/sc.names.lookup x=some .cell
 S1:∀y∈sc.names,y.2≠ .free
theorem GV{kindOf:Str->Option NameKind}{x:Str}:∀{binds:List (Str×Value)}{m:τ},(∀v,(x,v) ∉ binds)->bindL kindOf binds m x=m x
 |[],_,_=>rfl
 |(n,v)::r,m,h=>by
  unfold bindL;rw[GV λw hw=>h w (bM _ hw)];split
  ·have:x≠n:=by rintro rfl;exact h v dN
   simp[this]
  ·rfl
theorem GW{kindOf:Str->Option NameKind}{x:Str}:∀{binds:List (Str×Value)}{m:τ},(∀v,(x,v) ∉ binds)->bindC kindOf binds m x=m x
 |[],_,_=>rfl
 |(n,v)::r,m,h=>by
  unfold bindC;rw[GW λw hw=>h w (bM _ hw)];split
  ·rfl
  ·have:x≠n:=by rintro rfl;exact h v dN
   simp[this]
theorem GX{kindOf:Str->Option NameKind}{x:Str}{v:Value}:∀{P:γ}{vs:ω}{i:Nat}{m:τ},P.Nodup->P[i]? =some x->vs[i]? =some v->kindOf x=some .local->bindL kindOf (P.zip vs) m x=some v
 |[],_,_,_,_,h,_,_=>by simp at h
 |_::_,[],_,_,_,_,h,_=>by simp at h
 |p::P,w::vs,0,m,nd,h1,h2,hk=>by simp at h1 h2;subst h1;subst h2;show bindL kindOf ((p,w)::P.zip vs) m p=_;unfold bindL;rw[GV λv hv=>(vN.mp nd).1 (Q9 hv).1,ah hk];simp
 |p::P,w::vs,i+1,m,nd,h1,h2,hk=>by show bindL kindOf ((p,w)::P.zip vs) m x=_;unfold bindL;exact GX (i:=i) (vN.mp nd).2 (by simpa using h1) (by simpa using h2) hk
theorem GY{kindOf:Str->Option NameKind}{x:Str}{v:Value}:∀{P:γ}{vs:ω}{i:Nat}{m:τ},P.Nodup->P[i]? =some x->vs[i]? =some v->kindOf x≠some .local->bindC kindOf (P.zip vs) m x=some v
 |[],_,_,_,_,h,_,_=>by simp at h
 |_::_,[],_,_,_,_,h,_=>by simp at h
 |p::P,w::vs,0,m,nd,h1,h2,hk=>by simp at h1 h2;subst h1;subst h2;show bindC kindOf ((p,w)::P.zip vs) m p=_;unfold bindC;rw[GW λv hv=>(vN.mp nd).1 (Q9 hv).1,af hk];simp
 |p::P,w::vs,i+1,m,nd,h1,h2,hk=>by show bindC kindOf ((p,w)::P.zip vs) m x=_;unfold bindC;exact GY (i:=i) (vN.mp nd).2 (by simpa using h1) (by simpa using h2) hk
def start(N:γ)(vs:ε):St:=vs.map some++List.replicate (N.length-vs.length) none
def bI(CX:jy)(P:Program)(w:World)(K:ax)(mg:τ)(base:Heap)(N:γ)(qual:Str)(scope:Scope)(f:Addr)(cd:Value)(A:Around)(outer:List Env)(s:Shared)(H:Hp)(E:XK):Cx where
 prog:=P
 w:=w
 K:=K
 mg:=mg
 base:=base
 A:=A.deeper (envOfC qual scope s.heap.objs.size f cd)
 N:=N
 s₀:=s
 H₀:=H
 env:=envOfC qual scope s.heap.objs.size f cd
 outer:=outer
 stack:=envOfC qual scope s.heap.objs.size f cd::outer
 ex:=[]
 calm:=true
 fn:=λ_=>true
 pn:=[]
 xe:=λe s'=>wpAny (model P w) (A.deeper (envOfC qual scope s.heap.objs.size f cd)) (leaving (envOfC qual scope s.heap.objs.size f cd) e) (λ_ s''=>CX outer H s E e s'') (λe' s''=>CX outer H s E e' s'') s'
theorem GZ{sc:Scope}{n:Nat}{x:Str}(h:sc.names.lookup x=some .cell):∃c,(cellsFrom n sc.names []).lookup x=some c:=by have q:=PySem.W.cellsFrom_some sc.names n [] (.inl h);exact sG.mp q
theorem S2{CX:jy}{P:Program}{w:World}{K:ax}{mg:τ}{base:Heap}{N ps:γ}{qual:Str}{scope:Scope}{f:Addr}{cd:Value}{A:Around}{outer:List Env}{s s1:Shared}{H:Hp}{E:XK}{us:ω}{vs:ε} (S:mY N ps scope)(hd:A.handled=none)(e0:oJ P w K mg base A outer s H)(hl:vs.length=ps.length)(r:Vals vs us) (x:InCallC s s.heap.objs.size (bindL (envOfC qual scope s.heap.objs.size f cd).kindOf (ps.zip us) λ_=>none) (cellsFrom (s.heap.objs.size+1) scope.names []) (bindC (envOfC qual scope s.heap.objs.size f cd).kindOf (ps.zip us) λ_=>none) s1):Inv (bI CX P w K mg base N qual scope f cd A outer s H E) [] (start N vs) H s1:=by
 have hpl:ps.length<=N.length:=by have:=c7 List.length S.pre;rw[vO]at this;omega
 obtain⟨h1,tk,rfl,hk⟩:=x.done;have noA:∀b:Addr,b ∉ (bI CX P w K mg base N qual scope f cd A outer s H E).ex:=λb z=>absurd (show b∈([]:List Addr) from z) (by simp)
 refine⟨⟨e0.mod,S.kind,rfl,rfl,aJ _,λy z c h1 h2=>?_,λy hy=>?_,λy c _ h=>?_,λ_=>hd,Around.frames_deeper e0.frames,.inr ⟨rfl,rfl⟩,λb z=>absurd z (noA b),e0.bs,e0.iT,λb _ _=>noA b,λb z=>absurd z (noA b),e0.fO,e0.jO⟩,rfl,e0.bare,Un.kept hk,⟨_,x.toInCall.ns,λi y v h1 h2 h3=>?_⟩,λy c h=>⟨_,x.cell y c h⟩,e0.hok.fresh (aJ _),λy c h=>?_,λp hp=>absurd (show p∈([]:List (Addr×Obj)) from hp) (by simp),e0.hok.kept hk,?_⟩
 ·exact name_of_addr x.apart (iK h1) (iK h2)
 ·have hy:scope.names.lookup y=some .cell\/scope.names.lookup y=some .free:=hy;rcases hy with hy |hy
  ·exact GZ hy
  ·exact absurd rfl (S.S1 _ (iK hy))
 ·exact qw (x.above y c (iK h))
 ·have hi:i<vs.length:=by
   unfold start at h2;by_cases hi:i<vs.length
   ·exact hi
   ·rw[List.getElem?_append_right (by simpa using hi)]at h2;rw[n8]at h2;split at h2<;>cases h2
  have ha:vs[i]? =some v:=by
   unfold start at h2;rw[Fw (by simpa using hi),bC]at h2;cases e:vs[i]? with
   |none=>rw[e]at h2;cases h2
   |some a=>rw[e]at h2;cases h2;rfl
  obtain⟨u,hu,rv⟩:=r.get ha;have hp:ps[i]? =some y:=by rw[<-S.pre,List.getElem?_take_of_lt (by omega)];exact h1
  have ndP:ps.Nodup:=by rw[<-S.pre];exact S.nd.sublist (Q_ _ _)
  refine⟨u,rv,?_⟩;rcases S.par y (br hp)with k |k
  ·exact .inl ⟨k,GX ndP hp hu k⟩
  ·obtain⟨c,e⟩:=GZ (n:=s.heap.objs.size+1) k;refine .inr ⟨.inl k,c,e,?_⟩;have q:=x.cell y c e;rw[GY ndP hp hu (by show scope.names.lookup y≠_;rw[k];decide)]at q;exact q
 ·exact e0.hok.fresh (qw (x.above y c (iK h)))
 ·unfold start;show _=N.length;rw[a8,aI,qy];omega
theorem Am{CX:jy}{P:Program}{w:World}{K:ax}{mg:τ}{base:Heap}{k:Nat}{f:Addr}{name qual:Str}{params:Arguments}{body:List Stmt}{scope:Scope}{dV kV doc pm cdv ct oc:Value}{an od:Option Addr} {osl:Array (Option Value)}{N ps:γ}{sp:Sp}(lk:K.lookup f=some ⟨oc,od,.func (fnOf name qual params body scope dV kV doc pm an cdv ct),osl⟩)(hcd:codeIn K cdv qual=true)(S:mY N ps scope) (len:∀vs H Q E,sp vs H Q E->vs.length=ps.length) (hbody:∀(A:Around)(outer:List Env)(s:Shared)(H:Hp)(vs:ε)(Q:VK)(E:XK),b7 k (A.deeper (envOfC qual scope s.heap.objs.size f cdv))->sp vs H Q E->∃t,dP (bI CX P w K mg base N qual scope f cdv A outer s H E) body t/\t {nx:=λ_ H'=>Q .aw H',rt:=Q} (start N vs) H):aE P w K mg base CX (k+1) f (fnOf name qual params body scope dV kV doc pm an cdv ct) ps sp:=by
 refine⟨len,λA outer s H args us vs Q E hr e0 hb r hsp=>?_⟩;have hl:=len _ _ _ _ hsp;have KX:K.In s.heap:=e0.mod.kj.keeps λb o e=>(e0.bs b o e).1
 have lim:s.heap.NoLimit:=e0.mod.nolimit.keeps λb o e=>(e0.bs b o e).1
 have hkind:∀y∈ps.zip us,scope.names.lookup y.1=some .local\/(scope.names.lookup y.1=some .cell/\((cellsFrom (s.heap.objs.size+1) scope.names []).lookup y.1).isSome=true):=λ⟨n,v⟩ hy=>by
  rcases S.par n (Q9 hy).1 with q |q
  ·exact .inl q
  ·exact .inr ⟨q,PySem.W.cellsFrom_some _ _ _ (.inl q)⟩
 refine codeAny_call_function hr.depth (KX _ _ lk) rfl S.co S.gen rfl (PySem.W.codeRec_of KX hcd) (hb _ _ _ _ ?_);refine wpAny_newFunctionEnv_cells S.kind hkind λenv he s1 x=>?_
 subst he;refine⟨lim.keeps x.toInCall.keep,codeAny_func ?_⟩;obtain⟨t,ht,hq⟩:=hbody A outer s H vs Q E (hr.deeper _) hsp;have I:Inv (bI CX P w K mg base N qual scope f cdv A outer s H E) [] (start N vs) H s1:=S2 S hr.hd e0 hl r x;refine di (ht [] s1 (start N vs) H _ I hq) (λfl s' hs=>?_) λe s' hs=>hs
 have fin:∀{σ':St}{H':Hp}{v:V}{u:Value},Inv (bI CX P w K mg base N qual scope f cdv A outer s H E) [] σ' H' s'->RelV v u->Q v H'->CE outer P w H s Q u s':=
  λ{σ' H' v u} J rv q=>⟨v,H',J.os,J.bare,J.base,J.hok,rv,q⟩
 cases fl with
 |ret u=>obtain⟨v,σ',H',J,rv,q⟩:=hs;exact fin J rv q
 |next=>obtain⟨σ',H',J,q⟩:=hs;exact fin (v:=V.aw) (u:=Value.none) J rfl q
 |brk=>obtain⟨_,_,_,q⟩:=hs;exact False.elim q
 |cont=>obtain⟨_,_,_,q⟩:=hs;exact False.elim q
section
variable{X:Cx}{x:Str}{p pos:Pos}{e:Expr}{es:List Expr}{t:TA}{id T:String}{r:List V->Hp->VK->Prop}
def G4(r:List V->Hp->VK->Prop)(t:TA):TE:=λσ H Q=>t σ H λvs H1=>r vs H1 Q
theorem b8(hc:ij X (.builtin id) r)(hg:Gl X x)(hm:X.mg x=none)(hv:bootBuiltins x=some (.builtin id))(ha:PA X (e::es) t)(hn:x≠ "__name__":=by decide)(hdb:(x==("__debug__" :Str))=false:=by decide) (he:starEach (e::es) X.env=(false,eval e X.env)::starEach es X.env:=by rfl)(hpl:(backTo pos (starEach es X.env)).any (·.1)=false:=by rfl):PE X (.Call (.Name x p) (e::es) [] pos) (G4 r t):=by
 intro pins s σ H Q I h;refine qx (qP I hg hm hv ?_ hn hdb);exact PyProof.Rows.callWith_builtin1 (aG (ha pos pins s σ H _ I h) λus s1 ⟨vs,H1,I1,r1,q1⟩=>hc pins s1 σ H1 vs us Q I1 r1 q1) he hpl
theorem lW(hc:ij X (.type T) r)(hg:Gl X x)(hm:X.mg x=none)(hv:bootBuiltins x=some (.type T))(ha:PA X (e::es) t)(hn:x≠ "__name__":=by decide)(hdb:(x==("__debug__" :Str))=false:=by decide) (he:starEach (e::es) X.env=(false,eval e X.env)::starEach es X.env:=by rfl)(hpl:(backTo pos (starEach es X.env)).any (·.1)=false:=by rfl):PE X (.Call (.Name x p) (e::es) [] pos) (G4 r t):=by
 intro pins s σ H Q I h;refine qx (qP I hg hm hv ?_ hn hdb);exact zA (aG (ha pos pins s σ H _ I h) λus s1 ⟨vs,H1,I1,r1,q1⟩=>hc pins s1 σ H1 vs us Q I1 r1 q1) he hpl
end
end L2
namespace HT
open PySem PyProof.Rows
section
variable{prog:Program}{w:World}{A:Around}{E:ρ}{s:Shared}
def ba(n d:Nat):Option Int->Nat
 |none=>d
 |some v=>if v<0 then (v+(n:Int)).toNat else min v.toNat n
theorem S3(n d:Nat):ba n d none=d:=rfl
theorem S4(n d k:Nat):ba n d (some (k:Int))=min k n:=by show(if (k:Int)<0 then ((k:Int)+(n:Int)).toNat else min (k:Int).toNat n)=min k n;rw[af (by omega),vP]
theorem S5(n d:Nat)(hd:d<=n)(o:Option Int):ba n d o<=n:=by
 cases o with
 |none=>exact hd
 |some v=>
  show(if v<0 then (v+(n:Int)).toNat else min v.toNat n)<=n;by_cases hv:v<0
  ·rw[ah hv];omega
  ·rw[af hv];exact Nat.min_le_right _ _
theorem G5(v:Int)(n d:Nat):(if v<0 then max (v+(n:Int)) 0 else min v (n:Int))=((ba n d (some v):Nat):Int):=by
 show(if v<0 then max (v+(n:Int)) 0 else min v (n:Int))=(((if v<0 then (v+(n:Int)).toNat else min v.toNat n):Nat):Int);by_cases hv:v<0
 ·simp only[ah hv];omega
 ·simp only[af hv];omega
theorem S6(lo hi:Option Int)(n:Nat):Builtin.Slice.sliceAdjust lo hi 1 (n:Int)=(((ba n 0 lo:Nat):Int),((ba n n hi:Nat):Int)):=by
 have h1:¬((1:Int)<0):=by omega
 unfold Builtin.Slice.sliceAdjust;simp only[h1,kf];refine Prod.ext ?_ ?_
 ·cases lo with
  |none=>rfl
  |some v=>exact G5 v n 0
 ·cases hi with
  |none=>rfl
  |some v=>exact G5 v n n
theorem S7(i j:Nat):Builtin.Slice.slicePlaces (i:Int) (j:Int) 1=j-i:=by
 unfold Builtin.Slice.slicePlaces;have h1:(1:Int)>0:=by omega
 simp only[h1,sH,Int.ediv_one];split<;>omega
theorem G6{v:Value}{o:Option Int}{Q:Option Int->Shared->Prop}(p:IsPart v o)(h:Q o s):wpAny (model prog w) A (Builtin.Slice.slicePartIndex v) Q E s:=by
 cases p with
 |none=>exact slicePart_none h
 |int i t=>exact slicePart_int h
theorem S8{sl:Addr}{vl vu:Value}{lo hi:Option Int}{n:Nat}{Q:Int×Int×Nat->Shared->Prop}(hs:s.heap.IsSliceOf sl vl vu .none)(pl:IsPart vl lo)(pu:IsPart vu hi) (h:Q (((ba n 0 lo:Nat):Int),1,ba n n hi-ba n 0 lo) s):wpAny (model prog w) A (Builtin.Slice.sliceApplied (.ref sl) (pure (n:Int))) Q E s:=by
 obtain⟨os,hos,hcs,hds⟩:=id hs;unfold Builtin.Slice.sliceApplied Builtin.Slice.sliceFields;refine ai (ai (qz hos hds (x:=vl) rfl (ai (qz hos hds (x:=vu) rfl (ai (qz hos hds (x:=.none) rfl (aB ?_)))))));refine ai (slicePart_none ?_);show wpAny _ _ (if ((1:Int)==0)=true then _ else _) _ _ s;rw[af (by decide)];refine ai (G6 pl (ai (G6 pu (ai (aB ?_)))));show wpAny _ _ (match Builtin.Slice.sliceAdjust lo hi 1 (n:Int)with |(lo,hi)=>pure (lo,(1:Int),Builtin.Slice.slicePlaces lo hi 1)) _ _ s;rw[S6 lo hi n];show wpAny _ _ (pure (((ba n 0 lo:Nat):Int),(1:Int),Builtin.Slice.slicePlaces ((ba n 0 lo:Nat):Int) ((ba n n hi:Nat):Int) 1)) _ _ s;rw[S7];exact aB h
theorem S9(xs:Array Value)(i k:Nat):((List.range k).filterMap λ(m:Nat)=>xs[((i:Int)+(m:Int)*1).toNat]?).toArray=((xs.toList.drop i).take k).toArray:=by
 have e:(λ(m:Nat)=>xs[((i:Int)+(m:Int)*1).toNat]?)=λm=>xs[i+m]? :=by
  funext m;have:((i:Int)+(m:Int)*1).toNat=i+m:=by omega
  rw[this]
 rw[e];have:=pick_run xs i k;rw[List.filterMap_map]at this;have e2:((λx=>xs[x]?)∘λx=>i+x)=λm=>xs[i+m]? :=rfl
 rw[e2]at this;rw[this]
theorem S_{t sl:Addr}{items:Array Value}{vl vu:Value}{lo hi:Option Int}{Q:ρ}(ht:IsTup s.heap t items)(hs:s.heap.IsSliceOf sl vl vu .none)(pl:IsPart vl lo)(pu:IsPart vu hi) (hw:¬(ba items.size 0 lo=0/\ba items.size items.size hi=items.size)) (h:Q (.ref s.heap.objs.size) {s with heap:=s.heap.push {cls:=.type "tuple",data:=.seq ((items.toList.drop (ba items.size 0 lo)).take (ba items.size items.size hi-ba items.size 0 lo)).toArray}}) (hsz:items.size<=sizeLine):wpAny (model prog w) A (getItem (.ref t) (.ref sl)) Q E s:=by
 have wN:sizeOk (.seq ((items.toList.drop (ba items.size 0 lo)).take (ba items.size items.size hi-ba items.size 0 lo)).toArray):=by show((items.toList.drop (ba items.size 0 lo)).take (ba items.size items.size hi-ba items.size 0 lo)).toArray.size<=sizeLine;rw[cj,vO,zB,gI];omega
 have hj:ba items.size items.size hi<=items.size:=S5 _ _ (aJ _) hi;obtain⟨os,hos,hcs,hds⟩:=id hs;have hTs:s.TypeIs (.ref sl) "slice":=⟨os,hos,hcs⟩;unfold getItem
 try with_reducible refine jn ?_
 first |refine ai (aB ?_) |skip
 refine ai (wpAny_sequenceKey ht.typeIs (by decide) ?_);refine ai (vQ (name:=Str.ofString "__getitem__") ht.typeIs Ra (n9 Ra ht.typeIs entry_tuple_getitem ?_ (args_tuple_getitem _ _)))
 show wpAny _ _ (Builtin.Tuple.tupleItemsOf (.ref t)>>=_) _ _ s;refine ai (tupleItemsOf_ ht ?_);refine ai (vR hTs ?_);rw[ah (by decide)];refine ai (S8 hs pl pu ?_);have hno:¬((((ba items.size 0 lo:Nat):Int)==0&&(1:Int)==1&&(ba items.size items.size hi-ba items.size 0 lo)==items.size)=true):=by intro q;rw[fM,fM]at q;have q1:((ba items.size 0 lo:Nat):Int)=0:=eq_of_beq q.1.1;have q2:ba items.size items.size hi-ba items.size 0 lo=items.size:=eq_of_beq q.2;exact hw ⟨by omega,by omega⟩
 show wpAny _ _ (if (((ba items.size 0 lo:Nat):Int)==0&&(1:Int)==1&&(ba items.size items.size hi-ba items.size 0 lo)==items.size)=true then _ else _) _ _ s;rw[af hno,S9]
 first
  |exact ai (m:=Builtin.Tuple.tupleExact _) (jo (aB ⟨_,rfl,aB h⟩) wN)
  |exact ai (m:=Builtin.Tuple.tupleExact _) (jo (ai (aB (aB ⟨_,rfl,aB h⟩))) wN)
  |exact ai (ai (m:=Builtin.Tuple.tupleExact _) (jo (aB (aB ⟨_,rfl,aB h⟩)) wN))
  |exact ai (ai (m:=Builtin.Tuple.tupleExact _) (jo (aB ⟨_,rfl,aB h⟩) wN))
end
end HT
namespace L2
open PySem PySem.Spec PyProof.Rows
abbrev TO:=St->Hp->(Option Int->Hp->Prop)->Prop
def PO(X:Cx)(e:Option Expr)(t:TO):Prop:=∀(pins:η)(s:Shared)(σ:St)(H:Hp)(Q:Option Int->Hp->Prop),Inv X pins σ H s->t σ H Q->wpAny (model X.prog X.w) X.A (evalPart e X.env) (λu s'=>∃o H',Inv X pins σ H' s'/\IsPart u o/\Q o H') X.xe s
def Ta:TO:=λ_ H Q=>Q none H
inductive G7(Q:(Option Int->Hp->Prop))(x:V)(H1:Hp):Prop
 |mk i:x=.int i->Q (some i) H1->G7 Q x H1
def Tb(t:TE):TO:=λσ H Q=>t σ H λx H1=>G7 Q x H1
section
variable{X:Cx}{e:Expr}{te:TE}{lo hi:Option Expr}{tl th:TO}{pos p2:Pos}
theorem G8:PO X none Ta:=by intro pins s σ H Q I h;rw[evalPart_none];exact aB ⟨none,H,I,.none,h⟩
theorem G9(h:PE X e te):PO X (some e) (Tb te):=by
 intro pins s σ H Q I hw;rw[evalPart_some];refine aG (h pins s σ H _ I hw) λu s1 ⟨x,H1,I1,r1,q1⟩=>?_
 obtain⟨i,rfl,q⟩:=q1;obtain⟨t,rfl⟩:=r1;exact⟨some i,H1,I1,.int i t,q⟩
def An(X:Cx)(r:V->Option Int->Option Int->Hp->VK->Prop):Prop:=∀(pins:η)(s:Shared)(σ:St)(H:Hp)(x:V)(v vl vu:Value)(lo hi:Option Int)(sl:Addr)(Q:VK),Inv X pins σ H s->RelV x v->s.heap.IsSliceOf sl vl vu .none->IsPart vl lo->IsPart vu hi->r x lo hi H Q->∃T id,typeLookup (.type T) "__getitem__"=pure (some (.builtin id))/\s.TypeIs v T/\wpAny (model X.prog X.w) X.A (getItem v (.ref sl)) (EP X pins σ Q) X.xe s
def Tc(r:V->Option Int->Option Int->Hp->VK->Prop)(te:TE)(tl th:TO):TE:=λσ H Q=>te σ H λx H1=>tl σ H1 λl H2=>th σ H2 λu H3=>r x l u H3 Q
theorem G_{r:V->Option Int->Option Int->Hp->VK->Prop}(hr:An X r)(he:PE X e te)(hl:PO X lo tl)(hu:PO X hi th):PE X (.Subscript e (.Slice lo hi none p2) pos) (Tc r te tl th):=by
 intro pins s σ H Q I h;refine Subscript_ (aG (he pins s σ H _ I h) λv s1 ⟨x,H1,I1,r1,q1⟩=>?_);refine wpAny_Slice (aG (hl pins s1 σ H1 _ I1 q1) λvl s2 ⟨l,H2,I2,pl,q2⟩=>aG (hu pins s2 σ H2 _ I2 q2) λvu s3 ⟨u,H3,I3,pu,q3⟩=>?_);rw[evalPart_none];refine aB ?_;have I4:Inv X pins σ H3 {s3 with heap:=s3.heap.push {cls:=.type "slice",data:=.fields #[vl,vu,.none]}}:=I3.kept (t':=s3.toks) λb ob q=>bu _ q
 obtain⟨T,id,hT,ht,hg⟩:=hr pins {s3 with heap:=s3.heap.push {cls:=.type "slice",data:=.fields #[vl,vu,.none]}} σ H3 x v vl vu l u s3.heap.objs.size Q I4 r1 (Heap.IsSliceOf.new ..) pl pu q3;show wpAny (model X.prog X.w) X.A (subscriptTail e (.Slice lo hi none p2) v (.ref s3.heap.objs.size)) (EP X pins σ Q) X.xe {s3 with heap:=s3.heap.push {cls:=.type "slice",data:=.fields #[vl,vu,.none]}};exact tail_any (ops:=[.ref s3.heap.objs.size,v]) ht hT hg (by with_unfolding_all rfl)
def iZ(xs:ε)(lo hi:Option Int):List V:=(xs.drop (HT.ba xs.length 0 lo)).take (HT.ba xs.length xs.length hi-HT.ba xs.length 0 lo)
theorem Hc(xs:ε)(lo hi:Option Int):(iZ xs lo hi).length<=xs.length:=by unfold iZ;rw[vO,zB];omega
inductive Hd(K:ax)(x:V)(lo:Option Int)(hi:Option Int)(H:Hp)(Q:VK):Prop
 |mk a xs:x=.ref a->aV K H a xs->¬(HT.ba xs.length 0 lo=0/\HT.ba xs.length xs.length hi=xs.length)->(∀p,H p=none->Q (.ref p) (upd H p (.tup (iZ xs lo hi))))->Hd K x lo hi H Q
theorem Td:An X (Hd X.K):=by
 intro pins s σ H x v vl vu lo hi sl Q I rx hs pl pu h;obtain⟨a,xs,rfl,hx,hw,q⟩:=h;cases rx;obtain⟨its,r,ht,hz⟩:=I.tuple hx;have hlen:its.toArray.size=xs.length:=by rw[cj];exact r.length.symm
 refine⟨"tuple",_,Ra.lookup,ht.typeIs,?_⟩;refine HT.S_ ht hs pl pu (by rw[hlen];exact hw) ?_ (by rw[hlen];exact hz);rw[hlen];refine⟨.ref s.heap.objs.size,_,I.laid (t':=s.toks) (o:=.tup (iZ xs lo hi)) (λb ob q=>bu _ q) (aJ _) ?_,rfl,q _ (I.hok.fresh (aJ _))⟩;exact⟨bE (Hc xs lo hi) hz,_,(r.drop (HT.ba xs.length 0 lo)).take (HT.ba xs.length xs.length hi-HT.ba xs.length 0 lo),IsTup.new _ _⟩
end
def iu(n:Nat)(i:Int):Option Nat:=if 0<=i then (if i<n then some i.toNat else none)else if-(n:Int)<=i then some (i+n).toNat else none
def oK{α:Type}(xs:List α)(i:Int):Option α:=(iu xs.length i).bind λj=>xs[j]?
theorem He{n:Nat}{i:Int}{j:Nat}(h:iu n i=some j):seqIndex? i n=some j/\j<n/\ -(n:Int)<=i/\i<n:=by
 unfold iu at h;by_cases h0:0<=i
 ·rw[ah h0]at h;by_cases h1:i<n
  ·rw[ah h1]at h;have e:i.toNat=j:=b_ h;exact⟨by rw[seqIndex_of h0 h1,e],by omega,by omega,h1⟩
  ·rw[af h1]at h;cases h
 ·rw[af h0]at h;by_cases h1: -(n:Int)<=i
  ·rw[ah h1]at h;have e:(i+n).toNat=j:=b_ h;exact⟨by rw[seqIndex_neg (by omega) h1,e],by omega,h1,by omega⟩
  ·rw[af h1]at h;cases h
theorem Hf{α:Type}{xs:List α}{i:Int}{v:α}(h:oK xs i=some v):∃j,seqIndex? i xs.length=some j/\xs[j]? =some v/\j<xs.length/\ -(xs.length:Int)<=i/\i<xs.length:=by
 unfold oK at h;cases e:iu xs.length i with
 |none=>rw[e]at h;cases h
 |some j=>rw[e]at h;obtain⟨h1,h2,h3,h4⟩:=He e;exact⟨j,h1,h,h2,h3,h4⟩
theorem aY{α:Type}{xs:List α}{j:Nat}{v:α}(h:xs[j]? =some v):oK xs (j:Int)=some v:=by
 have hj:j<xs.length:=(bN.mp h).1;have e:iu xs.length (j:Int)=some j:=by unfold iu;rw[ah (by omega),ah (by omega)];simp
 unfold oK;rw[e];exact h
def Te(b:Expr):Prop:=∀o i,subscripted b false o i=operate [o,i] (getItem o i)
def Ao(X:Cx)(r:R2):Prop:=∀(value slice:Expr)(pins:η)(s:Shared)(σ:St)(H:Hp)(x y:V)(v u:Value)(Q:VK),Inv X pins σ H s->RelV x v->RelV y u->r x y H Q->subscripted slice false v u=operate [v,u] (getItem v u)->wpAny (model X.prog X.w) X.A (subscriptTail value slice v u) (EP X pins σ Q) X.xe s
def Ap(X:Cx)(id:String)(r:V->List V->Hp->VK->Prop):Prop:=∀(pins:η)(s:Shared)(σ:St)(H:Hp)(x:V)(xs:ε)(v:Value)(us:ω)(Q:VK),Inv X pins σ H s->RelV x v->Vals xs us->r x xs H Q->wpAny (model X.prog X.w) X.A (call (.builtin id) (v::us)) (EP X pins σ Q) X.xe s
section
variable{X:Cx}{a b:Expr}{ta tb:TE}{pos:Pos}
theorem aU{r:R2}(hr:Ao X r)(ha:PE X a ta)(hb:PE X b tb)(hs:Te b:=by exact λ_ _=>rfl):PE X (.Subscript a b pos) (gQ r ta tb):=by intro pins s σ H Q I h;exact Subscript_ (Ac ha hb I h λv u s2 x y H2 I2 rx ry q=>hr a b pins s2 σ H2 x y v u Q I2 rx ry q (hs _ _))
inductive oM(K:ax)(x:V)(y:V)(H:Hp)(Q:VK):Prop
 |mk p xs i v:x=.ref p->y=.int i->aj K H p xs->oK xs i=some v->Q v H->oM K x y H Q
inductive Aq(K:ax)(x:V)(y:V)(H:Hp)(Q:VK):Prop
 |mk p xs i v:x=.ref p->y=.int i->aV K H p xs->oK xs i=some v->Q v H->Aq K x y H Q
theorem bc:Ao X (oM X.K):=by
 intro value slice pins s σ H x y v u Q I rx ry h hs;obtain⟨p,xs,i,z,rfl,rfl,hq,he,q⟩:=h;cases rx;obtain⟨t,rfl⟩:=ry;obtain⟨its,r,pl,hz⟩:=I.list hq;obtain⟨j,h1,h2,h3,h4,h5⟩:=Hf he;obtain⟨w,ew,rw'⟩:=r.get h2;have hl:=r.length;have hn:=wJ;have fin:EP X pins σ Q w s:=⟨z,H,I,rw',q⟩;by_cases h0:0<=i
 ·have hj:i.toNat=j:=by
   rw[seqIndex_of h0 h5]at h1;exact b_ h1
  exact item_listR pl.isList h0 (by omega) (by rw[hj];simpa using ew) fin hs
 ·have hj:(i+(its.toArray.size:Int)).toNat=j:=by
   rw[seqIndex_neg (by omega) h4]at h1;rw[cj,<-hl];exact b_ h1
  exact subscriptTail_builtinR (x:=w) pl.isList.typeIs slot_list_getitem.lookup (wpAny_getItem_list_neg (Q:=λr s'=>r=w/\EP X pins σ Q r s') pl.isList (by omega) (by rw[cj]<;>omega) (by omega) (by rw[hj];simpa using ew) ⟨rfl,fin⟩) hs
theorem gR:Ao X (Aq X.K):=by
 intro value slice pins s σ H x y v u Q I rx ry h hs;obtain⟨p,xs,i,z,rfl,rfl,hq,he,q⟩:=h;cases rx;obtain⟨t,rfl⟩:=ry;obtain⟨its,r,pl,hz⟩:=I.tuple hq;obtain⟨j,h1,h2,h3,h4,h5⟩:=Hf he;obtain⟨w,ew,rw'⟩:=r.get h2;have hl:=r.length;have hn:=wJ;have fin:EP X pins σ Q w s:=⟨z,H,I,rw',q⟩;exact subscriptTail_builtinR (x:=w) pl.typeIs slot_tuple_getitem.lookup
  (getItem_tuple (j:=j) (Q:=λr s'=>r=w/\EP X pins σ Q r s') pl (by omega) (by omega) (by rw[cj,<-hl];exact h1) (by simpa using ew) ⟨rfl,fin⟩) hs
theorem Tf(its:ω)(n j:Nat)(u:Value):Obj.mapSeq (·.setIfInBounds j u) {cls:=.type "list",data:=.seq its.toArray n}= {cls:=.type "list",data:=.seq (its.set j u).toArray n}:=by simp[Obj.mapSeq]
theorem Inv.lst{pins:η}{σ:St}{H:Hp}{s:Shared}{p:Addr}{xs:ε}(I:Inv X pins σ H s)(h:H p=some (.lst xs)):∃(its:ω)(n:Nat),Vals xs its/\s.heap.get? p=some {cls:=.type "list",data:=.seq its.toArray n}/\xs.length<=sizeLine:=by
 obtain⟨z,its,n,r,e⟩:=I.hok p _ h;exact⟨its,n,r,e,z⟩
theorem Inv.Tg{pins:η}{σ:St}{H:Hp}{s:Shared}{p:Addr}{xs ys:ε}{its its':ω}{n n':Nat}{f:Obj->Obj}(I:Inv X pins σ H s)(h:H p=some (.lst xs)) (ho:s.heap.get? p=some {cls:=.type "list",data:=.seq its.toArray n})(hf:f {cls:=.type "list",data:=.seq its.toArray n}= {cls:=.type "list",data:=.seq its'.toArray n'})(r:Vals ys its')(hz:ys.length<=sizeLine)(t:Nat):Inv X pins σ (upd H p (.lst ys)) {s with heap:=s.heap.update p f,toks:=t}:=by
 have e:(s.heap.update p f).get? p=some {cls:=.type "list",data:=.seq its'.toArray n'}:=by rw[n_ f ho (by rw[hf]<;>rfl),hf]
 refine I.write (x:=p) (e:=p) (by rw[h];trivial) (.inl rfl) (λb u hb q=>(iL _ _ (cq hb)).trans q) ⟨_,e⟩ ?_;exact⟨hz,its',n',r,e⟩
inductive Hg(o:V)(i:V)(v:V)(H:Hp)(Q:(Hp->Prop)):Prop
 |mk p xs k j:o=.ref p->i=.int k->H p=some (.lst xs)->iu xs.length k=some j->Q (upd H p (.lst (xs.set j v)))->Hg o i v H Q
theorem qu:Gh X Hg:=by
 intro pins s σ H o i v ov iv u Q I ro ri rv h;obtain⟨p,xs,k,j,rfl,rfl,hp,hj,q⟩:=h;cases ro;obtain⟨t,rfl⟩:=ri;obtain⟨its,n,r,ho,hz⟩:=I.lst hp;obtain⟨h1,h2,h3,h4⟩:=He hj;have hl:=r.length;have hn:=wJ;have I':Inv X pins σ (upd H p (.lst (xs.set j v))) {s with heap:=s.heap.update p (Obj.mapSeq (·.setIfInBounds j u))}:=
  I.Tg hp ho (Tf its n j u) (r.set rv j) (by rw[gk];exact hz) s.toks
 by_cases h0:0<=k
 ·have hk:k.toNat=j:=by
   rw[seqIndex_of h0 h4]at h1;exact b_ h1
  exact PySem.W.ki_setAt ho h0 (by omega) (by rw[cj,<-hl];exact h4) (by rw[hk];exact⟨_,I',q⟩)
 ·have hk:(k+(its.toArray.size:Int)).toNat=j:=by
   rw[seqIndex_neg (by omega) h3]at h1;rw[cj,<-hl];exact b_ h1
  exact PySem.W.ki_setBack ho (by omega) (by rw[cj,<-hl];exact h3) (by omega) (by rw[hk];exact⟨_,I',q⟩)
theorem Th(lo hi:Option Int)(n:Nat):(sliceBounds lo hi none n).1=((HT.ba n 0 lo:Nat):Int)/\(sliceBounds lo hi none n).2.1=((HT.ba n n hi:Nat):Int)/\(sliceBounds lo hi none n).2.2=1:=by
 refine⟨?_,?_,rfl⟩
 ·cases lo with
  |none=>simp[sliceBounds,HT.ba]
  |some i=>
   simp only[sliceBounds,HT.ba,Option.getD_none,show(1:Int)>0 by decide,sH];by_cases h:i<0
   ·simp only[h,sH]<;>omega
   ·simp only[h,kf]<;>omega
 ·cases hi with
  |none=>simp[sliceBounds,HT.ba]
  |some i=>
   simp only[sliceBounds,HT.ba,Option.getD_none,show(1:Int)>0 by decide,sH];by_cases h:i<0
   ·simp only[h,sH]<;>omega
   ·simp only[h,kf]<;>omega
theorem Ti(its:ω)(lo hi:Option Int):slicePick its.toArray lo hi none=((its.drop (HT.ba its.length 0 lo)).take (HT.ba its.length its.length hi-HT.ba its.length 0 lo)).toArray:=by obtain⟨h1,h2,h3⟩:=Th lo hi its.toArray.size;unfold slicePick;rw[h1,h2,h3];simp only[sliceRange_one,pick_run,cj]<;>rfl
inductive Hi(K:ax)(x:V)(lo:Option Int)(hi:Option Int)(H:Hp)(Q:VK):Prop
 |mk a xs:x=.ref a->aj K H a xs->(∀p,H p=none->Q (.ref p) (upd H p (.lst (iZ xs lo hi))))->Hi K x lo hi H Q
theorem Tj:An X (Hi X.K):=by intro pins s σ H x v vl vu lo hi sl Q I rx hs pl pu h;obtain⟨a,xs,rfl,hx,q⟩:=h;cases rx;obtain⟨its,r,ht,hz⟩:=I.list hx;have hlen:=r.length;refine⟨"list",_,slot_list_getitem.lookup,ht.isList.typeIs,?_⟩;refine wpAny_getItem_list_slice ht.isList hs pl pu .none (by simp) ?_ (by rw[cj]<;>omega);rw[Ti,<-hlen];refine⟨.ref s.heap.objs.size,_,I.laid (t':=s.toks) (o:=.lst (iZ xs lo hi)) (λb ob q=>bu _ q) (aJ _) ?_,rfl,q _ (I.hok.fresh (aJ _))⟩;exact⟨bE (Hc xs lo hi) hz,_,0,(r.drop (HT.ba xs.length 0 lo)).take (HT.ba xs.length xs.length hi-HT.ba xs.length 0 lo),cw _ rfl⟩
def i5:V->Bool
 | .aw=>true
 | .bl _=>true
 | .int _=>true
 | .str _=>true
 |_=>false
def lX:V->V->Bool
 | .aw,.aw=>true
 | .bl a,.bl b=>a==b
 | .bl a,.int b=>(if a then 1 else 0)==b
 | .int a,.bl b=>a==(if b then 1 else 0)
 | .int a,.int b=>a==b
 | .str a,.str b=>a==b
 |_,_=>false
theorem Tn{A:Around}{s:Shared}{y x:V}{u v:Value}(ry:RelV y u)(rx:RelV x v)(fy:i5 y=true)(fx:i5 x=true):SeqAt.EqAt A s u v (lX y x):=by
 cases y with
 |aw=>
  cases ry;cases x with
  |aw=>cases rx;exact SeqAt.EqAt.same _
  |bl b=>cases rx;exact SeqAt.EqAt.none_bool b
  |int b=>obtain⟨t,rfl⟩:=rx;exact SeqAt.EqAt.none_int b t
  |str b=>obtain⟨t,rfl⟩:=rx;exact SeqAt.EqAt.none_str b t
  |_=>exact absurd (show false=true from fx) cM
 |bl a=>
  cases ry;cases x with
  |aw=>cases rx;exact SeqAt.EqAt.bool_none a
  |bl b=>cases rx;exact SeqAt.EqAt.bool_bool a b
  |int b=>obtain⟨t,rfl⟩:=rx;exact SeqAt.EqAt.bool_int a b t
  |str b=>obtain⟨t,rfl⟩:=rx;exact SeqAt.EqAt.bool_str a b t
  |_=>exact absurd (show false=true from fx) cM
 |int a=>
  obtain⟨t',rfl⟩:=ry;cases x with
  |aw=>cases rx;exact SeqAt.EqAt.int_none a t'
  |bl b=>cases rx;exact SeqAt.EqAt.int_bool a t' b
  |int b=>obtain⟨t,rfl⟩:=rx;exact SeqAt.EqAt.int_int a t' b t
  |str b=>obtain⟨t,rfl⟩:=rx;exact SeqAt.EqAt.int_str a t' b t
  |_=>exact absurd (show false=true from fx) cM
 |str a=>
  obtain⟨t',rfl⟩:=ry;cases x with
  |aw=>cases rx;exact SeqAt.EqAt.str_none a t'
  |bl b=>cases rx;exact SeqAt.EqAt.str_bool a t' b
  |int b=>obtain⟨t,rfl⟩:=rx;exact SeqAt.EqAt.str_int a t' b t
  |str b=>obtain⟨t,rfl⟩:=rx;exact SeqAt.EqAt.str_str a t' b t
  |_=>exact absurd (show false=true from fx) cM
 |_=>exact absurd (show false=true from fy) cM
def gT(x:V)(u:Value):Bool:=match u with
 | .none=>lX .aw x
 | .bool b=>lX (.bl b) x
 | .int i _=>lX (.int i) x
 | .str z _=>lX (.str z) x
 |_=>false
theorem Hj{x y:V}{u:Value}(r:RelV y u)(f:i5 y=true):gT x u=lX y x:=by
 cases y with
 |aw=>cases r;rfl
 |bl b=>cases r;rfl
 |int i=>obtain⟨t,rfl⟩:=r;rfl
 |str z=>obtain⟨t,rfl⟩:=r;rfl
 |_=>exact absurd (show false=true from f) cM
theorem tw{x:V}:∀{xs:ε}{us:ω},Vals xs us->xs.all i5=true->us.any (gT x)=xs.any λy=>lX y x
 |_,_,.nil,_=>rfl
 |y::xs,u::us,.cons r t,f=>by rw[Fx,fM]at f;rw[sI,sI,Hj r f.1,tw t f.2]
theorem tD{A:Around}{s:Shared}{x:V}{v:Value}(rx:RelV x v)(fx:i5 x=true):∀{xs:ε}{us:ω},Vals xs us->xs.all i5=true->∀u∈us,SeqAt.EqAt A s u v (gT x u)
 |_,_,.nil,_=>λu hu=>by cases hu
 |y::xs,u::us,.cons r t,f=>λu' hu=>by
  rw[Fx,fM]at f;rcases aX.mp hu with rfl |hu
  ·rw[Hj r f.1];exact Tn r rx f.1 fx
  ·exact tD rx fx t f.2 u' hu
def inV(x:V)(xs:ε):Bool:=xs.any λy=>lX y x
inductive tE(K:ax)(neg:Bool)(x:V)(y:V)(H:Hp)(Q:VK):Prop
 |mk p xs:y=.ref p->((aj K H p xs\/aV K H p xs))->i5 x=true->xs.all i5=true->(Q (.bl (if neg then !inV x xs else inV x xs)) H)->tE K neg x y H Q
theorem Ar:b6 X (compareOp .In) (tE X.K false):=by
 intro pins s σ H x y v u Q I rx ry h;obtain⟨p,xs,rfl,hq,fx,fs,q⟩:=h;cases ry;rcases hq with hq |hq
 ·obtain⟨its,r,pl,hz⟩:=I.list hq;refine SeqAt.in_listAt (gT x) pl.isList (λw hw=>tD rx fx r fs w (by simpa using hw)) ⟨.bl _,H,I,rfl,?_⟩;rw[show its.toArray.any (gT x)=its.any (gT x) by simp,tw r fs];exact q
 ·obtain⟨its,r,pl,hz⟩:=I.tuple hq;refine SeqAt.in_tupleAt (gT x) pl (λw hw=>tD rx fx r fs w (by simpa using hw)) ⟨.bl _,H,I,rfl,?_⟩;rw[show its.toArray.any (gT x)=its.any (gT x) by simp,tw r fs];exact q
theorem Hk:b6 X (compareOp .NotIn) (tE X.K true):=by
 intro pins s σ H x y v u Q I rx ry h;obtain⟨p,xs,rfl,hq,fx,fs,q⟩:=h;cases ry;rcases hq with hq |hq
 ·obtain⟨its,r,pl,hz⟩:=I.list hq;refine SeqAt.notIn_listAt (gT x) pl.isList (λw hw=>tD rx fx r fs w (by simpa using hw)) ⟨.bl _,H,I,rfl,?_⟩;rw[show its.toArray.any (gT x)=its.any (gT x) by simp,tw r fs];exact q
 ·obtain⟨its,r,pl,hz⟩:=I.tuple hq;refine SeqAt.notIn_tupleAt (gT x) pl (λw hw=>tD rx fx r fs w (by simpa using hw)) ⟨.bl _,H,I,rfl,?_⟩;rw[show its.toArray.any (gT x)=its.any (gT x) by simp,tw r fs];exact q
theorem c_:ij X (.builtin "len") (λxs H Q=>∃p ys,xs=[.ref p]/\(aj X.K H p ys\/aV X.K H p ys)/\Q (.int ys.length) H):=by
 intro pins s σ H xs us Q I r h;obtain⟨p,ys,rfl,hq,q⟩:=h;obtain⟨u,rfl,rx⟩:=vals1 r;cases rx;have hn:=wJ;rcases hq with hq |hq
 ·obtain⟨its,r',pl,hz⟩:=I.list hq;have hlen:=r'.length;exact Calls.call_len_list pl.isList (by simp only[cj]<;>omega) ⟨.int ys.length,H,I.tok _,⟨s.toks+1,by rw[cj,hlen]⟩,q⟩
 ·obtain⟨its,r',pl,hz⟩:=I.tuple hq;have hlen:=r'.length;exact len_tuple pl (by simp only[cj]<;>omega) ⟨.int ys.length,H,I.tok _,⟨s.toks+1,by rw[cj,hlen]⟩,q⟩
theorem Hl:ij X (.type "list") (λxs H Q=>∃p ys,xs=[.ref p]/\(aj X.K H p ys\/aV X.K H p ys)/\∀l,H l=none->Q (.ref l) (upd H l (.lst ys))):=by
 intro pins s σ H xs us Q I r h;obtain⟨p,ys,rfl,hq,q⟩:=h;obtain⟨u,rfl,rx⟩:=vals1 r;cases rx;have fin:∀(its:ω),Vals ys its->ys.length<=sizeLine->∀(h':Heap)(c':Nat),(∀b o',s.heap.get? b=some o'->h'.get? b=some o')->
   h'.get? s.heap.objs.size=some {cls:=.type "list",dict:=none,data:=.seq its.toArray c',slots:= #[]}->EP X pins σ Q (.ref s.heap.objs.size) {s with heap:=h'}:=λits r' hz h' c' kp e=>
  ⟨.ref s.heap.objs.size,_,I.laid (t':=s.toks) kp (aJ _) (show ck X.prog X.w _ h' _ (.lst ys) from ⟨hz,its,c',r',e⟩),rfl,q _ (I.hok.fresh (aJ _))⟩
 rcases hq with hq |hq
 ·obtain⟨its,r',pl,hz⟩:=I.list hq;have hlen:=r'.length;obtain⟨o,ho,hc,n,hd⟩:=pl.isList;exact call_list_seq p (.inl rfl) ho hc hd (λh' c' kp e=>fin its r' hz h' c' kp e) (by simp only[cj]<;>omega)
 ·obtain⟨its,r',pl,hz⟩:=I.tuple hq;have hlen:=r'.length;obtain⟨o,ho,hc,n,hd⟩:=pl;exact call_list_seq p (.inr rfl) ho hc hd (λh' c' kp e=>fin its r' hz h' c' kp e) (by simp only[cj]<;>omega)
theorem As:ij X (.type "tuple") (λxs H Q=>∃p ys,xs=[.ref p]/\((aj X.K H p ys/\∀l,H l=none->Q (.ref l) (upd H l (.tup ys)))\/(aV X.K H p ys/\Q (.ref p) H))):=by
 intro pins s σ H xs us Q I r h;obtain⟨p,ys,rfl,h⟩:=h;obtain⟨u,rfl,rx⟩:=vals1 r;cases rx;rcases h with ⟨hq,q⟩ |⟨hq,q⟩
 ·obtain⟨its,r',pl,hz⟩:=I.list hq;have hlen:=r'.length;refine call_tuple_list pl.isList (λh' kp=>?_) (by simp only[cj]<;>omega);have I1:Inv X pins σ H {s with heap:=h'}:=I.kept (t':=s.toks) kp;have I2:Inv X pins σ (upd H h'.objs.size (.tup ys)) {s with heap:=h'.push {cls:=.type "tuple",data:=.seq its.toArray}}:=
   I1.laid (t':=s.toks) (λb o e=>bu _ e) (aJ _) (show ck X.prog X.w _ _ _ (.tup ys) from ⟨hz,its,r',IsTup.new _ _⟩)
  exact⟨.ref h'.objs.size,_,I2,rfl,q _ (I1.hok.fresh (aJ _))⟩
 ·obtain⟨its,r',pl,hz⟩:=I.tuple hq;exact call_tuple_same pl ⟨.ref p,H,I,rfl,q⟩
def Au(K:ax)(T:String)(x:V)(H:Hp):Prop:=match x with
 | .str _=>T="str"
 | .int _=>T="int"
 | .ref p=>(T="list" /\∃xs,aj K H p xs)\/(T="tuple" /\∃o,K.lookup p=some o/\o.cls=.type "tuple" /\o.dict=none)\/
   (T="dict" /\((∃kvs,H p=some (.dK kvs))\/∃kvs,H p=some (.dT kvs)))\/(T="set" /\∃S n,H p=some (.set S n))
 |_=>False
theorem Hm{pins:η}{σ:St}{H:Hp}{s:Shared}{T:String}{x:V}{v:Value}(I:Inv X pins σ H s)(r:RelV x v)(ty:Au X.K T x H):s.TypeIs v T/\∀a,v=.ref a->∃ob,s.heap.get? a=some ob/\ob.dict=none:=by
 cases x with
 |str z=>obtain⟨t,rfl⟩:=r;cases(show T="str" from ty);exact⟨typeIs_str s z t,λ_ e=>nomatch e⟩
 |int i=>obtain⟨t,rfl⟩:=r;cases(show T="int" from ty);exact⟨typeIs_int s i t,λ_ e=>nomatch e⟩
 |ref p=>
  cases r;rcases ty with ⟨rfl,xs,hq⟩ |⟨rfl,o,hk,hc,hd⟩ |⟨rfl,hk⟩ |⟨rfl,S,n,hk⟩
  ·obtain⟨its,_,pl,_⟩:=I.list hq;refine⟨pl.isList.typeIs,λa e=>?_⟩;cases e;obtain⟨o,n,e,c,hd,_⟩:=pl;exact⟨o,e,hd⟩
  ·refine⟨⟨o,I.bO p o hk,hc⟩,λa e=>?_⟩;cases e;exact⟨o,I.bO _ o hk,hd⟩
  ·have z:∃o,s.heap.get? p=some o/\o.ExactDict:=by
    rcases hk with ⟨kvs,hk⟩ |⟨kvs,hk⟩
    ·obtain⟨_,_,_,_,o,_,_,e,ex,_⟩:=I.hok p _ hk;exact⟨o,e,ex⟩
    ·obtain⟨_,_,_,_,o,_,_,e,ex,_⟩:=I.hok p _ hk;exact⟨o,e,ex⟩
   obtain⟨o,e,ex⟩:=z;refine⟨⟨o,e,ex.1⟩,λa e2=>?_⟩;cases e2;exact⟨o,e,ex.2.1⟩
  ·obtain⟨o,_,_,_,e,ex,_⟩:=I.hok p _ hk;refine⟨⟨o,e,ex.1⟩,λa e2=>?_⟩;cases e2;exact⟨o,e,ex.2.1⟩
 |_=>exact False.elim ty
def To(K:ax)(T:String)(r:V->List V->Hp->VK->Prop)(to:TE):TE:=λσ H Q=>to σ H λx H1=>Au K T x H1/\r x [] H1 Q
def Tp(K:ax)(T:String)(r:V->List V->Hp->VK->Prop)(to:TE)(t:TA):TE:=λσ H Q=>to σ H λx H1=>Au K T x H1/\t σ H1 λxs H2=>r x xs H2 Q
variable{o e:Expr}{es:List Expr}{to:TE}{t:TA}{name:Str}{apos cpos:Pos}{T id:String}{r:V->List V->Hp->VK->Prop}
theorem wO(pa:PlainAttrs T)(slot:Slot T name id)(hty:typeOf (.builtin id)=pure (.type "method_descriptor"))(hm:Ap X id r)(ho:PE X o to) (hbase:attributeBase o name X.env (eval o X.env)=eval o X.env:=by rfl)(hline:(apos.endLine==cpos.line)=true:=by rfl):PE X (.Call (.Attribute o name apos) [] [] cpos) (To X.K T r to):=by
 intro pins s σ H Q I h;refine wpAny_Call_method0_late hbase hline (aG (ho pins s σ H _ I h) λv s1 ⟨x,H1,I1,r1,ty,q1⟩=>?_);obtain⟨h1,h2⟩:=Hm I1 r1 ty;exact⟨T,id,pa,slot,hty,h1,h2,Calls.callWith_builtin rfl (PySem.evalArgs_none (hm pins s1 σ H1 x [] v [] Q I1 r1 .nil q1))⟩
theorem gq(pa:PlainAttrs T)(slot:Slot T name id)(hty:typeOf (.builtin id)=pure (.type "method_descriptor"))(hm:Ap X id r)(ho:PE X o to)(ha:PA X (e::es) t) (hbase:attributeBase o name X.env (eval o X.env)=eval o X.env:=by rfl) (hfew:((backTo cpos (starEach (e::es) X.env)).all (λx=> !x.1)&&(backToKw cpos (keywordEach [] X.env)).all (λx=>x.1.isSome) &&decide ((e::es).length+([]:List Keyword).length+(if ([]:List Keyword).isEmpty then 0 else 1)<30))=true:=by rfl) (hline:(apos.endLine==cpos.line)=true:=by rfl)(hs:starEach (e::es) X.env=(false,eval e X.env)::starEach es X.env:=by rfl)(hplain:(backTo cpos (starEach es X.env)).any (·.1)=false:=by rfl):PE X (.Call (.Attribute o name apos) (e::es) [] cpos) (Tp X.K T r to t):=by
 intro pins s σ H Q I h;refine wpAny_Call_method_late hbase hfew hline rfl (aG (ho pins s σ H _ I h) λv s1 ⟨x,H1,I1,r1,ty,q1⟩=>?_);obtain⟨h1,h2⟩:=Hm I1 r1 ty;refine⟨T,id,pa,slot,hty,h1,h2,?_⟩;have hA:=ha cpos pins s1 σ H1 _ I1 q1;rw[hs]at hA ⊢;refine Calls.callWith_builtin (by show(false||(backTo cpos (starEach es X.env)).any (·.1))=false;rw[hplain]<;>rfl) (Calls.evalArgs_plain ?_);exact aG hA λus s2 ⟨vs,H2,I2,r2,q2⟩=>hm pins s2 σ H2 x vs v us Q I2 r1 r2 q2
end
def tF(X:Cx)(id:String)(r:V->List V->Hp->VK->Prop):Prop:=∀(pins:η)(s:Shared)(σ:St)(H:Hp)(x:V)(xs:ε)(v:Value)(us:ω)(Q:VK),Inv X pins σ H s->RelV x v->Vals xs us->r x xs H Q->wpAny (model X.prog X.w) X.A (call (.builtin id) (v::us)) (EP X pins σ Q) X.xe s
theorem Vals.one:∀{x:V}{us:ω},Vals [x] us->∃u,us=[u]/\RelV x u
 |_,_,.cons r .nil=>⟨_,rfl,r⟩
theorem Vals.zero:∀{us:ω},Vals [] us->us=[]
 |_,.nil=>rfl
theorem Vals.dropLast{xs:ε}{us:ω}(h:Vals xs us):Vals xs.dropLast us.dropLast:=by
 induction h with
 |nil=>exact .nil
 |cons r t ih=>
  cases t with
  |nil=>exact .nil
  |cons q t'=>exact .cons r ih
theorem Vals.reverse{xs:ε}{us:ω}(h:Vals xs us):Vals xs.reverse us.reverse:=by
 induction h with
 |nil=>exact .nil
 |cons r t ih=>rw[Rb,Rb];exact Vals.append ih (.cons r .nil)
theorem Vals.rep{xs:ε}{us:ω}(h:Vals xs us):∀k:Nat,Vals (List.replicate k xs).flatten (List.replicate k us).flatten
 |0=>.nil
 |k+1=>by rw[lD,lD,Fy,Fy];exact Vals.append h (Vals.rep h k)
theorem Tq{α:Type}(l:List α):l.eraseIdx (l.length-1)=l.dropLast:=by
 induction l with
 |nil=>rfl
 |cons a r ih=>
  cases r with
  |nil=>rfl
  |cons b r=>
   have e:(a::b::r).length-1=((b::r).length-1)+1:=by have h1:(a::b::r).length=r.length+2:=rfl;have h2:(b::r).length=r.length+1:=rfl;omega
   rw[e,List.eraseIdx_cons_succ,ih]
   all_goals rfl
theorem foldl_rep(its:ω):∀(k:Nat)(acc:ω),List.foldl (λx1 x2=>x1++x2) acc.toArray (List.replicate k its.toArray)=(acc++(List.replicate k its).flatten).toArray
 |0,acc=>by simp
 |k+1,acc=>by
  have e:acc.toArray++its.toArray=(acc++its).toArray:=by simp
  have e2:(acc++its)++(List.replicate k its).flatten=acc++(List.replicate (k+1) its).flatten:=by rw[lD,Fy,mJ]
  rw[<-e2,<-foldl_rep its k (acc++its),<-e,lD,qA]
section
variable{X:Cx}{pins:η}{σ:St}{H:Hp}{s:Shared}{l b:Addr}{xs ys zs:ε}
theorem Inv.tG{its its':ω}{n:Nat}{f:Array Value->Array Value}{t':Nat}(I:Inv X pins σ H s)(hH:H l=some (.lst xs)) (e:s.heap.get? l=some {cls:=.type "list",data:=.seq its.toArray n})(hf:f its.toArray=its'.toArray)(hv:Vals ys its')(hz:ys.length<=sizeLine):Inv X pins σ (upd H l (.lst ys)) {s with heap:=s.heap.update l (Obj.mapSeq f),toks:=t'}:=by
 have q:=PySem.IsL.update e f;rw[hf]at q;refine I.write (x:=l) (e:=l) (by rw[hH];exact trivial) (.inl rfl) (λb' u hb hu=>(iL s.heap (Obj.mapSeq f) (cq hb)).trans hu) ⟨_,q⟩ ?_;exact⟨hz,its',_,hv,q⟩
theorem Inv.Av{its:ω}{t':Nat}(I:Inv X pins σ H s)(hv:Vals ys its)(hz:ys.length<=sizeLine):Inv X pins σ (upd H s.heap.objs.size (.lst ys)) {s with heap:=s.heap.push {cls:=.type "list",data:=.seq its.toArray},toks:=t'}:=I.laid (λ_ _ q=>bu _ q) (aJ _) ⟨hz,its,0,hv,cw _ rfl⟩
theorem Inv.fresh(I:Inv X pins σ H s):H s.heap.objs.size=none:=I.hok.fresh (aJ _)
theorem Inv.kr(I:Inv X pins σ H s)(hH:H l=some (.lst xs)):xs.length<=sizeLine/\∃(its:ω)(n:Nat),Vals xs its/\xs.length=its.length/\s.heap.get? l=some {cls:=.type "list",data:=.seq its.toArray n}:=by obtain⟨z,its,n,r,e⟩:=I.hok l _ hH;exact⟨z,its,n,r,r.length,e⟩
theorem Aw{n:Nat}(h:n<=sizeLine):Builtin.List.listTooLong n=false:=by unfold Builtin.List.listTooLong;exact aW (by omega)
end
section
variable{X:Cx}
inductive Hn(x:V)(vs:ε)(H:Hp)(Q:VK):Prop
 |mk l xs y:x=.ref l->vs=[y]->H l=some (.lst xs)->xs.length<sizeLine->Q .aw (upd H l (.lst (xs++[y])))->Hn x vs H Q
theorem i6:tF X "list.append" Hn:=by intro pins s σ H x vs v us Q I rx rv h;obtain⟨l,xs,y,rfl,rfl,hH,hz,q⟩:=h;cases rx;obtain⟨u,rfl,ru⟩:=rv.one;obtain⟨z,its,n,r,hl,e⟩:=I.kr hH;refine oa F.slot_list_append ⟨_,e,rfl⟩ F.entry_list_append (F.args_list_append_2 _ _) (PySem.list_append l its.toArray n u (by rw[cj];omega)) ⟨e,?_⟩;refine⟨.aw,_,I.tG (its':=its++[u]) hH e (by simp) (r.append (.cons ru .nil)) ?_,rfl,q⟩;rw[a8,cE];omega
inductive Ho(x:V)(vs:ε)(H:Hp)(Q:VK):Prop
 |mk l b xs zs:x=.ref l->vs=[.ref b]->H l=some (.lst xs)->H b=some (.lst zs)->xs.length+zs.length<=sizeLine->Q .aw (upd H l (.lst (xs++zs)))->Ho x vs H Q
theorem Tr:tF X "list.extend" Ho:=by
 intro pins s σ H x vs v us Q I rx rv h;obtain⟨l,b,xs,zs,rfl,rfl,hH,hB,hz,q⟩:=h;cases rx;obtain⟨u,rfl,ru⟩:=rv.one;cases ru;obtain⟨z,its,n,r,hl,e⟩:=I.kr hH;obtain⟨z2,its2,n2,r2,hl2,e2⟩:=I.kr hB;have hsz:its.toArray.size+its2.toArray.size<=sizeLine:=by rw[cj,cj];omega
 have tH:¬(!its.toArray.isEmpty&&Builtin.List.listTooLong (its.toArray.size+its2.toArray.size))=true:=by rw[Aw hsz,FA];exact cM
 refine oa F.slot_list_extend ⟨_,e,rfl⟩ F.entry_list_extend (F.args_list_extend_2 _ _) (AutoSeq1.list_extend_list_list_0 l its.toArray n b its2.toArray n2 tH (by rw[cj];omega) (by omega)) ⟨e,e2,?_⟩
 refine⟨.aw,_,I.tG (its':=its++its2) hH e (by simp) (r.append r2) ?_,rfl,q⟩;rw[a8];omega
inductive Hq(x:V)(vs:ε)(H:Hp)(Q:VK):Prop
 |mk l xs y:x=.ref l->vs=[]->H l=some (.lst xs)->xs[xs.length-1]? =some y->Q y (upd H l (.lst xs.dropLast))->Hq x vs H Q
theorem Ax:tF X "list.pop" Hq:=by
 intro pins s σ H x vs v us Q I rx rv h;obtain⟨l,xs,y,rfl,rfl,hH,hy,q⟩:=h;cases rx;have hus:=rv.zero;subst hus;obtain⟨z,its,n,r,hl,e⟩:=I.kr hH;obtain⟨u,hu,ru⟩:=r.get hy;have hy':its.toArray[its.toArray.size-1]? =some u:=by show its.toArray[its.length-1]? =some u;rw[<-qB,<-hl];exact hu
 refine oa F.slot_list_pop ⟨_,e,rfl⟩ F.entry_list_pop (F.args_list_pop_1 _) (MeetsSeq.list_pop_last l its.toArray n u hy' (by rw[cj];omega)) ⟨e,?_⟩;refine⟨y,_,I.tG (its':=its.dropLast) hH e ?_ r.dropLast ?_,ru,q⟩
 ·show its.toArray.eraseIdxIfInBounds (its.toArray.size-1)=its.dropLast.toArray;rw[cj,List.eraseIdxIfInBounds_toArray,Tq]
 ·rw[List.length_dropLast];omega
inductive Hs(x:V)(vs:ε)(H:Hp)(Q:VK):Prop
 |mk l xs:x=.ref l->vs=[]->H l=some (.lst xs)->Q .aw (upd H l (.lst xs.reverse))->Hs x vs H Q
theorem Ts:tF X "list.reverse" Hs:=by intro pins s σ H x vs v us Q I rx rv h;obtain⟨l,xs,rfl,rfl,hH,q⟩:=h;cases rx;have hus:=rv.zero;subst hus;obtain⟨z,its,n,r,hl,e⟩:=I.kr hH;refine oa F.slot_list_reverse ⟨_,e,rfl⟩ F.entry_list_reverse (F.args_list_reverse_1 _) (AutoSeq1.list_reverse_list_0 l its.toArray n (by rw[cj];omega)) ⟨e,?_⟩;refine⟨.aw,_,I.tG (its':=its.reverse) hH e (by simp) r.reverse ?_,rfl,q⟩;rw[List.length_reverse];omega
inductive Ay(x:V)(y:V)(H:Hp)(Q:VK):Prop
 |mk l b xs zs:x=.ref l->y=.ref b->H l=some (.lst xs)->H b=some (.lst zs)->xs.length+zs.length<=sizeLine->(∀p,H p=none->Q (.ref p) (upd H p (.lst (xs++zs))))->Ay x y H Q
theorem tI:b6 X (binaryOp .Add) Ay:=by
 intro pins s σ H x y v u Q I rx ry h;obtain⟨l,b,xs,zs,rfl,rfl,hH,hB,hz,q⟩:=h;cases rx;cases ry;obtain⟨z,its,n,r,hl,e⟩:=I.kr hH;obtain⟨z2,its2,n2,r2,hl2,e2⟩:=I.kr hB;refine PySem.P.add_list e e2 ?_ (by rw[cj,cj];omega);have ea:its.toArray++its2.toArray=(its++its2).toArray:=by simp
 rw[ea];exact⟨.ref _,_,I.Av (t':=s.toks) (r.append r2) (by rw[a8];omega),rfl,q _ I.fresh⟩
inductive Ht(x:V)(y:V)(H:Hp)(Q:VK):Prop
 |mk l k xs:x=.ref l->y=.int k->H l=some (.lst xs)-> -(2^63)<=k->k<2^63->xs.length*k.toNat<=sizeLine->(∀p,H p=none->Q (.ref p) (upd H p (.lst (List.replicate k.toNat xs).flatten)))->Ht x y H Q
theorem abr{α:Type}(xs:List α)(k:Nat):(List.replicate k xs).flatten.length=k*xs.length:=by
 induction k with
 |zero=>simp
 |succ k ih=>rw[lD,Fy,a8,ih,Nat.succ_mul,FC]
theorem Tt:b6 X (binaryOp .Mult) Ht:=by
 intro pins s σ H x y v u Q I rx ry h;obtain⟨l,k,xs,rfl,rfl,hH,h1,h2,hz,q⟩:=h;cases rx;obtain⟨t,rfl⟩:=ry;obtain⟨z,its,n,r,hl,e⟩:=I.kr hH;have hlen:its.toArray.size*k.toNat<=sizeLine:=by rw[cj,<-hl];exact hz
 have hcap:¬its.toArray.size*k.toNat>(2^63-1)/8:=by
  have:(sizeLine:Nat)<=(2^63-1)/8:=by decide
  omega
 have hfit:¬(!Builtin.List.listFitsIndex k)=true:=by rw[fitsIndex_both h1 h2];exact cM
 have tH:¬Builtin.List.listTooLong (its.toArray.size*k.toNat)=true:=by rw[Aw hlen];exact cM
 have hnew:List.foldl (λx1 x2=>x1++x2) #[] (List.replicate (if its.toArray.isEmpty=true then 0 else k.toNat) its.toArray)=(List.replicate k.toNat its).flatten.toArray:=by
  have f0:∀m:Nat,List.foldl (λx1 x2=>x1++x2) #[] (List.replicate m its.toArray)=(List.replicate m its).flatten.toArray:=λm=>by have:=foldl_rep its m [];rw[FD]at this;exact this
  rw[f0];cases its with
  |nil=>simp
  |cons a r'=>rw[af (by simp)]
 refine wpAny_binaryOp_repeat_ref (T:="list") (U:="int") (by decide) ⟨_,e,rfl⟩ (λs'=>typeIs_int s' k t) noFill_list_mul F.fills_int_mul F.slot_int_rmul repeat_list F.slot_int_index.lookup (oa F.slot_int_rmul (typeIs_int s k t) F.entry_int_rmul (F.args_int_rmul_2 _ _) (int___rmul___int_list k t l its.toArray n) ⟨e,rfl,⟨_,e,rfl⟩,oa F.slot_list_mul ⟨_,e,rfl⟩ F.entry_list_mul (F.args_list_mul_2 _ _) (AutoListH.list___mul___list_int_3 l its.toArray n k t hfit hcap tH) ⟨e,?_⟩⟩)
 rw[hnew];exact⟨.ref _,_,I.Av (t':=s.toks) (r.rep k.toNat) (by rw[abr,Nat.mul_comm];exact hz),rfl,q _ I.fresh⟩
end
section
variable{prog:Program}{w:World}{A:Around}{E:ρ}{s:Shared}
set_option maxRecDepth 100000 in
end
theorem Vals.ints:∀{ns:δ}{us:ω},Vals (ns.map V.int) us->IntsAre us ns
 |[],us,h=>by rw[qC]at h;cases h;exact IntsAre.nil
 |n::ns,us,h=>by
  rw[bx]at h;cases h with
  |cons r t=>obtain⟨k,rfl⟩:=r;exact IntsAre.cons n k (Vals.ints t)
theorem Hu:∀{us:ω}{ns:δ},IntsAre us ns->Vals (ns.map V.int) us
 |_,_,.nil=>by rw[qC];exact Paired.nil
 |_,_,.cons n t h=>by rw[bx];exact Paired.cons (show RelV (V.int n) (Value.int n t) from ⟨t,rfl⟩) (Hu h)
theorem Vals.Hv:∀{bs:List Bool}{us:ω},Vals (bs.map V.bl) us->us=bs.map Value.bool
 |[],us,h=>by rw[qC]at h;cases h;rfl
 |b::bs,us,h=>by
  rw[bx]at h;cases h with
  |cons r t=>cases r;rw[Vals.Hv t,bx]
theorem Vals.Az{a:Addr}{us:ω}(r:Vals [V.ref a] us):us=[Value.ref a]:=by
 cases r with
 |cons r t=>cases t;cases r;rfl
theorem Tu{prog:Program}{w:World}{A:Around}{E:ρ}{s:Shared}{l:Addr}{items:Array Value}{Q:ρ}(hl:s.heap.IsList l items) (h:∀s₂:Shared,s₂= {s with heap:=s.heap.push {cls:=.type "list_iterator",data:=.fields #[.ref l,.int 0 0]}}->(s₂.heap.IsListIter s.heap.objs.size l 0/\s₂.heap.IsList l items)->l≠s.heap.objs.size->Q (.ref s.heap.objs.size) s₂):wpAny (model prog w) A (pyIter (.ref l)) Q E s:=by
 have hlt:l<s.heap.objs.size:=by obtain⟨_,e,_⟩:=hl;exact a7 e
 exact Fu hl (h _ rfl ⟨⟨_,cw _ rfl,rfl,rfl⟩,hl.push _⟩ (bQ hlt))
theorem Tv{prog:Program}{w:World}{A:Around}{bs:List Bool}{its:ω}(e:its=bs.map Value.bool):TruthOf prog w A (λi v=>its.toArray[i]? =some v) (λi=>bs.getD i false):=λi v s Q E hv hq=>by
 have hv':its[i]? =some v:=by simpa using hv
 rw[e,bC]at hv';obtain⟨b,hb,rfl⟩:=cF.mp hv';have hg:bs.getD i false=b:=by rw[dy,hb]<;>rfl
 have hq':Q (bs.getD i false) s:=hq;rw[hg]at hq';exact nX hq'
theorem all_range:∀bs:List Bool,(List.range bs.length).all (λi=>bs.getD i false)=bs.all id
 |[]=>rfl
 |b::bs=>by
  rw[bT,FF,Fx,List.all_map,Fx,<-all_range bs]
  all_goals rfl
section
variable{X:Cx}
inductive Hw(K:ax)(vs:ε)(H:Hp)(Q:VK):Prop
 |mk (a:Addr) (bs:List Bool):vs=[V.ref a]->aj K H a (bs.map V.bl)->Q (.bl (bs.all id)) H->Hw K vs H Q
theorem Hy(hc:X.calm=true):ij X (.builtin "all") (Hw X.K):=by
 intro pins s σ H vs us Q I r h;obtain⟨a,bs,rfl,hs,q⟩:=h;obtain⟨its,rv,hl,_⟩:=I.list hs;rw[Vals.Az r];have hb:=rv.Hv;refine call_all_walk (Tu hl.isList λs₂ e2 st hne=>?_);subst e2;refine⟨_,_,_,_,_,_,_,rfl,Walks.list (A:=X.A.in1) (I.ok.hd hc) _ a hne its.toArray,st,Tv hb,λh' tk hk=>?_⟩;refine⟨.bl _,H,I.kept λb o eo=>hk b o (λhmem=>?_) (bu _ eo),?_,q⟩
 ·rcases aX.mp hmem with e1 |hmem
  ·exact absurd (e1▸a7 eo) (mF _)
  ·cases hmem
 ·show Value.bool _=Value.bool _;rw[<-all_range,hb,cj,aI]
end
mutual
inductive Dp(K:ax)(H:Hp):V->PyData->Prop
 |aw:Dp K H .aw .none
 |bl (b:Bool):Dp K H (.bl b) (.bool b)
 |int (i:Int):Dp K H (.int i) (.int i)
 |str (x:Str):Dp K H (.str x) (.str x)
 |lst {a:Addr} {xs:ε} {ds:List PyData}:aj K H a xs->jS K H xs ds->Dp K H (.ref a) (.list ds)
 |tup {a:Addr} {xs:ε} {ds:List PyData}:aV K H a xs->jS K H xs ds->Dp K H (.ref a) (.tuple ds)
inductive jS(K:ax)(H:Hp):List V->List PyData->Prop
 |nil:jS K H [] []
 |cons {v:V} {vs:ε} {d:PyData} {ds:List PyData}:Dp K H v d->jS K H vs ds->jS K H (v::vs) (d::ds)
end
section
variable{X:Cx}{pins:η}{σ:St}{H:Hp}{s:Shared}
mutual
theorem Dp.reads(I:Inv X pins σ H s):∀(d:PyData)(v:V)(u:Value),Dp X.K H v d->RelV v u->∃as,Reads s.heap u d as
 | .none,_,_,h,r=>by cases h;cases r;exact⟨_,Reads.none⟩
 | .bool b,_,_,h,r=>by cases h;cases r;exact⟨_,Reads.bool b⟩
 | .int i,_,_,h,r=>by cases h;obtain⟨t,rfl⟩:=r;exact⟨_,Reads.int i t⟩
 | .str x,_,_,h,r=>by cases h;obtain⟨t,rfl⟩:=r;exact⟨_,Reads.str x t⟩
 | .list ds,_,_,h,r=>by
  cases h with
  |lst hs ha=>cases r;obtain⟨its,rv,⟨o,n,ho,hc,_,hd⟩,_⟩:=I.list hs;obtain⟨as,hr⟩:=Dp.readsAll I ds _ its ha rv;exact⟨_,Reads.list ho hc hd hr⟩
 | .tuple ds,_,_,h,r=>by
  cases h with
  |tup hs ha=>cases r;obtain⟨its,rv,⟨o,ho,hc,n,hd⟩,_⟩:=I.tuple hs;obtain⟨as,hr⟩:=Dp.readsAll I ds _ its ha rv;exact⟨_,Reads.tuple ho hc hd hr⟩
 | .dict _,_,_,h,_=>by cases h
theorem Dp.readsAll(I:Inv X pins σ H s):∀(ds:List PyData)(vs:ε)(us:ω),jS X.K H vs ds->Vals vs us->∃as,ReadsAll s.heap us ds as
 |[],_,_,h,r=>by cases h;cases r;exact⟨_,ReadsAll.nil⟩
 |d::ds,_,_,h,r=>by
  cases h with
  |cons h1 h2=>
   cases r with
   |cons r1 r2=>obtain⟨as,q1⟩:=Dp.reads I d _ _ h1 r1;obtain⟨bs,q2⟩:=Dp.readsAll I ds _ _ h2 r2;exact⟨_,ReadsAll.cons q1 q2⟩
end
end
section
variable{X:Cx}
inductive wQ(K:ax)(x:V)(y:V)(H:Hp)(Q:VK):Prop
 |mk d e:Dp K H x d->Dp K H y e->SeqAt.shaped d=true->SeqAt.shaped e=true->Q (.bl (PyData.eqv d e)) H->wQ K x y H Q
inductive Hz(K:ax)(x:V)(y:V)(H:Hp)(Q:VK):Prop
 |mk d e:Dp K H x d->Dp K H y e->SeqAt.shaped d=true->SeqAt.shaped e=true->Q (.bl (!PyData.eqv d e)) H->Hz K x y H Q
theorem jT(hu:X.A.units+64<cLine):b6 X (compareOp .Eq) (wQ X.K):=by intro pins s σ H x y v u Q I rx ry h;obtain⟨d,e,hd,he,sd,se,q⟩:=h;obtain⟨as,r1⟩:=Dp.reads I d x v hd rx;obtain⟨bs,r2⟩:=Dp.reads I e y u he ry;exact SeqAt.compareEq_shaped r1 r2 sd se hu ⟨.bl _,H,I,rfl,q⟩
theorem Tw(hu:X.A.units+64<cLine):b6 X (compareOp .NotEq) (Hz X.K):=by intro pins s σ H x y v u Q I rx ry h;obtain⟨d,e,hd,he,sd,se,q⟩:=h;obtain⟨as,r1⟩:=Dp.reads I d x v hd rx;obtain⟨bs,r2⟩:=Dp.reads I e y u he ry;exact SeqAt.compareNe_shaped r1 r2 sd se hu ⟨.bl _,H,I,rfl,q⟩
end
end L2
namespace L2
open PySem PySem.Spec PyProof.Rows
abbrev HA(h:Heap)(c:Addr)(v:Option Value):Prop:=h.IsCell c v
def Tx(scope sc:Scope):Scope:={scope with names:=scope.names.map λ(n,k)=>if (k==.free&&sc.kind==.function&&sc.names.lookup n==some .cell)then (n,.cell)else (n,k)}
def dY(cells:List (Str×Addr)):List (Str×NameKind)->List (Str×Addr)->List (Str×Addr)
 |[],acc=>acc
 |(n,k)::r,acc=>if k==.free then dY cells r ((n,(cells.lookup n).getD 0)::acc)else dY cells r acc
theorem HB(env:Env)(f:Str×NameKind->List (Str×Addr)->Sem (ForInStep (List (Str×Addr)))) (hf:∀n k c,f (n,k) c=if k==.free then (do let a<-cellOf env n;pure (.yield ((n,a)::c)))else pure (.yield c)):
  ∀(names:List (Str×NameKind))(acc:List (Str×Addr)),(∀y∈names,y.2=.free->∃c,env.cells.lookup y.1=some c)->forIn names acc f=pure (dY env.cells names acc)
 |[],acc,_=>by rw[List.forIn_nil];rfl
 |(n,k)::r,acc,h=>by
  rw[List.forIn_cons,hf];have ih:=λacc=>HB env f hf r acc λy hy=>h y (bM _ hy)
  unfold dY;by_cases hk:(k==NameKind.free)=true
  ·rw[ah hk,ah hk];obtain⟨c,hc⟩:=h (n,k) dN (by simpa using hk);have e:cellOf env n=pure c:=by unfold cellOf;rw[hc]
   rw[e];have e2:(env.cells.lookup n).getD 0=c:=by rw[hc];rfl
   rw[e2];exact ih _
  ·rw[af hk,af hk];exact ih _
theorem Tz{scope:Scope}{env:Env}(h:∀y∈scope.names,y.2=.free->∃c,env.cells.lookup y.1=some c):closureFor scope env=pure (dY env.cells scope.names []):=by simp only[closureFor];rw[HB env _ (λn k c=>rfl) scope.names [] h];rfl
theorem mem_lookup{α:Type}:∀{l:List (Str×α)}{n:Str}{c:α},(n,c)∈l->∃c',l.lookup n=some c'
 |(k,v)::r,n,c,h=>by
  rw[oe];cases hb:n==k with
  |true=>exact⟨_,rfl⟩
  |false=>
   rcases aX.mp h with e |h
   ·cases e;simp at hb
   ·exact mem_lookup h
theorem wR{cells:List (Str×Addr)}:∀{names:List (Str×NameKind)}{acc:List (Str×Addr)}{n:Str}{c:Addr},(n,c)∈dY cells names acc->(n,c)∈acc\/((n,.free)∈names/\c=(cells.lookup n).getD 0)
 |[],_,_,_,h=>.inl h
 |(m,k)::r,acc,n,c,h=>by
  unfold dY at h;split at h
  ·rename_i hk
   have hk:k=.free:=by simpa using hk
   rcases wR h with h |⟨h1,h2⟩
   ·rcases aX.mp h with e |h
    ·cases e;exact .inr ⟨hk▸dN,rfl⟩
    ·exact .inl h
   ·exact .inr ⟨bM _ h1,h2⟩
  ·rcases wR h with h |⟨h1,h2⟩
   ·exact .inl h
   ·exact .inr ⟨bM _ h1,h2⟩
theorem AA{cells:List (Str×Addr)}:∀{names:List (Str×NameKind)}{acc:List (Str×Addr)}{p:Str×Addr},p∈acc->p∈dY cells names acc
 |[],_,_,h=>h
 |(m,k)::r,acc,p,h=>by
  unfold dY;split
  ·exact AA (bM _ h)
  ·exact AA h
theorem AD{cells:List (Str×Addr)}:∀{names:List (Str×NameKind)}{acc:List (Str×Addr)}{n:Str},(n,.free)∈names->(n,(cells.lookup n).getD 0)∈dY cells names acc
 |(m,k)::r,acc,n,h=>by
  unfold dY;rcases aX.mp h with e |h
  ·cases e;exact AA dN
  ·split
   ·exact AD h
   ·exact AD h
theorem tJ:∀{names:List (Str×NameKind)}{h:Heap}{acc:List (Str×Addr)}{x:Str}{c:Addr},(x,c)∈cellsFrom h.objs.size names acc->(x,c)∈acc\/((x,.cell)∈names/\h.objs.size<=c/\HA (pushCells h names) c none)
 |[],_,_,_,_,h=>.inl h
 |(n,k)::r,h,acc,x,c,hm=>by
  unfold cellsFrom at hm;unfold pushCells;split at hm
  ·rename_i hk
   rw[ah hk];have hk:k=.cell:=by simpa using hk
   rw[<-e8 h {cls:=.type "cell",data:=.cell none}]at hm;rcases tJ hm with hm |⟨h1,h2,h3⟩
   ·rcases aX.mp hm with e |hm
    ·cases e;exact .inr ⟨hk▸dN,aJ _,_,FG r _ _ _ (cw _ rfl),rfl⟩
    ·exact .inl hm
   ·rw[e8]at h2;exact .inr ⟨bM _ h1,FH h2,h3⟩
  ·rename_i hk
   rw[af hk];rcases tJ hm with hm |⟨h1,h2,h3⟩
   ·exact .inl hm
   ·exact .inr ⟨bM _ h1,h2,h3⟩
theorem wU:∀{names:List (Str×NameKind)}{n:Nat}{acc:List (Str×Addr)}{p:Str×Addr},p∈acc->p∈cellsFrom n names acc
 |[],_,_,_,h=>h
 |(m,k)::r,n,acc,p,h=>by
  unfold cellsFrom;split
  ·exact wU (bM _ h)
  ·exact wU h
theorem AE:∀{names:List (Str×NameKind)}{n:Nat}{acc:List (Str×Addr)}{x:Str},(x,.cell)∈names->∃c,(x,c)∈cellsFrom n names acc
 |(m,k)::r,n,acc,x,h=>by
  unfold cellsFrom;rcases aX.mp h with e |h
  ·cases e;exact⟨n,wU dN⟩
  ·split
   ·exact AE h
   ·exact AE h
theorem AF:∀{names:List (Str×NameKind)}{h:Heap}{acc:List (Str×Addr)}{x y:Str}{c:Addr},(∀p∈acc,p.2<h.objs.size)->(∀x y c,(x,c)∈acc->(y,c)∈acc->x=y)->(x,c)∈cellsFrom h.objs.size names acc->(y,c)∈cellsFrom h.objs.size names acc->x=y
 |[],_,_,_,_,_,_,hi,h1,h2=>hi _ _ _ h1 h2
 |(n,k)::r,h,acc,x,y,c,hl,hi,h1,h2=>by
  unfold cellsFrom at h1 h2;split at h1
  ·rename_i hk
   rw[ah hk]at h2;rw[<-e8 h {cls:=.type "cell",data:=.cell none}]at h1 h2;refine AF (h:=h.push _) (λp hp=>?_) (λx y c a b=>?_) h1 h2
   ·rw[e8];rcases aX.mp hp with rfl |hp
    ·exact sE _
    ·exact sJ (hl p hp)
   ·rcases aX.mp a with e |a<;>rcases aX.mp b with e' |b
    ·cases e;cases e';rfl
    ·cases e;exact absurd (hl _ b) (mF _)
    ·cases e';exact absurd (hl _ a) (mF _)
    ·exact hi _ _ _ a b
  ·rename_i hk
   rw[af hk]at h2;exact AF hl hi h1 h2
theorem TB{M:Model}{A:Around}{E:ρ}{s:Shared}{scope:Scope}{globals:Addr}{closure:List (Str×Addr)}{qual:Str}{func:Option Addr}{code:Value}{around:Env}{builtins:Addr}{Q:Env->Shared->Prop} (h:Q (newEnv scope s.heap.objs.size globals (cellsFrom (s.heap.objs.size+1) scope.names closure) qual func code (some around) builtins) {s with heap:=pushCells (s.heap.push {cls:=.type "dict",data:=.dict #[]}) scope.names}):wpAny M A (newFunctionEnv scope globals closure [] qual func code (some around) builtins) Q E s:=by
 simp only[newFunctionEnv,Option.isSome_some,sH];refine ai (wpAny_alloc ?_);refine ai (wpAny_layCells _ (λn k c=>rfl) scope.names closure _ _ ?_);rw[show({s with heap:=s.heap.push {cls:=.type "dict",data:=.dict #[]}}:Shared).heap.objs.size=s.heap.objs.size+1 from e8 ..];rw[List.forIn_nil];exact ai (aB (aB h))
theorem AG{sc:Scope}:∀{names:List (Str×NameKind)}{x:Str}{k:NameKind},(names.map λ(n,k)=>if (k==NameKind.free&&sc.kind==.function&&sc.names.lookup n==some .cell)then (n,NameKind.cell)else (n,k)).lookup x=some k->∃k',names.lookup x=some k'/\(k=k'\/(k'=.free/\k=.cell))
 |[],_,_,h=>by simp at h
 |(n,k₀)::r,x,k,h=>by
  have ih:=@AG sc r x k;have h':List.lookup x ((if (k₀==NameKind.free&&sc.kind==.function&&sc.names.lookup n==some .cell)=true then (n,NameKind.cell)else (n,k₀))::(r.map _))=some k:=h;cases hx:x==n with
  |true=>
   simp only[oe,hx];by_cases hc:(k₀==NameKind.free&&sc.kind==.function&&sc.names.lookup n==some .cell)=true
   ·rw[ah hc]at h';simp only[oe,hx]at h';cases h';simp only[fM,ke]at hc;exact⟨k₀,rfl,.inr ⟨hc.1.1,rfl⟩⟩
   ·rw[af hc]at h';simp only[oe,hx]at h';cases h';exact⟨_,rfl,.inl rfl⟩
  |false=>
   simp only[oe,hx];by_cases hc:(k₀==NameKind.free&&sc.kind==.function&&sc.names.lookup n==some .cell)=true
   ·rw[ah hc]at h';simp only[oe,hx]at h';exact ih h'
   ·rw[af hc]at h';simp only[oe,hx]at h';exact ih h'
structure cX(N:γ)(sc scope:Scope)(own:List (Str×Nat)):Prop where
 kind:scope.kind=.function
 uniq:∀y∈scope.names,scope.names.lookup y.1=some y.2
 ix:∀p∈own,N[p.2]? =some p.1
 free:∀y∈scope.names,y.2=.free->sc.names.lookup y.1=some .cell\/sc.names.lookup y.1=some .free
 own:∀y∈scope.names,y.2=.local\/y.2=.cell->y.1∈own.map (·.1)\/y.1 ∉ N
def a_(σ:St):List Nat->St
 |[]=>σ
 |v::vs=>(a_ σ vs).set v none
theorem AH(σ:St):∀vs:List Nat,(a_ σ vs).length=σ.length
 |[]=>rfl
 |v::vs=>by unfold a_;rw[gk,AH σ vs]
theorem AI{σ:St}{i:Nat}{x:V}:∀{vs:ψ},(a_ σ vs)[i]? =some (some x)->σ[i]? =some (some x)/\i ∉ vs
 |[],h=>⟨h,by simp⟩
 |v::vs,h=>by
  unfold a_ at h;by_cases hi:v=i
  ·subst hi;by_cases hv:v<(a_ σ vs).length
   ·rw[lC hv]at h;cases h
   ·rw[iM (by simpa using hv)]at h;cases h
  ·rw[nW hi]at h;obtain⟨h1,h2⟩:=AI h;exact⟨h1,by simp only[aX,not_or];exact⟨λe=>hi e.symm,h2⟩⟩
abbrev Cx.blk(X:Cx)(s:Shared)(H:Hp)(scope:Scope)(cenv:Env)(fp:θ):Cx:= {X with s₀:=s,H₀:=H,env:=cenv,outer:=X.stack,ex:=fp,fn:=λx=>scope.names.lookup x==some .cell,pn:=[],xe:=λ_ _=>False}
section
variable{X:Cx}{pins:η}{σ:St}{H:Hp}{s:Shared}
theorem TC{scope:Scope}{own:List (Str×Nat)}{fp:θ}(I:Inv X pins σ H s)(ok:cX X.N X.env.scope scope own)(hN:X.N.Nodup)(hfp:∀b∈fp,fD X pins H b/\b<s.heap.objs.size):Inv (X.blk s H scope (compEnvC scope (cellsFrom (s.heap.objs.size+1) scope.names (dY X.env.cells scope.names [])) s.heap.objs.size X.env) fp) [] (a_ σ (own.map (·.2))) H {s with heap:=pushCells (s.heap.push {cls:=.type "dict",data:=.dict #[]}) scope.names}:=by
 have hfree:∀y∈scope.names,y.2=.free->∃c,X.env.cells.lookup y.1=some c:=λy hy e=>by
  rcases ok.free y hy e with k |k
  ·exact I.ok.has _ (.inl k)
  ·exact I.ok.has _ (.inr k)
 generalize tK:compEnvC scope (cellsFrom (s.heap.objs.size+1) scope.names (dY X.env.cells scope.names [])) s.heap.objs.size X.env=cenv;have kp:∀b o,s.heap.get? b=some o->(pushCells (s.heap.push {cls:=.type "dict",data:=.dict #[]}) scope.names).get? b=some o:=λb o e=>FG _ _ _ _ (bu _ e)
 have hL:cenv.locals=s.heap.objs.size:=by rw[<-tK];rfl
 have hcl:cenv.cells=cellsFrom (s.heap.objs.size+1) scope.names (dY X.env.cells scope.names []):=by rw[<-tK];rfl
 have hsc:cenv.scope=Tx scope X.env.scope:=by rw[<-tK];rfl
 rw[<-e8 s.heap {cls:=.type "dict",data:=.dict #[]}]at hcl;have cm:∀{y c},(y,c)∈dY X.env.cells scope.names []->X.env.cells.lookup y=some c/\c<s.heap.objs.size:=λ{y c} hm=>by
  rcases wR hm with hm |⟨h1,rfl⟩
  ·cases hm
  ·obtain⟨c,hc⟩:=hfree _ h1 rfl;rw[hc];obtain⟨w,z⟩:=I.cell _ _ hc;exact⟨rfl,z.lt⟩
 have mem:∀{y c},cenv.cells.lookup y=some c->(X.env.cells.lookup y=some c/\c<s.heap.objs.size)\/(s.heap.objs.size+1<=c/\HA (pushCells (s.heap.push {cls:=.type "dict",data:=.dict #[]}) scope.names) c none):=λ{y c} e=>by
  rw[hcl]at e;rcases tJ (iK e)with hm |⟨_,h2,h3⟩
  ·exact .inl (cm hm)
  ·rw[e8]at h2;exact .inr ⟨h2,h3⟩
 have look:∀{y},scope.names.lookup y=some .free->∃c,cenv.cells.lookup y=some c/\X.env.cells.lookup y=some c:=λ{y} hl=>by
  have hy:(y,NameKind.free)∈scope.names:=iK hl;obtain⟨c',e'⟩:=mem_lookup (wU (names:=scope.names) (n:=(s.heap.push {cls:=.type "dict",data:=.dict #[]}).objs.size) (AD (cells:=X.env.cells) (acc:=[]) hy));rw[<-hcl]at e';refine⟨c',e',?_⟩;rw[hcl]at e';rcases tJ (iK e')with hm |⟨h1,_,_⟩
  ·exact(cm hm).1
  ·have:=ok.uniq _ h1;rw[hl]at this;cases this
 have okB:(X.blk s H scope cenv fp).Ok:=by
  refine⟨I.ok.mod,by show cenv.scope.kind=_;rw[hsc];exact ok.kind,by show cenv.globals=_;rw[<-tK];exact I.ok.glob,by show cenv.builtins=_;rw[<-tK];exact I.ok.blt,by show s.heap.objs.size<=cenv.locals;rw[hL];exact aJ _,λy z c e1 e2=>?_,λy hy=>?_,λy c z e=>?_,I.ok.hd,I.ok.frames,.inl rfl,λb hb=>⟨?_,λy c e z=>?_⟩,I.bs,bE I.ok.iT I.sz,λb o e hb=>?_,λb hb z=>?_,I.stack,I.zS⟩
  ·have e1:cenv.cells.lookup y=some c:=e1;have e2:cenv.cells.lookup z=some c:=e2;rw[hcl]at e1 e2;refine AF (λp hp=>?_) (λy z c a b=>I.ok.inj y z c (cm a).1 (cm b).1) (iK e1) (iK e2);rw[e8];exact sJ (cm (y:=p.1) (c:=p.2) hp).2
  ·show ∃c,cenv.cells.lookup y=some c;have key:∀k,cenv.kindOf y=some k->(k=.cell\/k=.free)->∃c,cenv.cells.lookup y=some c:=λk hk hk'=>by
    unfold Env.kindOf at hk;rw[hsc]at hk;obtain⟨k',e,r⟩:=AG hk;have:k'=.cell\/k'=.free:=by
     rcases r with rfl |⟨rfl,_⟩
     ·exact hk'
     ·exact .inr rfl
    rcases this with rfl |rfl
    ·obtain⟨c,hm⟩:=AE (n:=(s.heap.push {cls:=.type "dict",data:=.dict #[]}).objs.size) (acc:=dY X.env.cells scope.names []) (iK e);obtain⟨c',e'⟩:=mem_lookup hm;exact⟨c',by rw[hcl];exact e'⟩
    ·obtain⟨c,h1,_⟩:=look e;exact⟨c,h1⟩
   rcases hy with hy |hy
   ·exact key _ hy (.inl rfl)
   ·exact key _ hy (.inr rfl)
  ·have z:(scope.names.lookup y==some NameKind.cell)=true:=z;have z:scope.names.lookup y=some .cell:=by simpa using z
   have e:cenv.cells.lookup y=some c:=e;rw[hcl]at e;rcases tJ (iK e)with hm |⟨_,h2,_⟩
   ·rcases wR hm with hm |⟨h1,_⟩
    ·cases hm
    ·have q:=ok.uniq _ h1;rw[z]at q;cases q
   ·rw[e8]at h2;exact FH h2
  ·show b≠cenv.locals;rw[hL];exact bQ (hfp b hb).2
  ·have e:cenv.cells.lookup y=some c:=e;rcases mem e with ⟨h1,_⟩ |⟨h1,_⟩
   ·exact(hfp b hb).1.2.2.2.2.1 y c h1 z
   ·have h2:s.heap.objs.size+1<=b:=by rw[<-z];exact h1
    exact absurd (e7 (hfp b hb).2 (FH h2)) (mF _)
  ·rcases(hfp b hb).1.2.2.2.1 with z |z
   ·exact I.ok.lL b o e z
   ·exact absurd (e7 (a7 e) (bE I.ok.iT z)) (mF _)
  ·rcases aX.mp (I.sT b z)with z |z
   ·exact(hfp b hb).1.2.1 z
   ·exact(hfp b hb).1.2.2.1 z
 refine⟨okB,rfl,I.bare,Un.kept kp,⟨λ_=>none,?_,λi y av e1 e2 e3=>?_⟩,λy c e=>?_,?_,λy c e=>?_,λp hp=>?_,I.hok.kept kp,by rw[AH];exact I.len⟩
 ·show Heap.Ns _ cenv.locals _;rw[hL];exact Heap.Ns.keeps (Heap.Ns.new ..) λb o e=>FG _ _ _ _ e
 ·obtain⟨e2,hne⟩:=AI e2;have hfr:scope.names.lookup y=some .free/\(cenv.kindOf y=some .cell\/cenv.kindOf y=some .free):=by
   have key:∀k,cenv.scope.names.lookup y=some k->k=.local\/k=.cell\/k=.free->scope.names.lookup y=some .free/\(cenv.kindOf y=some .cell\/cenv.kindOf y=some .free):=λk hk hk'=>by
    have hk0:=hk;rw[hsc]at hk;obtain⟨k',e,r⟩:=AG hk;have no:¬(k'=.local\/k'=.cell):=λhh=>by
     rcases ok.own _ (iK e) hh with e' |e'
     ·obtain⟨p,hp,hpy⟩:=d_.mp e';have e3:=ok.ix p hp;have:p.1=y:=hpy;rw[this]at e3;exact hne (d_.mpr ⟨p,hp,zV hN e3 e1⟩)
     ·exact e' (br e1)
    rcases r with rfl |⟨rfl,rfl⟩
    ·rcases hk' with rfl |rfl |rfl
     ·exact absurd (.inl rfl) no
     ·exact absurd (.inr rfl) no
     ·exact⟨e,.inr hk0⟩
    ·exact⟨e,.inl hk0⟩
   have e3:qO cenv.scope y:=e3;rcases e3 with e3 |e3 |e3
   ·exact key _ e3 (.inl rfl)
   ·exact key _ e3 (.inr (.inl rfl))
   ·exact key _ e3 (.inr (.inr rfl))
  obtain⟨m,hn,hl⟩:=I.loc;have TF:qO X.env.scope y:=(ok.free _ (iK hfr.1) rfl).elim (λk=>.inr (.inl k)) (λk=>.inr (.inr k));obtain⟨w,r,q⟩:=hl i y av e1 e2 TF;refine⟨w,r,.inr ⟨hfr.2,?_⟩⟩;obtain⟨c,h1,h2⟩:=look hfr.1;rcases q with ⟨k,_⟩ |⟨_,c',e',z⟩
  ·have k:X.env.scope.names.lookup y=some .local:=k;rcases ok.free _ (iK hfr.1) rfl with k' |k'<;>rw[show X.env.scope.names.lookup y=_ from k']at k<;>cases k
  ·rw[h2]at e';cases e';exact⟨c,h1,z.keeps kp⟩
 ·have e:cenv.cells.lookup y=some c:=e;rcases mem e with ⟨h1,_⟩ |⟨_,z⟩
  ·obtain⟨w,z⟩:=I.cell y c h1;exact⟨w,z.keeps kp⟩
  ·exact⟨_,z⟩
 ·show H cenv.locals=none;rw[hL];exact I.hok.fresh (aJ _)
 ·have e:cenv.cells.lookup y=some c:=e;rcases mem e with ⟨h1,_⟩ |⟨h1,_⟩
  ·exact I.fC y c h1
  ·exact I.hok.fresh (FH h1)
 ·exact absurd (show p∈([]:List (Addr×Obj))++[] from hp) (by simp)
theorem TH{E:ρ}{D:Addr}{xs:ε}{y:V}{v:Value}{Q:ρ}(I:Inv X pins σ H s)(hD:H D=some (.lst xs))(hz:xs.length<sizeLine)(r:RelV y v) (h:∀s',Inv X pins σ (upd H D (.lst (xs++[y]))) s'->Q .none s'):wpAny (model X.prog X.w) X.A (call (.builtin "list.append") [.ref D,v]) Q E s:=by
 obtain⟨hz',its,n,ri,e⟩:=I.hok D _ hD;have hl:=ri.length;refine append_at (hsz:=by rw[cj];omega) e λh' sb ho'=>?_
 refine h {s with heap:=h'} (I.write (t':=s.toks) (by rw[hD];trivial) (.inl rfl) (λb u hb q=>(sb.2 b hb).trans q) ⟨_,ho'⟩ ⟨by rw[a8];exact hz,its++[v],n+1,ri.append (.cons r .nil),?_⟩);rw[ho'];simp
def tL(X:Cx)(ifs:List Expr)(t:TT):Prop:=∀(pins:η)(s:Shared)(σ:St)(H:Hp)(Q:Bool->Hp->Prop),Inv X pins σ H s->t σ H Q->wpAny (model X.prog X.w) X.A (forIn ifs true λc r=>if r=true then do let ok<-isTrue c X.env (eval c X.env);pure (ForInStep.yield ok)else pure (ForInStep.yield r)) (TP X pins σ Q) X.xe s
def wV:TT:=λ_ H Q=>Q true H
theorem eE:tL X [] wV:=λ_ _ _ H _ I h=>wpAny_tests_nil ⟨H,I,h⟩
theorem HC{c:Expr}{t:TT}(h:PT X c t):tL X [c] t:=λpins s σ H Q I hw=>wpAny_tests_one (h pins s σ H Q I hw)
end
theorem qY{α:Type}{t:Sem α}{Q Q':α->Shared->Prop}{M:Model}{A:Around}{E:ρ}{s:Shared}(h:wpAny M A t Q (λ_ _=>False) s)(hQ:∀a s,Q a s->Q' a s):wpAny M A t Q' E s:=di h hQ λ_ _ z=>False.elim z
theorem TJ{prog:Program}{w:World}{A:Around}{R:Result->Shared->Prop}{s:Shared}{elt target iter:Expr}{ifs:List Expr}{scope:Scope}{pos:Pos}{it acc:Value}{env:Env}(I:Nat->Shared->Prop) (turn:∀n s,I n s->wpAny (model prog w) A (pyNext it) (λr s₁=>match r with
   |none=>R (.ok .next) s₁
   |some v=>wpAny (model prog w) A (letOwnedTupleGo target it v) (λ_ s₁'=>wpAny (model prog w) A (assign target env v) (λ_ s₂=>
     wpAny (model prog w) A (forIn ifs true λc r=>if r=true then do let ok<-isTrue c env (eval c env);pure (ForInStep.yield ok)else pure (ForInStep.yield r)) (λok s₃=>
      if ok=true then wpAny (model prog w) A (eval elt env) (λx s₄=>wpAny (model prog w) A (call (.builtin "list.append") [acc,x]) (λ_ s₅=>∃m,m<n/\I m s₅) (notedBy (model prog w) A env λe s'=>R (.error e) s') s₄) (notedBy (model prog w) A env λe s'=>R (.error e) s') s₃
      else ∃m,m<n/\I m s₃) (notedBy (model prog w) A env λe s'=>R (.error e) s') s₂) (notedBy (model prog w) A env λe s'=>R (.error e) s') s₁') (notedBy (model prog w) A env λe s'=>R (.error e) s') s₁) (notedBy (model prog w) A env λe s'=>R (.error e) s') s)
  (n:Nat)(h:I n s):
  codeAny (model prog w) A (.compLoop (.ListComp elt [⟨target,iter,ifs,0⟩] scope pos) 0 it acc env) R s:=by
 refine codeAny_loop rfl I (λn s hI=>?_) n h;show wpAny _ A ((compTurn (.ListComp elt [⟨target,iter,ifs,0⟩] scope pos) 0 it acc env).onRaise (λx=>do noteFrame x env;theTreesLotGoes x)) _ _ s;refine wpAny_noted ?_;rw[compTurn_list];refine ai (vL (ai (di (turn n s hI) (λr s₁ h₁=>?_) λ_ _ h'=>h')));cases r with
 |none=>exact aB h₁
 |some v=>
  refine ai (di h₁ (λ_ s₁' h₁'=>?_) λ_ _ h'=>h');refine ai (di h₁' (λ_ s₂ h₂=>ai (di h₂ (λok s₃ h₃=>?_) λ_ _ h'=>h')) λ_ _ h'=>h');cases ok with
  |false=>exact aB ⟨rfl,h₃⟩
  |true=>exact ai (ai (di h₃ (λx s₄ h₄=>ai (di h₄ (λ_ s₅ h₅=>aB (aB ⟨rfl,h₅⟩)) λ_ _ h'=>h')) λ_ _ h'=>h'))
section
variable{X:Cx}
def tM(wi:TI)(g:TG)(tt:TT)(te:TE)(vs:ψ):TE:=λσ H Q=>wi σ H λJ H1=>∀D,H1 D=none->∃W:Nat->Nat->Hp->Prop,(∃m,W 0 m (upd H1 D (.lst [])))/\∀i m H,W i m H->(J.stop i H/\Q (.ref D) H)\/(J.go i H/\∃Nx:Hp->Prop,(∀H',Nx H'->∃m',m'<m/\W (i+1) m' H')/\∀x H',J.gN i H x H'->g x (a_ σ vs) H' λσ2 H2=>a_ σ2 vs=a_ σ vs/\tt σ2 H2 λb H3=>if b=true then te σ2 H3 λy H4=>∃acc,H4 D=some (.lst acc)/\acc.length<sizeLine/\Nx (upd H4 D (.lst (acc++[y])))else Nx H3)
theorem HD{pins:η}{s:Shared}{σ:St}{H:Hp}{Q:VK}{elt tg iter:Expr}{ifs:List Expr}{scope:Scope}{own:List (Str×Nat)}{pos pos':Pos}{wi:TI}{g:TG}{tt:TT}{te:TE}{use:Option (Value->Sem Unit)}{Qf:ρ} (hc:X.calm=true)(hN:X.N.Nodup)(I:Inv X pins σ H s)(hi:PI X tg iter wi)(ok:cX X.N X.env.scope scope own) (hg:∀(s:Shared)(H:Hp)(C:Addr)(cl:List (Str×Addr))(fp:θ),PG (X.blk s H scope (compEnvC scope cl C X.env) fp) tg g)(ht:∀(s:Shared)(H:Hp)(C:Addr)(cl:List (Str×Addr))(fp:θ),tL (X.blk s H scope (compEnvC scope cl C X.env) fp) ifs tt) (he:∀(s:Shared)(H:Hp)(C:Addr)(cl:List (Str×Addr))(fp:θ),PE (X.blk s H scope (compEnvC scope cl C X.env) fp) elt te)(hs:∀x,foldedSetIterable iter X.env x=pure x) (h:tM wi g tt te (own.map (·.2)) σ H Q) (hRR:∀D C s' m H',Inv X pins σ H' s'->Q (.ref D) H'->s'.heap.Ns C m->fD X pins H' C->compPost (model X.prog X.w) X.A X.xe use Qf (.ref D) C (.ok .next) s'):wpAny (model X.prog X.w) X.A (comprehension (.ListComp elt [⟨tg,iter,ifs,0⟩] scope pos) scope X.env pos' (newList []) false (eval iter X.env) use) Qf X.xe s:=by
 have hfree:∀y∈scope.names,y.2=.free->∃c,X.env.cells.lookup y.1=some c:=λy hy e=>by
  rcases ok.free y hy e with k |k
  ·exact I.ok.has _ (.inl k)
  ·exact I.ok.has _ (.inr k)
 refine wpAny_comprehension_free (use:=use) rfl hs (Tz hfree) ok.kind (λy hy e=>by rw[ok.uniq y hy,e]) (aG (hi pins s σ H _ I h) λxv s1 hx=>aG hx λitv s2 h2=>?_)
 obtain⟨it,fp,tn,J,H2,e,I2,T,st2,f2,q⟩:=h2;subst e;refine jo (TB ?_) (by show 0<=sizeLine;decide);generalize hD:s2.heap.objs.size=D;have hDn:H2 D=none:=I2.hok.fresh (nZ hD);obtain⟨W,⟨m0,w0⟩,turn⟩:=q D hDn;generalize hs3:({s2 with heap:=s2.heap.push {cls:=.type "list",data:=.seq ([]:List Value).toArray}}:Shared)=s3;have I3:Inv X pins σ (upd H2 D (.lst [])) s3:=by rw[<-hs3];refine I2.laid (t':=s2.toks) (λb o e=>bu _ e) (nZ hD) ⟨bS _,[],0,.nil,?_⟩;rw[<-hD];exact cw _ rfl
 have h3:s3.heap=s2.heap.push {cls:=.type "list",data:=.seq ([]:List Value).toArray}:=by rw[<-hs3]
 have sz:∀b∈fp,b<s2.heap.objs.size:=λb hb=>by obtain⟨o,e,_⟩:=T.obj _ _ st2 b hb;exact a7 e
 have f3:∀b∈fp,fD X pins (upd H2 D (.lst [])) b/\b<s3.heap.objs.size:=λb hb=>by have hlt:=sz b hb;refine⟨⟨?_,(f2 b hb).2⟩,by rw[h3,e8];exact sJ hlt⟩;rw[ay (by rw[<-hD];exact bQ hlt)];exact(f2 b hb).1
 have st3:tn 0 s3.heap:=T.keep _ _ _ st2 λb _ o e=>by rw[h3];exact bu _ e
 have I4:=TC I3 ok hN f3;have pg:=hg s3 (upd H2 D (.lst [])) s3.heap.objs.size (cellsFrom (s3.heap.objs.size+1) scope.names (dY X.env.cells scope.names [])) fp;have pt:=ht s3 (upd H2 D (.lst [])) s3.heap.objs.size (cellsFrom (s3.heap.objs.size+1) scope.names (dY X.env.cells scope.names [])) fp;have pe:=he s3 (upd H2 D (.lst [])) s3.heap.objs.size (cellsFrom (s3.heap.objs.size+1) scope.names (dY X.env.cells scope.names [])) fp;show codeAny _ _ (.compStart (.ListComp elt [⟨tg,iter,ifs,0⟩] scope pos) 0 (.ref it) (.ref D) (compEnvC scope (cellsFrom (s3.heap.objs.size+1) scope.names (dY X.env.cells scope.names [])) s3.heap.objs.size X.env)) (compPost (model X.prog X.w) X.A X.xe use Qf (.ref D) s3.heap.objs.size) {s3 with heap:=pushCells (s3.heap.push {cls:=.type "dict",data:=.dict #[]}) scope.names};have nfp:∀b∈fp,(upd H2 D (.lst [])) b=none:=λb hb=>(f3 b hb).1.1
 generalize hce:compEnvC scope (cellsFrom (s3.heap.objs.size+1) scope.names (dY X.env.cells scope.names [])) s3.heap.objs.size X.env=ce at I4 pg pt pe ⊢;have cL:ce.locals=s3.heap.objs.size:=by subst hce;rfl
 generalize hH3:upd H2 D (.lst [])=H3 at I3 I4 pg pt pe w0 nfp f3;generalize hs4:({s3 with heap:=pushCells (s3.heap.push {cls:=.type "dict",data:=.dict #[]}) scope.names}:Shared)=s4 at I4 ⊢;have st4:tn 0 s4.heap:=T.keep _ _ _ st3 λb _ o e=>by rw[<-hs4];exact FG _ _ _ _ (bu _ e)
 have stat:∀{σ':St}{H':Hp}{s':Shared},Inv (X.blk s3 H3 scope ce fp) [] σ' H' s'->(∀b∈fp,H' b=none)->∀b∈fp,fD (X.blk s3 H3 scope ce fp) [] H' b:=λ{σ' H' s'} I' hn b hb=>⟨hn b hb,(I'.ok.mP b hb).1,I'.ok.lO b hb,.inl hb,λx c e=>(I'.ok.mP b hb).2 x c e,λp hp=>absurd (show p∈([]:List (Addr×Obj))++[] from hp) (by simp)⟩
 have loop:codeAny (model X.prog X.w) X.A (.compLoop (.ListComp elt [⟨tg,iter,ifs,0⟩] scope pos) 0 (.ref it) (.ref D) ce) (compPost (model X.prog X.w) X.A X.xe use Qf (.ref D) s3.heap.objs.size) s4:=by
  refine TJ (λn s'=>∃i H',Inv (X.blk s3 H3 scope ce fp) [] (a_ σ (own.map (·.2))) H' s'/\tn i s'.heap/\(∀b∈fp,H' b=none)/\W i n H') ?_ m0 ⟨0,H3,I4,st4,nfp,w0⟩
  rintro n s5 ⟨i,H5,I5,st5,n5,w5⟩
  rcases turn i n H5 w5 with ⟨stop,qq⟩ |⟨go,Nx,hNx,step⟩
  ·have td:=T.done (X.blk s3 H3 scope ce fp) rfl rfl rfl hc i [] s5 _ H5 (λ_ _=>False) I5 (stat I5 n5) st5 stop;refine qY td λr s6 ⟨hr,I6⟩=>?_
   subst hr;have I7:Inv X pins σ H5 s6:=I3.zX (ch:=fp) I6.os I6.base I6.hok I6.bare λb hb=>⟨(f3 b hb).1.2.2.2.1,(f3 b hb).1.2.1,(f3 b hb).1.2.2.2.2.1,(f3 b hb).1.2.2.2.2.2⟩
   have nC:H5 s3.heap.objs.size=none:=by have z:H5 ce.locals=none:=I6.free;rw[cL]at z;exact z
   obtain⟨m,hn,_⟩:=I6.loc;have hn:s6.heap.Ns ce.locals m:=hn;rw[cL]at hn;exact hRR D s3.heap.objs.size s6 m H5 I7 qq hn (I3.jx (aJ _) nC)
  ·have ti:=T.item (X.blk s3 H3 scope ce fp) rfl rfl rfl hc i [] s5 _ H5 (λ_ _=>False) I5 (stat I5 n5) st5 go;refine qY ti λr s6 ⟨u,hr,h6⟩=>?_
   subst hr;refine qY h6 λ_ s7 ⟨x,H7,I7,r7,y7,AJ,n7⟩=>?_
   have I7':=I7.pinned (stat I7 n7) (T.obj _ _ AJ);refine qY (pg _ s7 _ H7 x u _ I7' r7 (step x H7 y7)) λ_ s8 ⟨wW,H8,I8,hw8,q8⟩=>?_
   refine qY (pt _ s8 wW H8 _ I8 q8) λb s9 ⟨H9,I9,q9⟩=>?_
   have fin:∀{s':Shared}{H':Hp},Inv (X.blk s3 H3 scope ce fp) ([]++sX fp s7.heap) wW H' s'->Nx H'->∃m,m<n/\∃i H',Inv (X.blk s3 H3 scope ce fp) [] (a_ σ (own.map (·.2))) H' s'/\tn i s'.heap/\(∀b∈fp,H' b=none)/\W i m H':=λ{s' H'} I' nx=>by
    obtain⟨m',hm,w'⟩:=hNx H' nx;have pin':∀b∈fp,∀o,s7.heap.get? b=some o->s'.heap.get? b=some o/\H' b=none:=λb hb o e=>
     let z:=I'.pin (b,o) (jI _ (jI _ (Aa hb e)))
     ⟨z.1,z.2.1⟩
    have hl:(a_ σ (own.map (·.2))).length=wW.length:=by rw[<-hw8,AH]
    refine⟨m',hm,i+1,H',(I'.wD (pins:=[])).weak hl (λj v e=>?_),T.keep _ _ _ AJ λb hb o e=>(pin' b hb o e).1,λb hb=>?_,w'⟩
    ·rw[<-hw8]at e;exact(AI e).1
    ·obtain⟨o,e,_⟩:=T.obj _ _ AJ b hb;exact(pin' b hb o e).2
   cases b with
   |false=>simp only[qD,kf]at q9 ⊢;exact fin I9 q9
   |true=>
    simp only[sH]at q9 ⊢;refine qY (pe _ s9 wW H9 _ I9 q9) λz s10 ⟨yv,H10,I10,AK,acc,TK,TM,nx⟩=>?_
    exact TH (X:=X.blk s3 H3 scope ce fp) I10 TK TM AK λs11 I11=>fin I11 nx
 exact codeAny_compStart_list loop (T.self X.A 0 _ _ _ st4 loop)
theorem iy{elt tg iter:Expr}{ifs:List Expr}{scope:Scope}{own:List (Str×Nat)}{pos:Pos}{wi:TI}{g:TG}{tt:TT}{te:TE}(hc:X.calm=true)(hN:X.N.Nodup)(hi:PI X tg iter wi)(ok:cX X.N X.env.scope scope own) (hg:∀(s:Shared)(H:Hp)(C:Addr)(cl:List (Str×Addr))(fp:θ),PG (X.blk s H scope (compEnvC scope cl C X.env) fp) tg g)(ht:∀(s:Shared)(H:Hp)(C:Addr)(cl:List (Str×Addr))(fp:θ),tL (X.blk s H scope (compEnvC scope cl C X.env) fp) ifs tt) (he:∀(s:Shared)(H:Hp)(C:Addr)(cl:List (Str×Addr))(fp:θ),PE (X.blk s H scope (compEnvC scope cl C X.env) fp) elt te)(hs:∀x,foldedSetIterable iter X.env x=pure x:=by intro _;rfl):PE X (.ListComp elt [⟨tg,iter,ifs,0⟩] scope pos) (tM wi g tt te (own.map (·.2))):=by
 intro pins s σ H Q I h;rw[eval_ListComp];refine HD hc hN I hi ok hg ht he hs h λD C s' m H' I' q hn f=>⟨m,hn,λh'' sb=>?_⟩
 obtain⟨f0,f1,f2,f3,f4,f5⟩:=f;exact⟨.ref D,H',I'.turned (t':=s'.toks) (λb o hb e=>(sb.2 b hb).trans e) f0 f1 f3 f4 f5,rfl,q⟩
theorem mZ{i:Nat}{y:Str}{py:Pos}{elt tg iter:Expr}{ifs:List Expr}{scope:Scope}{own:List (Str×Nat)}{pos spos:Pos}{wi:TI}{g:TG}{tt:TT}{te:TE}(hc:X.calm=true)(hN:X.N.Nodup)(hy:X.N[i]? =some y)(hyl:X.env.scope.names.lookup y=some .local) (hsw:swapsWith (.ListComp elt [⟨tg,iter,ifs,0⟩] scope pos) (some (.Name y py)) spos.line X.env=pure true)(hi:PI X tg iter wi)(ok:cX X.N X.env.scope scope own) (hg:∀(s:Shared)(H:Hp)(C:Addr)(cl:List (Str×Addr))(fp:θ),PG (X.blk s H scope (compEnvC scope cl C X.env) fp) tg g)(ht:∀(s:Shared)(H:Hp)(C:Addr)(cl:List (Str×Addr))(fp:θ),tL (X.blk s H scope (compEnvC scope cl C X.env) fp) ifs tt) (he:∀(s:Shared)(H:Hp)(C:Addr)(cl:List (Str×Addr))(fp:θ),PE (X.blk s H scope (compEnvC scope cl C X.env) fp) elt te)(hs:∀x,foldedSetIterable iter X.env x=pure x:=by intro _;rfl):PS X (.Assign [.Name y py] (.ListComp elt [⟨tg,iter,ifs,0⟩] scope pos) spos) (wB (tM wi g tt te (own.map (·.2))) (cW i)):=by
 intro pins s σ H D I h;rw[exec_Assign_Name_used _ _ _ _ hsw];refine ai (vL (ai ?_));show wpAny _ X.A (do let _<-comprehension (.ListComp elt [⟨tg,iter,ifs,0⟩] scope pos) scope X.env (firstIterPos [⟨tg,iter,ifs,0⟩] pos) (newList []) false (eval iter X.env) (some (assign (.Name y py) X.env))) _ _ s;have h:tM wi g tt te (own.map (·.2)) σ H (λx H1=>cW i x σ H1 D.nx):=h;refine ai (aG (HD (Qf:=λ_ s'=>SP X pins D .next s') hc hN I hi ok hg ht he hs h λL C s' m H' I' q hn f=>?_) λ_ s' hq=>aB (aB hq));show wpAny _ _ (assign (.Name y py) X.env (.ref L)) _ _ _;refine wpAny_assign_Name (F5 (v:=V.ref L) I' hN hy (.inl hyl) rfl (λs2 I2 ⟨a,sb,ha⟩=>?_) (.inr hyl));obtain⟨f0,f1,f2,f3,f4,f5⟩:=f;have haC:C≠a:=by
  rcases ha with z |z
  ·rw[z];exact f1
  ·exact λe=>f4 y a z e.symm
 refine⟨m,hn.sameBut sb haC,λh3 sb3=>?_⟩;exact⟨_,H',I2.turned (t':=s2.toks) (λb o hb e=>(sb3.2 b hb).trans e) f0 f1 f3 f4 f5,q⟩
end
section
variable{κ:Type} [DecidableEq κ]
def bR(kvs:List (κ×V))(k:κ):Option V:=(kvs.find? λkv=>decide (kv.1=k)).map (·.2)
def dM(kvs:List (κ×V))(k:κ)(v:V):List (κ×V):=if (kvs.any λkv=>decide (kv.1=k))=true then kvs.map (λkv=>if kv.1=k then (kv.1,v)else kv)else kvs++[(k,v)]
theorem gr{p:κ×V}{r:List (κ×V)}{k:κ}(e:p.1=k):bR (p::r) k=some p.2:=by simp[bR,lE,e]
theorem gu{p:κ×V}{r:List (κ×V)}{k:κ}(e:¬p.1=k):bR (p::r) k=bR r k:=by simp[bR,lE,e]
theorem qZ(k:κ):∀kvs:List (κ×V),(kvs.any λkv=>decide (kv.1=k))=(bR kvs k).isSome
 |[]=>rfl
 |p::r=>by
  rw[sI];by_cases e:p.1=k
  ·simp only[gr e,bj e,Bool.true_or,Option.isSome_some]
  ·rw[gu e,aW e,Bool.false_or];exact qZ k r
theorem HE(k j:κ)(y:V):∀kvs:List (κ×V),bR (kvs.map λkv=>if kv.1=k then (kv.1,y)else kv) j=(bR kvs j).map λx=>if j=k then y else x
 |[]=>rfl
 |p::r=>by
  have ih:=HE k j y r;rw[bx];by_cases h:p.1=k
  ·rw[ah h];by_cases e:p.1=j
   ·rw[gr (p:=(p.1,y)) e,gr e,mK,ah (e.symm.trans h)]
   ·rw[gu (p:=(p.1,y)) e,gu e,ih]
  ·rw[af h];by_cases e:p.1=j
   ·rw[gr (p:=p) e,gr e,mK,af (λz=>h (e.trans z))]
   ·rw[gu (p:=p) e,gu e,ih]
theorem HF(k j:κ)(y:V):∀kvs:List (κ×V),bR kvs k=none->bR (kvs++[(k,y)]) j=if j=k then some y else bR kvs j
 |[],_=>by
  by_cases e:k=j
  ·rw[ah e.symm];exact gr (p:=(k,y)) e
  ·rw[af (λz=>e z.symm)];exact gu (p:=(k,y)) e
 |p::r,hn=>by
  rw[Rc];have hk:¬p.1=k:=λz=>by rw[gr z]at hn;cases hn
  rw[gu hk]at hn;have ih:=HF k j y r hn;by_cases e:p.1=j
  ·rw[gr e,gr e,af (λz=>hk (e.trans z))]
  ·rw[gu e,gu e,ih]
theorem TN(kvs:List (κ×V))(k j:κ)(y:V):bR (dM kvs k y) j=if j=k then some y else bR kvs j:=by
 unfold dM;by_cases a:(kvs.any λkv=>decide (kv.1=k))=true
 ·rw[ah a,HE];rw[qZ]at a;by_cases e:j=k
  ·obtain⟨x,hx⟩:=sG.mp a;rw[ah e,e,hx,mK,ah rfl]
  ·rw[af e];cases bR kvs j with
   |none=>rfl
   |some x=>rw[mK,af e]
 ·rw[af a];refine HF k j y kvs ?_;rw[qZ]at a;cases q:bR kvs k with
  |none=>rfl
  |some x=>rw[q]at a;exact(a rfl).elim
theorem AL(kvs:List (κ×V))(k:κ)(v:V):(dM kvs k v).length<=kvs.length+1:=by
 unfold dM;split
 ·rw[aI];omega
 ·rw[a8,bT,qE];omega
theorem fA.tN{o:Option V}{u:Option Value}(r:fA o u):o.isSome=u.isSome:=by
 cases o with
 |none=>cases u with
  |none=>rfl
  |some _=>exact(show False from r).elim
 |some _=>cases u with
  |none=>exact(show False from r).elim
  |some _=>rfl
theorem KV.val{kvs:List (κ×V)}{vs:List (κ×Value)}(r:KV kvs vs)(k:κ):fA (bR kvs k) (valueAt vs k):=by
 unfold KV at r
 induction r with
 |nil=>exact True.intro
 | @cons p q ps qs h t ih=>
  obtain⟨h1,h2⟩:=h;by_cases e:p.1=k
  ·have e':q.1=k:=h1.symm.trans e;have b:valueAt (q::qs) k=some q.2:=by simp[valueAt,lE,e']
   rw[gr e,b];exact h2
  ·have e':¬q.1=k:=λz=>e (h1.trans z)
   have b:valueAt (q::qs) k=valueAt qs k:=by simp[valueAt,lE,e']
   rw[gu e,b];exact ih
theorem KV.any{kvs:List (κ×V)}{vs:List (κ×Value)}(r:KV kvs vs)(k:κ):(kvs.any λkv=>decide (kv.1=k))=vs.any λkv=>decide (kv.1=k):=by
 unfold KV at r
 induction r with
 |nil=>rfl
 |cons h t ih=>rw[sI,sI,ih,h.1]
theorem KV.repl{kvs:List (κ×V)}{vs:List (κ×Value)}(r:KV kvs vs)(k:κ){y:V}{u:Value}(ry:RelV y u):KV (kvs.map λkv=>if kv.1=k then (kv.1,y)else kv) (vs.map λkv=>if kv.1=k then (kv.1,u)else kv):=by
 unfold KV at r ⊢
 induction r with
 |nil=>exact .nil
 | @cons p q ps qs h t ih=>
  rw[bx,bx];refine .cons ?_ ih;obtain⟨h1,h2⟩:=h;by_cases e:p.1=k
  ·rw[ah e,ah (h1.symm.trans e)];exact⟨h1,ry⟩
  ·rw[af e,af (λz=>e (h1.trans z))];exact⟨h1,h2⟩
theorem KV.put{kvs:List (κ×V)}{vs:List (κ×Value)}(r:KV kvs vs)(k:κ){y:V}{u:Value}(ry:RelV y u):KV (dM kvs k y) (stored vs k u):=by
 unfold dM stored;rw[r.any k];by_cases e:(vs.any λkv=>decide (kv.1=k))=true
 ·rw[ah e,ah e];exact r.repl k ry
 ·rw[af e,af e];exact zC r ⟨rfl,ry⟩
theorem KV.length{kvs:List (κ×V)}{vs:List (κ×Value)}(r:KV kvs vs):kvs.length=vs.length:=bt r
end
theorem oP{P:Program}{w:World}{k:Key}{u:Value}(r:RelV (kV k) u):(bU P w).is k u=true:=by
 cases k with
 |inl i=>obtain⟨t,e⟩:=(show ∃t,u=Value.int i t from r);subst e;exact RR P w i t
 |inr x=>obtain⟨t,e⟩:=(show ∃t,u=Value.str x t from r);subst e;exact RS P w x t
theorem HG{P:Program}{w:World}:∀{ks:List Key}{us:ω},Vals (ks.map kV) us->ItemsAre (bU P w) ks us
 |[],_,r=>by rw[qC]at r;cases r;exact .nil
 |k::ks,_,r=>by
  rw[bx]at r;cases r with
  |cons h t=>exact .cons (oP h) (HG t)
abbrev KT(H:Hp):List (List Key×V)->List (List Key×Addr×Value)->Prop:=Paired λp q=>p.1=q.1/\H q.2.1=some (.tup (p.1.map kV))/\RelV p.2 q.2.2
theorem KT.val{H:Hp}{kvs:List (List Key×V)}{xs:List (List Key×Addr×Value)}(r:KT H kvs xs)(k:List Key):fA (bR kvs k) ((atKey xs k).map (·.2)):=by
 induction r with
 |nil=>exact True.intro
 | @cons p q ps qs h t ih=>
  obtain⟨h1,_,h2⟩:=h;by_cases e:p.1=k
  ·have e':q.1=k:=h1.symm.trans e;have b:atKey (q::qs) k=some q.2:=by simp[atKey,lE,e']
   rw[gr e,b];exact h2
  ·have e':¬q.1=k:=λz=>e (h1.trans z)
   have b:atKey (q::qs) k=atKey qs k:=by simp[atKey,lE,e']
   rw[gu e,b];exact ih
theorem KT.repl{H:Hp}{kvs:List (List Key×V)}{xs:List (List Key×Addr×Value)}(r:KT H kvs xs)(k:List Key){y:V}{u:Value}(ry:RelV y u):KT H (kvs.map λkv=>if kv.1=k then (kv.1,y)else kv) (xs.map (putAt k u)):=by
 induction r with
 |nil=>exact .nil
 | @cons p q ps qs h t ih=>
  rw[bx,bx];refine .cons ?_ ih;obtain⟨h1,h2,h3⟩:=h;unfold putAt;by_cases e:p.1=k
  ·rw[ah e,ah (h1.symm.trans e)];exact⟨h1,h2,ry⟩
  ·rw[af e,af (λz=>e (h1.trans z))];exact⟨h1,h2,h3⟩
theorem KT.put{H:Hp}{kvs:List (List Key×V)}{xs:List (List Key×Addr×Value)}(r:KT H kvs xs)(k:List Key){b:Addr}{y:V}{u:Value}(hb:H b=some (.tup (k.map kV)))(ry:RelV y u):KT H (dM kvs k y) (storedH xs k b u):=by
 have e:(kvs.any λkv=>decide (kv.1=k))=(atKey xs k).isSome:=by rw[qZ,(r.val k).tN,Rf]
 unfold dM storedH;rw[e];by_cases q:(atKey xs k).isSome=true
 ·rw[ah q,ah q];exact r.repl k ry
 ·rw[af q,af q];exact zC r ⟨rfl,hb,ry⟩
theorem KT.keeps{H H':Hp}{kvs:List (List Key×V)}{xs:List (List Key×Addr×Value)}(r:KT H kvs xs)(ht:∀b ys,H b=some (.tup ys)->H' b=some (.tup ys)):KT H' kvs xs:=Paired.cR r λ_ _ z=>⟨z.1,ht _ _ z.2.1,z.2.2⟩
section
variable{P:Program}{w:World}{H:Hp}{h:Heap}{a:Addr}
theorem HH{u:HO}(ok:cu P w H h)(e:Rd H a u):ck P w H h a u:=e.ok ok
theorem tO{kvs:List (Key×V)}(ok:cu P w H h)(e:Rd H a (.dK kvs)):kvs.length<=sizeLine/\(a==sysModules)=false/\∃vs,KV kvs vs/\h.DictOf (bU P w) a vs:=show ck P w H h a (.dK kvs) from HH ok e
theorem HI{kvs:List (Key×V)}(ok:cu P w H h)(e:H a=some (.dK kvs)):kvs.length<=sizeLine/\(a==sysModules)=false/\∃vs,KV kvs vs/\h.DictOf (bU P w) a vs:=tO ok (.inl e)
theorem oQ{ks:List Key}(ok:cu P w H h)(e:H a=some (.tup (ks.map kV))):(tupleKind (bU P w)).is h ks a:=by obtain⟨_,its,r,o,h1,h2,n,h3⟩:=(show ck P w H h a (.tup (ks.map kV)) from ok a _ e);exact⟨o,its.toArray,n,h1,h2,h3,by simpa using HG r⟩
theorem tP{kvs:List (List Key×V)}(ok:cu P w H h)(e:Rd H a (.dT kvs)):kvs.length<=sizeLine/\(a==sysModules)=false/\ ∃xs,KT H kvs xs/\h.DictOfH (tupleKind (bU P w)) a xs:=by
 obtain⟨z,y,xs,r,o,es,ep,h1,h2,h3,h4,h5⟩:=(show ck P w H h a (.dT kvs) from HH ok e);refine⟨z,y,xs,r,o,es,ep,h1,h2,h3,h4,λx hx=>?_,h5⟩;have all:∀{l:List (List Key×V)}{m:List (List Key×Addr×Value)},KT H l m->∀x∈m,(tupleKind (bU P w)).is h x.1 x.2.1:=by
  intro l m q
  induction q with
  |nil=>intro x hx;exact nomatch hx
  | @cons p q ps qs hq t ih=>
   intro x hx;rcases aX.mp hx with e |hx
   ·subst e;exact oQ ok (by rw[<-hq.1];exact hq.2.1)
   ·exact ih x hx
 exact all r x hx
theorem TQ{kvs:List (List Key×V)}(ok:cu P w H h)(e:H a=some (.dT kvs)):kvs.length<=sizeLine/\(a==sysModules)=false/\ ∃xs,KT H kvs xs/\h.DictOfH (tupleKind (bU P w)) a xs:=tP ok (.inl e)
end
def dj(H:Hp)(a:Addr)(y:V)(r:Option V):Prop:=(∃kvs k,Rd H a (.dK kvs)/\y=kV k/\r=bR kvs k)\/∃kvs k b,Rd H a (.dT kvs)/\y=.ref b/\H b=some (.tup (k.map kV))/\r=bR kvs k
def ku(H:Hp)(a:Addr)(y v:V)(H':Hp):Prop:=(∃kvs k,H a=some (.dK kvs)/\y=kV k/\kvs.length<sizeLine/\H'=upd H a (.dK (dM kvs k v)))\/ ∃kvs k b,H a=some (.dT kvs)/\y=.ref b/\H b=some (.tup (k.map kV))/\kvs.length<sizeLine/\H'=upd H a (.dT (dM kvs k v))
theorem dj.k{H:Hp}{a:Addr}{kvs:List (Key×V)}{k:Key}(e:H a=some (.dK kvs)):dj H a (kV k) (bR kvs k):=.inl ⟨kvs,k,.inl e,rfl,rfl⟩
theorem dj.t{H:Hp}{a b:Addr}{kvs:List (List Key×V)}{k:List Key}(e:H a=some (.dT kvs))(eb:H b=some (.tup (k.map kV))):dj H a (.ref b) (bR kvs k):=.inr ⟨kvs,k,b,.inl e,rfl,eb,rfl⟩
theorem ku.k{H:Hp}{a:Addr}{kvs:List (Key×V)}{k:Key}{v:V}(e:H a=some (.dK kvs))(hl:kvs.length<sizeLine):ku H a (kV k) v (upd H a (.dK (dM kvs k v))):=.inl ⟨kvs,k,e,rfl,hl,rfl⟩
theorem ku.t{H:Hp}{a b:Addr}{kvs:List (List Key×V)}{k:List Key}{v:V}(e:H a=some (.dT kvs))(eb:H b=some (.tup (k.map kV)))(hl:kvs.length<sizeLine):ku H a (.ref b) v (upd H a (.dT (dM kvs k v))):=.inr ⟨kvs,k,b,e,rfl,eb,hl,rfl⟩
section
variable{X:Cx}{pins:η}{σ:St}{H:Hp}{s:Shared}{a:Addr}{y v:V}{u r:Value}{o:Option V}{A:Around}{E:ρ}
theorem Inv.big(I:Inv X pins σ H s):sysModules<s.heap.objs.size:=by have h:mainGlobals<s.heap.objs.size:=(I.mod.glob.keeps I.bk).lt;exact vS (by decide) h
theorem TR{Q:ρ}(hu:A.units+1<cLine)(I:Inv X pins σ H s)(g:dj H a y (some v))(ry:RelV y u)(h:∀w' s',Inv X pins σ H s'->RelV v w'->Q w' s'):wpAny (model X.prog X.w) A (getItem (.ref a) u) Q E s:=by
 rcases g with ⟨kvs,k,e,ey,l⟩ |⟨kvs,k,b,e,ey,eb,l⟩
 ·subst ey;obtain⟨z,hd,vs,rel,dd⟩:=tO I.hok e;obtain⟨w',hw,rw'⟩:=fA.some_of (v:=v) (o:=valueAt vs k) (by rw[l];exact rel.val k);exact wpAny_getItem_of (oP ry) dd.mapOf hw (h w' _ (I.tok _) rw')
 ·subst ey;cases(show u=Value.ref b from ry);obtain⟨z,hd,xs,rel,dd⟩:=tP I.hok e;obtain⟨w',hw,rw'⟩:=fA.some_of (v:=v) (o:=(atKey xs k).map (·.2)) (by rw[l];exact rel.val k);obtain⟨p,hp,hp2⟩:=cF.mp hw;refine wpAny_getItem_heap (vT hu) (oQ I.hok eb) dd hp ?_;rw[hp2];exact h w' _ (I.tok _) rw'
theorem TU{Q:ρ}(hu:A.units+1<cLine)(I:Inv X pins σ H s)(g:dj H a y o)(ry:RelV y u)(h:∀s',Inv X pins σ H s'->Q (.bool o.isSome) s'):wpAny (model X.prog X.w) A (compareOp .In u (.ref a)) Q E s:=by
 rcases g with ⟨kvs,k,e,ey,l⟩ |⟨kvs,k,b,e,ey,eb,l⟩
 ·subst ey;obtain⟨z,hd,vs,rel,dd⟩:=tO I.hok e;refine wpAny_in_of (oP ry) hd dd.mapOf ?_;rw[<-(rel.val k).tN,<-l];exact h _ (I.tok _)
 ·subst ey;cases(show u=Value.ref b from ry);obtain⟨z,hd,xs,rel,dd⟩:=tP I.hok e;refine wpAny_in_heap (vT hu) (oQ I.hok eb) hd dd ?_;have q:=(rel.val k).tN;rw[Rf]at q;rw[<-q,<-l];exact h _ (I.tok _)
theorem TV{Q:ρ}(hu:A.units+1<cLine)(I:Inv X pins σ H s)(g:dj H a y o)(ry:RelV y u)(h:∀s',Inv X pins σ H s'->Q (.bool (!o.isSome)) s'):wpAny (model X.prog X.w) A (compareOp .NotIn u (.ref a)) Q E s:=by
 rcases g with ⟨kvs,k,e,ey,l⟩ |⟨kvs,k,b,e,ey,eb,l⟩
 ·subst ey;obtain⟨z,hd,vs,rel,dd⟩:=tO I.hok e;refine wpAny_notIn_of (oP ry) hd dd.mapOf ?_;rw[<-(rel.val k).tN,<-l];exact h _ (I.tok _)
 ·subst ey;cases(show u=Value.ref b from ry);obtain⟨z,hd,xs,rel,dd⟩:=tP I.hok e;refine wpAny_notIn_heap (vT hu) (oQ I.hok eb) hd dd ?_;have q:=(rel.val k).tN;rw[Rf]at q;rw[<-q,<-l];exact h _ (I.tok _)
theorem AM{h':Heap}{t':Nat}{ob:HO}(I:Inv X pins σ H s)(mu:sS (H a))(hs:Heap.SameBut a s.heap h')(he:∃q,h'.get? a=some q)(new:ck X.prog X.w (upd H a ob) h' a ob):Inv X pins σ (upd H a ob) {s with heap:=h',toks:=t'}:=I.write (x:=a) (e:=a) mu (.inl rfl) (λb q hb z=>(hs.2 b hb).trans z) he new
theorem HJ{P:Program}{w:World}{H':Hp}{h':Heap}{kvs:List (Key×V)}{vs:List (Key×Value)}(z:kvs.length<=sizeLine)(hd:(a==sysModules)=false)(rel:KV kvs vs)(dd:h'.DictOf (bU P w) a vs):ck P w H' h' a (.dK kvs):=⟨z,hd,vs,rel,dd⟩
theorem TX{H':Hp}{Q:Unit->Shared->Prop}(hu:A.units+1<cLine)(I:Inv X pins σ H s)(g:ku H a y v H')(ry:RelV y u)(rv:RelV v r)(h:∀s',Inv X pins σ H' s'->Q () s'):wpAny (model X.prog X.w) A (setItem (.ref a) u r) Q E s:=by
 rcases g with ⟨kvs,k,e,ey,l,eH⟩ |⟨kvs,k,b,e,ey,eb,l,eH⟩
 ·subst ey eH;obtain⟨z,hd,vs,rel,dd⟩:=HI I.hok e;have hz:vs.length<=sizeLine:=by rw[<-rel.length];exact z
  have hl:(dM kvs k v).length<=sizeLine:=by have:=AL kvs k v;omega
  refine wpAny_setItem_pairs (hsz:=hz) (oP ry) dd λh' oS hs=>h _ ?_
  have he:∃q,h'.get? a=some q:=let ⟨q,_,_,hq,_⟩:=oS;⟨q,hq⟩
  exact AM I (by rw[e];exact True.intro) hs he (HJ hl hd (rel.put k rv) oS)
 ·subst ey eH;cases(show u=Value.ref b from ry);obtain⟨z,hd,xs,rel,dd⟩:=TQ I.hok e;have hz:xs.length<=sizeLine:=by rw[<-bt rel];exact z
  have hl:(dM kvs k v).length<=sizeLine:=by have:=AL kvs k v;omega
  refine wpAny_setItem_heap (hsz:=hz) (vT hu) (oQ I.hok eb) dd λh' oS hs=>h _ ?_
  obtain⟨q,es,ep,hq,h2,h3,h4,_,h5⟩:=oS;refine AM I (by rw[e];exact True.intro) hs ⟨q,hq⟩ ⟨hl,hd,_,(rel.put k eb rv).keeps λc ys ec=>?_,q,es,ep,hq,h2,h3,h4,h5⟩;rw[ay (bg ec e (λz=>nomatch z))];exact ec
end
def AN(i:Expr):Prop:=∀ov iv,subscripted i false ov iv=operate [ov,iv] (getItem ov iv)
theorem HK{prog:Program}{w:World}{A:Around}{E:ρ}{s:Shared}{env:Env}{value slice:Expr}{pos:Pos}{T id:String}{Q:ρ} (hl:typeLookup (.type T) "__getitem__"=pure (some (.builtin id)))(hs:AN slice) (h:wpAny (model prog w) A (eval value env) (λo s₁=>wpAny (model prog w) A (eval slice env) (λi s₂=>s₂.TypeIs o T/\wpAny (model prog w) A (getItem o i) Q E s₂) E s₁) E s):wpAny (model prog w) A (eval (.Subscript value slice pos) env) Q E s:=by
 refine Subscript_ (di h (λo s₁ h₁=>di h₁ (λi s₂ h₂=>?_) λ_ _ x=>x) λ_ _ x=>x);obtain⟨hT,h₂⟩:=h₂;unfold subscriptTail;refine ai ?_;rw[getitemInPython_of_ne hT.not_modules];refine ai (wpAny_specialOf hT hl ?_);have fin:wpAny (model prog w) A (subscripted slice false o i) (λr s₃=>wpAny (model prog w) A (letTemporaryGo value o r>>=λ_=>pure r) Q E s₃) E s₂:=by rw[hs o i];exact wpAny_operating (di h₂ (λr s₃ h₃=>ai (wpAny_letTemporaryGo (aB h₃))) λ_ _ x=>x)
 first
  |exact aB (ai fin)
  |exact ai (aB (ai fin))
  |exact ai fin
theorem TY{X:Cx}{pins:η}{σ:St}{H:Hp}{s:Shared}{a:Addr}{y:V}{o:Option V}(I:Inv X pins σ H s)(g:dj H a y o):s.TypeIs (.ref a) "dict":=by
 rcases g with ⟨kvs,k,e,_,_⟩ |⟨kvs,k,b,e,_,_,_⟩
 ·obtain⟨_,_,vs,_,dd⟩:=tO I.hok e;exact dd.typeIs
 ·obtain⟨_,_,xs,_,dd⟩:=tP I.hok e;exact dd.typeIs
inductive HM(Q:VK)(x:V)(y:V)(H2:Hp):Prop
 |mk a v:x=.ref a->dj H2 a y (some v)->Q v H2->HM Q x y H2
def TZ(td ty:TE):TE:=λσ H Q=>td σ H λx H1=>ty σ H1 λy H2=>HM Q x y H2
inductive HN(Q:VK)(y:V)(x:V)(H2:Hp):Prop
 |mk a o:x=.ref a->dj H2 a y o->Q (.bl o.isSome) H2->HN Q y x H2
def T1(ty td:TE):TE:=λσ H Q=>ty σ H λy H1=>td σ H1 λx H2=>HN Q y x H2
inductive HP(Q:VK)(y:V)(x:V)(H2:Hp):Prop
 |mk a o:x=.ref a->dj H2 a y o->Q (.bl (!o.isSome)) H2->HP Q y x H2
def T2(ty td:TE):TE:=λσ H Q=>ty σ H λy H1=>td σ H1 λx H2=>HP Q y x H2
inductive HQ(D:Ends)(σ:St)(v:V)(x:V)(y:V)(H3:Hp):Prop
 |mk a H4:x=.ref a->ku H3 a y v H4->D.nx σ H4->HQ D σ v x y H3
def T3(td ty tv:TE):TS:=λD σ H=>tv σ H λv H1=>td σ H1 λx H2=>ty σ H2 λy H3=>HQ D σ v x y H3
section
variable{X:Cx}{o i e value:Expr}{pos pos' tpos:Pos}{td ty tv:TE}
theorem tQ(hu:X.A.units+1<cLine)(ho:PE X o td)(hi:PE X i ty)(hs:AN i):PE X (.Subscript o i pos) (TZ td ty):=by intro pins s σ H Q I h;refine HK PySem.F.slot_dict_getitem.lookup hs (aG (ho pins s σ H _ I h) λu s1 ⟨x,H1,I1,rx,q1⟩=>aG (hi pins s1 σ H1 _ I1 q1) λiv s2 ⟨y,H2,I2,ry,a,v,ex,g,q2⟩=>?_);subst ex;obtain rfl:u=Value.ref a:=rx;exact⟨TY I2 g,TR hu I2 g ry λw' s3 I3 rw'=>⟨v,H2,I3,rw',q2⟩⟩
theorem wX(hu:X.A.units+1<cLine)(hi:PE X i ty)(ho:PE X o td):PC X .In i o (T1 ty td):=by
 intro pins s σ H Q I h;refine aG (hi pins s σ H _ I h) λiv s1 ⟨y,H1,I1,ry,q1⟩=>aG (ho pins s1 σ H1 _ I1 q1) λu s2 ⟨x,H2,I2,rx,a,ov,ex,g,q2⟩=>?_
 subst ex;obtain rfl:u=Value.ref a:=rx;exact TU hu I2 g ry λs3 I3=>⟨.bl ov.isSome,H2,I3,rfl,q2⟩
theorem AO(hu:X.A.units+1<cLine)(hi:PE X i ty)(ho:PE X o td):PC X .NotIn i o (T2 ty td):=by
 intro pins s σ H Q I h;refine aG (hi pins s σ H _ I h) λiv s1 ⟨y,H1,I1,ry,q1⟩=>aG (ho pins s1 σ H1 _ I1 q1) λu s2 ⟨x,H2,I2,rx,a,ov,ex,g,q2⟩=>?_
 subst ex;obtain rfl:u=Value.ref a:=rx;exact TV hu I2 g ry λs3 I3=>⟨.bl (!ov.isSome),H2,I3,rfl,q2⟩
theorem wY(hu:X.A.units+1<cLine)(ho:PE X o td)(hi:PE X i ty)(hv:PE X value tv)(hs:swapsWith value (some (.Subscript o i pos')) pos.line X.env=pure false):PS X (.Assign [.Subscript o i pos'] value pos) (T3 td ty tv):=by
 intro pins s σ H D I h;refine wpAny_Assign_Subscript (aG (hv pins s σ H _ I h) λr s1 ⟨v,H1,I1,rv,q1⟩=>aG (ho pins s1 σ H1 _ I1 q1) λu s2 ⟨x,H2,I2,rx,q2⟩=>aG (hi pins s2 σ H2 _ I2 q2) λiv s3 ⟨y,H3,I3,ry,a,H4,ex,g,q3⟩=>?_) hs;subst ex;obtain rfl:u=Value.ref a:=rx;exact TX hu I3 g ry rv λs4 I4=>⟨σ,H4,I4,q3⟩
end
theorem HR{P:Program}{w:World}{H:Hp}(h:Heap)(hb:sysModules<h.objs.size):ck P w H (h.push {cls:=.type "dict",data:=.dict #[]}) h.objs.size (.dK []):=⟨bS _,nV.mpr (cq (bQ hb)),[],.nil,Heap.DictOf.new h⟩
theorem T4{P:Program}{w:World}{H:Hp}(h:Heap)(hb:sysModules<h.objs.size):ck P w H (h.push {cls:=.type "dict",data:=.dict #[]}) h.objs.size (.dT []):=⟨bS _,nV.mpr (cq (bQ hb)),[],.nil,_, #[],0,cw _ rfl,⟨rfl,rfl,rfl⟩,rfl,rfl,zD⟩
def T6:TE:=λ_ H Q=>∀p,H p=none->Q (.ref p) (upd H p (.dK []))
def T7:TE:=λ_ H Q=>∀p,H p=none->Q (.ref p) (upd H p (.dT []))
section
variable{X:Cx}{pos:Pos}
theorem T8:PE X (.Dict [] [] pos) T6:=λpins s σ H Q I h=>wpAny_Dict_empty ⟨.ref s.heap.objs.size,_,I.laid (a:=s.heap.objs.size) (o:=.dK []) (t':=s.toks) (λ_ _ q=>bu _ q) (aJ _) (HR s.heap I.big),rfl,h _ (I.hok.fresh (aJ _))⟩
theorem HS:PE X (.Dict [] [] pos) T7:=λpins s σ H Q I h=>wpAny_Dict_empty ⟨.ref s.heap.objs.size,_,I.laid (a:=s.heap.objs.size) (o:=.dT []) (t':=s.toks) (λ_ _ q=>bu _ q) (aJ _) (T4 s.heap I.big),rfl,h _ (I.hok.fresh (aJ _))⟩
end
def AQ:List (TE×TE)->St->Hp->(List (V×V)->Hp->Prop)->Prop
 |[],_,H,Q=>Q [] H
 |(tk,tv)::r,σ,H,Q=>tk σ H λx H1=>tv σ H1 λy H2=>AQ r σ H2 λps H3=>Q ((x,y)::ps) H3
abbrev VV:List (V×V)->List (Value×Value)->Prop:=Paired λp q=>RelV p.1 q.1/\RelV p.2 q.2
def wZ(X:Cx)(pos:Pos)(keys:List (Option Expr))(values:List Expr)(trs:List (TE×TE)):Prop:=∀(pins:η)(s:Shared)(σ:St)(H:Hp)(Q:List (V×V)->Hp->Prop),Inv X pins σ H s->AQ trs σ H Q->wpAny (model X.prog X.w) X.A (evalPairs (pairTrees keys values X.env pos)) (λvs s'=>∃ps H',Inv X pins σ H' s'/\VV ps vs/\Q ps H') X.xe s
theorem T9{X:Cx}{pos:Pos}:wZ X pos [] [] []:=λpins s σ H Q I h=>pairTrees_nil_walk ⟨[],H,I,.nil,h⟩
theorem T_{X:Cx}{pos:Pos}{k v:Expr}{ks:List (Option Expr)}{vs:List Expr}{tk tv:TE}{trs:List (TE×TE)}(hk:PE X k tk)(hv:PE X v tv)(hr:wZ X pos ks vs trs):wZ X pos (some k::ks) (v::vs) ((tk,tv)::trs):=λpins s σ H Q I h=>
 pairTrees_cons_walk (aG (hk pins s σ H _ I h) λu s1 ⟨x,H1,I1,rx,q1⟩=>aG (hv pins s1 σ H1 _ I1 q1) λw2 s2 ⟨y,H2,I2,ry,q2⟩=>aG (hr pins s2 σ H2 _ I2 q2) λws s3 ⟨ps,H3,I3,rel,q3⟩=>⟨(x,y)::ps,H3,I3,.cons ⟨rx,ry⟩ rel,q3⟩)
def jz(kvs more:List (Key×V)):List (Key×V):=more.foldl (λacc kv=>dM acc kv.1 kv.2) kvs
theorem KV.merge:∀{more:List (Key×V)}{rs:List (Key×Value)}{kvs:List (Key×V)}{vs:List (Key×Value)},KV more rs->KV kvs vs->KV (jz kvs more) (merged vs rs):=by
 intro more rs kvs vs r;unfold KV at r
 induction r generalizing kvs vs with
 |nil=>intro q;exact q
 | @cons p q ps qs h t ih=>
  intro r0;have e:KV (dM kvs p.1 p.2) (stored vs q.1 q.2):=by have:=r0.put p.1 h.2;rw[<-h.1];exact this
  exact ih e
theorem AR:∀(more kvs:List (Key×V)),(jz kvs more).length<=kvs.length+more.length
 |[],kvs=>by show kvs.length<=kvs.length+0;omega
 |p::r,kvs=>by have h1:=AR r (dM kvs p.1 p.2);have h2:=AL kvs p.1 p.2;show(jz (dM kvs p.1 p.2) r).length<=_;rw[bT];omega
theorem HU{P:Program}{w:World}:∀{kvs:List (Key×V)}{ws:List (Value×Value)},VV (kvs.map λkv=>(kV kv.1,kv.2)) ws->∃rs,Carries (bU P w) ws rs/\KV kvs rs
 |[],_,r=>by rw[qC]at r;cases r;exact⟨[],True.intro,.nil⟩
 |p::kvs,_,r=>by
  rw[bx]at r;cases r with
  | @cons a b as bs h t=>obtain⟨rs,c,q⟩:=HU (P:=P) (w:=w) t;obtain⟨b1,b2⟩:=b;exact⟨(p.1,b2)::rs,⟨oP h.1,rfl,c⟩,.cons ⟨rfl,h.2⟩ q⟩
def Ua(trs:List (TE×TE)):TE:=λσ H Q=>∀p,H p=none->AQ trs σ (upd H p (.dK [])) λps H2=>H2 p=some (.dK [])/\∃kvs:List (Key×V),ps=kvs.map (λkv=>(kV kv.1,kv.2))/\kvs.length<=15/\Q (.ref p) (upd H2 p (.dK (jz [] kvs)))
theorem Ub{X:Cx}{pos:Pos}{keys:List (Option Expr)}{values:List Expr}{trs:List (TE×TE)}(h:wZ X pos keys values trs)(hall:keys.all (·.isSome)=true)(hl:keys.length=values.length)(h0:keys≠[]) (h15:keys.length<=15):PE X (.Dict keys values pos) (Ua trs):=by
 intro pins s σ H Q I q;have hn:=I.hok.fresh (aJ s.heap.objs.size);have I1:=I.laid (a:=s.heap.objs.size) (o:=.dK []) (h':=s.heap.push {cls:=.type "dict",data:=.dict #[]}) (t':=s.toks) (λ_ _ q=>bu _ q) (aJ _) (HR s.heap I.big);refine wpAny_Dict_walk (knd:=bU X.prog X.w) hall hl h0 h15 (aG (h pins _ σ _ _ I1 (q _ hn)) λws s2 ⟨ps,H2,I2,rel,e,kvs,ep,lk,q2⟩=>?_);subst ep;obtain⟨rs,c,rk⟩:=HU (P:=X.prog) (w:=X.w) rel;obtain⟨z,hd,vs0,r0,dd⟩:=HI I2.hok e;cases r0;refine⟨rs,c,dd,λh' oS hs=>⟨.ref s.heap.objs.size,_,?_,rfl,q2⟩⟩;have hz:(jz [] kvs).length<=sizeLine:=by have h1:=AR kvs [];rw[qE]at h1;rw[aZ];omega
 have he:∃q,h'.get? s.heap.objs.size=some q:=let ⟨q,_,_,hq,_⟩:=oS;⟨q,hq⟩
 exact AM I2 (by rw[e];exact True.intro) hs he (HJ hz hd (rk.merge .nil) oS)
theorem Uc:typeLookup (.type "list") "keys"=pure none:=am_miss_of_fast (by first |decide+kernel |rfl)
theorem HV:entryFor table "dict.update.loop"=some Builtin.«dict.update.loop»:=entryFor_of_tree (by kernel_rfl)
theorem tR:plainId "dict.update.loop"=true:=by decide+kernel
section
variable{prog:Program}{w:World}{A:Around}{E:ρ}
theorem Ud{s:Shared}{a:Addr}{o:Obj}{xs:Array Value}{k:Nat}{Q:Option Value->Shared->Prop}(hx:s.heap.get? a=some o)(hc:o.cls=.type "list")(hdat:o.data=.seq xs k)(hd:o.dict=none)(hA:A.handled=none) (h:∀h' tk,(∀b ob,s.heap.get? b=some ob->h'.get? b=some ob)->Q none {s with heap:=h',toks:=tk}):wpAny (model prog w) A (getAttr? (.ref a) "keys") Q E s:=by
 obtain⟨c,dct,dat,sl⟩:=o;simp only at hc hdat hd;subst hc hdat hd;obtain⟨hp,g,d,tk,os⟩:=s;have hT:∀tk',(⟨hp,g,d,tk',os⟩:Shared).TypeIs (.ref a) "list":=λ_=>⟨_,hx,rfl⟩
 have hmiss:=Uc;have hname:(["__module__","__name__","__qualname__","__doc__","__annotations__"]:List Str).contains "keys"=false:=by decide+kernel
 have hsz:("keys" :Str).length+100<=sizeLine:=by first |size_fits |decide+kernel
 have f1:=sub_AttributeError;have f3:=Rg.lookup;have f4:=Rg.bind (.ref a);have f5:=am_list_getattr_none;unfold getAttr? getAttrBy? getAttrBy
 repeat (any_goals (first |assumption |exact hT _ |((with_reducible show wpAny _ _ (call (Value.builtin "list.__getattribute__") _ _) _ _ _);refine oa Rg (hT _) am_entry_list_getattribute (PySem.F.args_list_getattribute_2 _ _) (meets_getattribute_miss_list a xs k sl "keys" _ hmiss hname hsz) ⟨hx,hA,λh' tk' e hx'=>?_⟩) |wp_step))
 obtain⟨t',u',he⟩:=hx'.there;show wpAny _ _ (getattributeRaised _ _ _ _ _ _ _) _ _ _;unfold getattributeRaised
 repeat (any_goals (first |assumption |wp_step))
 all_goals first |exact h _ _ hx'.keeps |(dsimp only;repeat (any_goals (first |assumption |exact h _ _ hx'.keeps |wp_step)))
theorem HW{R:Result->Shared->Prop}{S I l:Addr}{items:Array Value}{res:Value}(hh:A.handled=none)(hlI:l≠I)(hSI:S≠I)(hSl:S≠l):∀(rest:List (Key×Value))(i:Nat)(acc:List (Key×Value))(ix:Int)(t:Tok)(s:Shared),items.size=i+rest.length->acc.length+rest.length<=sizeLine->(∀(j:Nat)(q:Key×Value),rest[j]? =some q->∃(b:Addr)(u:Value),items[i+j]? =some (.ref b)/\b≠S/\b≠I/\IsTup s.heap b #[u,q.2]/\lH q.1 u=true)->s.heap.IsListIter I l i->s.heap.IsList l items->s.heap.DictOf (bU prog w) S acc->(∀h' tk,h'.DictOf (bU prog w) S (merged acc rest)->(∀b o,b≠S->b≠I->s.heap.get? b=some o->h'.get? b=some o)->R (.ok (.ret res)) {s with heap:=h',toks:=tk})->codeAny (model prog w) A (.builtin "dict.update.loop" ⟨[.ref S,.ref I,.int ix t,res],[]⟩) R s
 |[],i,acc,ix,t,s,hsz,hln,ht,hit,hl,hm,hR=>by refine qF HV ?_;rw[sM tR _];show wpAny _ A.in1 (pyNext (.ref I)>>=_) _ _ s;refine ai (wpAny_pyNext_list_end (A:=A.in1) hh hit hl (by first |exact zE (nZ hsz) |(simp at hsz;simp;omega)) λh' he=>?_);show wpAny _ A.in1 (Builtin.Dict.addKeywords S []>>=_) _ _ _;refine ai (aB (aB ?_));exact hR h' s.toks (hm.extBut he hSI) λb o _ hb e=>he b o hb e
 |q::rest,i,acc,ix,t,s,hsz,hln,ht,hit,hl,hm,hR=>by
  obtain⟨b,u,hb,hbS,hbI,htup,hk⟩:=ht 0 q rfl;rw[bT]at hsz hln;refine qF HV ?_;rw[sM tR _];show wpAny _ A.in1 (pyNext (.ref I)>>=_) _ _ s;refine ai (wpAny_pyNext_list_item (x:=.ref b) hit hl (by simpa using hb) λh1 Ue hs1=>?_);have ht1:IsTup h1 b #[u,q.2]:=htup.extBut hs1.extBut hbI;have hl1:h1.IsList l items:=hl.extBut hs1.extBut hlI;have hm1:h1.DictOf (bU prog w) S acc:=hm.extBut hs1.extBut hSI;obtain⟨o,ho,hc,n,hd⟩:=id ht1;show wpAny _ A.in1 (holding [Value.ref b] _>>=_) _ _ _;refine ai (jn ?_);refine ai (wpAny_tryCatch ?_);unfold Builtin.Dict.pairItems;refine ai (vR (T:="tuple") ⟨o,ho,hc⟩ ?_);rw[ah (by first |decide |rfl |simp)];refine ai (wpAny_seqItems ho hd (aB ?_));show wpAny _ A.in1 (holding [u,q.2] (dictSet S u q.2)) _ _ _;refine jn (wpAny_dictSet_pairs (knd:=bU prog w) (k:=q.1) hk hm1 (λh2 hm2 hs2=>?_) (by omega));refine aB ⟨qG tR _,HW (items:=items) hh hlI hSI hSl rest (i+1) (stored acc q.1 q.2) (ix+1) 0 _ (show items.size=i+1+rest.length by omega) ?_ (λj q' e=>?_) ?_ ?_ hm2 λh' tk hd' k=>?_⟩
  ·have z:=stored_length_le acc q.1 q.2;omega
  ·obtain⟨b',u',hb',HX,HY,htup',hk'⟩:=ht (j+1) q' (by simpa using e);refine⟨b',u',?_,HX,HY,(htup'.extBut hs1.extBut HY).extBut hs2.extBut HX,hk'⟩;rw[show i+1+j=i+(j+1) by omega];exact hb'
  ·exact Ue.at λo' e=>hs2.extBut I o' (cq hSI) e
  ·exact hl1.extBut hs2.extBut (cq hSl)
  ·exact hR h' tk hd' λc oc h3 h4 e=>k c oc h3 h4 (hs2.extBut c oc h3 (hs1.extBut c oc h4 e))
theorem Ug{s:Shared}{l:Addr}{ol:Obj}{items:Array Value}{n:Nat}{prs:List (Key×Value)}{Q:ρ}(hh:A.handled=none)(hl:s.heap.get? l=some ol)(hc:ol.cls=.type "list")(hd:ol.dict=none) (hdat:ol.data=.seq items n)(hsz:items.size=prs.length)(hln:prs.length<=sizeLine) (ht:∀(j:Nat)(q:Key×Value),prs[j]? =some q->∃(b:Addr)(u:Value),items[j]? =some (.ref b)/\IsTup s.heap b #[u,q.2]/\lH q.1 u=true) (h:∀h' tk,h'.DictOf (bU prog w) s.heap.objs.size (merged [] prs)->(∀b o,s.heap.get? b=some o->h'.get? b=some o)->Q (.ref s.heap.objs.size) {s with heap:=h',toks:=tk}):wpAny (model prog w) A (call (.type "dict") [.ref l]) Q E s:=by
 refine callType_codes (Q₁:=λobj s₁=>obj=.ref s.heap.objs.size/\s₁= {s with heap:=s.heap.push {cls:=.type "dict",data:=.dict #[]}}) PySem.F.kt_called_dict (PySem.F.kt_typeCall_dict_1 _) PySem.F.entry_dict_init (kt_code_dict_new _ ⟨rfl,rfl⟩) ?_
 rintro obj s₁ ⟨rfl,rfl⟩
 have hnew:(s.heap.push {cls:=.type "dict",data:=.dict #[]}).DictOf (bU prog w) s.heap.objs.size []:=Heap.DictOf.new s.heap;have k0:∀b o,s.heap.get? b=some o->(s.heap.push {cls:=.type "dict",data:=.dict #[]}).get? b=some o:=λb o e=>bu _ e
 refine⟨hnew.typeIs,PySem.F.args_dict_init_2 _ _,?_⟩;unfold Builtin.«dict.__init__»;refine ai ?_;unfold Builtin.Dict.selfAndRest;refine ai (wpAny_notOrdered_dict hnew.typeIs ?_);show wpAny _ _ (pure (s.heap.objs.size,[Value.ref l])) _ _ _;refine aB ?_;show wpAny _ _ (Builtin.Dict.updateFrom "dict.__init__" s.heap.objs.size (.ref l) [] .none) _ _ _;unfold Builtin.Dict.updateFrom;refine ai (vR (T:="list") ⟨ol,k0 _ _ hl,hc⟩ ?_);rw[ah (by first |decide |rfl |simp)];refine ai (Ud (k0 _ _ hl) hc hdat hd hh λh1 tk1 hk1=>?_);rw[ah (show(none:Option Value).isNone=true from rfl)];refine ai (vU ?_);have hl1:h1.IsList l items:=⟨ol,hk1 _ _ (k0 _ _ hl),hc,n,hdat⟩;have oU:s.heap.objs.size<h1.objs.size:=by have e:(s.heap.push {cls:=.type "dict",data:=.dict #[]}).get? s.heap.objs.size=some {cls:=.type "dict",data:=.dict #[]}:=cw _ rfl;exact a7 (hk1 _ _ e)
 refine ai (Fu hl1 ?_);have k2:∀b o,h1.get? b=some o->(h1.push {cls:=.type "list_iterator",data:=.fields #[.ref l,.int 0 0]}).get? b=some o:=λb o e=>bu _ e
 have hlt:l<s.heap.objs.size:=a7 hl;have key:=HW (prog:=prog) (w:=w) (A:=A.in1) (R:=wants (λr s₂=>r=.none/\Q (.ref s.heap.objs.size) s₂) E) (S:=s.heap.objs.size) (I:=h1.objs.size) (l:=l) (items:=items) (res:=Value.none) hh
  (bQ (vS hlt oU)) (bQ oU) (mG hlt) prs 0 [] 0 0
  {s with heap:=h1.push {cls:=.type "list_iterator",data:=.fields #[.ref l,.int 0 0]},toks:=tk1} (by rw[hsz,og]) (by rw[qE,og];exact hln)
  (λj q e=>by obtain⟨b,u,e1,e2,e3⟩:=ht j q e;have hb:b<s.heap.objs.size:=e2.lt;exact⟨b,u,by rw[og];exact e1,bQ hb,bQ (vS hb oU),e2.keeps λc o z=>k2 _ _ (hk1 _ _ (k0 _ _ z)),e3⟩)
  ⟨_,cw _ rfl,rfl,rfl⟩ (hl1.at λo e=>k2 _ _ e) ((hnew.at λo e=>hk1 _ _ e).at λo e=>k2 _ _ e)
  (λh' tk hd' k=>⟨rfl,h h' tk hd' λb o e=>k b o (bQ (a7 e)) (bQ (vS (a7 e) oU)) (k2 _ _ (hk1 _ _ (k0 _ _ e)))⟩)
 first
  |exact aB ⟨qG tR _,key⟩
  |exact ai (aB (aB ⟨qG tR _,key⟩))
end
section
variable{X:Cx}
theorem HZ{pins:η}{σ:St}{H:Hp}{s:Shared}(I:Inv X pins σ H s):∀{ps:θ}{kvs:List (Key×V)},Paired (λp kv=>aV X.K H p [kV kv.1,kv.2]) ps kvs->∃prs:List (Key×Value),KV kvs prs/\prs.length=ps.length/\∀(j:Nat)(q:Key×Value),prs[j]? =some q->∃(b:Addr)(u:Value),ps[j]? =some b/\IsTup s.heap b #[u,q.2]/\lH q.1 u=true
 |_,_,.nil=>⟨[],.nil,rfl,λj q e=>by simp at e⟩
 |_,_,.cons (a:=p) (b:=kv) h t=>by
  obtain⟨prs,r,hl,hp⟩:=HZ I t;obtain⟨its,rv,ht,_⟩:=I.tuple h;obtain⟨u,y,ei,ru,ry⟩:=vals2 rv;subst ei;refine⟨(kv.1,y)::prs,.cons ⟨rfl,ry⟩ r,by rw[bT,bT,hl],λj q e=>?_⟩;cases j with
  |zero=>have e':(kv.1,y)=q:=b_ e;subst e';exact⟨p,u,rfl,ht,oP (P:=X.prog) (w:=X.w) ru⟩
  |succ j=>obtain⟨b,u',e1,e2,e3⟩:=hp j q (by simpa using e);exact⟨b,u',by simpa using e1,e2,e3⟩
theorem AS:∀{ps:θ}{us:ω},Vals (ps.map V.ref) us->us=ps.map Value.ref
 |[],us,r=>by rw[qC]at r;cases r;rfl
 |p::ps,us,r=>by
  rw[bx]at r;cases r with
  |cons h t=>cases h;rw[bx,<-AS t]
theorem Uh(hcalm:X.calm=true):ij X (.type "dict") (λxs H Q=>∃(a:Addr)(ps:θ)(kvs:List (Key×V)),xs=[.ref a]/\aj X.K H a (ps.map V.ref)/\Paired (λp kv=>aV X.K H p [kV kv.1,kv.2]) ps kvs/\ ∀p,H p=none->Q (.ref p) (upd H p (.dK (jz [] kvs)))):=by
 intro pins s σ H xs us Q I r q;obtain⟨a,ps,kvs,ex,hq,hp,q⟩:=q;subst ex;obtain⟨u,eu,rx⟩:=vals1 r;subst eu;cases rx;obtain⟨its,rv,pl,hz⟩:=I.list hq;have ei:=AS rv;subst ei;rw[aI]at hz;obtain⟨prs,rel,hl,hpr⟩:=HZ I hp;obtain⟨o,n,ho,hc,hd,hdat⟩:=pl;refine Ug (prs:=prs) (I.ok.hd hcalm) ho hc hd hdat (by simp[hl]) (by rw[hl];exact hz) (λj q' e=>?_) λh' tk hd' k=>?_
 ·obtain⟨b,u,e1,e2,e3⟩:=hpr j q' e;exact⟨b,u,by simp[e1],e2,e3⟩
 ·have hm:(s.heap.objs.size==sysModules)=false:=nV.mpr (mG I.big);have hlen:(jz [] kvs).length<=sizeLine:=by
   refine bE (AR kvs []) ?_;rw[qE,og,rel.length,hl];exact hz
  exact⟨.ref s.heap.objs.size,upd H s.heap.objs.size (.dK (jz [] kvs)),I.laid (t':=tk) k (aJ _) (show ck X.prog X.w _ _ _ (.dK (jz [] kvs)) from ⟨hlen,hm,merged [] prs,KV.merge rel .nil,hd'⟩),rfl,q _ (I.hok.fresh (aJ _))⟩
end
section
variable{X:Cx}{pins:η}{σ:St}{H:Hp}{s:Shared}{h':Heap}
theorem Inv.AU{t':Nat}{ch:θ}(I:Inv X pins σ H s)(k:∀b o,b ∉ ch->s.heap.get? b=some o->h'.get? b=some o)(hf:∀b∈ch,fD X pins H b):Inv X pins σ H {s with heap:=h',toks:=t'}:=by
 have mR:∀b u,H b=some u->b ∉ ch:=λb u e z=>by have q:=(hf b z).1;rw[q]at e;cases e
 refine I.step (g':=s.gens) (d':=s.drawn) (ch:=ch) (λb hb=>⟨(hf b hb).2.2.2.1,(hf b hb).2.1,(hf b hb).2.2.2.2.1,(hf b hb).2.2.2.2.2⟩) (λb o _ _ hc e _=>k b o hc e) (λb o _ _ hc e _=>⟨o.slots,k b o hc e⟩) (λ_ _ _ _ n=>n) (λb o hc e=>⟨o,k b o hc e⟩) (λ_ _ e=>e) (λ_ _ _ e=>e) (λb ps e=>⟨#[],by rw[e];simp⟩) (λm hm=>?_) (λb u e=>?_) I.bare
 ·obtain⟨o,es,ep,ho,r⟩:=hm;exact⟨o,es,ep,k _ o (λz=>(hf _ z).2.1 rfl) ho,r⟩
 ·refine(I.hok b u e).stay (λc v hc q=>k c v ?_ q) (λ_ q=>q) λ_ _ q=>q
  rcases hc with z |z
  ·rw[z];exact mR b u e
  ·exact mR c _ z
theorem Inv.H_{t':Nat}{ch:θ}{T:Addr}{ob:HO}(I:Inv X pins σ H s)(k:∀b o,b ∉ ch->s.heap.get? b=some o->h'.get? b=some o)(hf:∀b∈ch,fD X pins H b)(hT:s.heap.objs.size<=T) (new:ck X.prog X.w (upd H T ob) h' T ob):Inv X pins σ (upd H T ob) {s with heap:=h',toks:=t'}:=by
 have hn:H T=none:=I.hok.fresh hT;have mR:∀b u,H b=some u->b ∉ ch:=λb u e z=>by have q:=(hf b z).1;rw[q]at e;cases e
 refine I.step (g':=s.gens) (d':=s.drawn) (ch:=ch) (λb hb=>⟨(hf b hb).2.2.2.1,(hf b hb).2.1,(hf b hb).2.2.2.2.1,(hf b hb).2.2.2.2.2⟩) (λb o _ _ hc e _=>k b o hc e) (λb o _ _ hc e _=>⟨o.slots,k b o hc e⟩) (λb o _ e n=>?_) (λb o hc e=>⟨o,k b o hc e⟩) (λb xs e=>?_) (λb o u e=>?_) (λb ps e=>⟨#[],?_⟩) (λm hm=>?_) (λb u e=>?_) I.bare
 ·rw[ay (bQ (e7 (a7 e) hT))];exact n
 ·rw[ay (aH e hn)];exact e
 ·rw[ay (aH e hn)];exact e
 ·rw[ay (aH e hn),e];simp
 ·obtain⟨o,es,ep,ho,r⟩:=hm;exact⟨o,es,ep,k _ o (λz=>(hf _ z).2.1 rfl) ho,r⟩
 ·by_cases hb:b=T
  ·subst hb;rw[au]at e;cases e;exact new
  ·rw[ay hb]at e;refine(I.hok b u e).stay (λc v hc q=>k c v ?_ q) (λc q=>by rw[ay (aH q hn)];exact q) λc xs q=>by rw[ay (aH q hn)];exact q
   rcases hc with z |z
   ·rw[z];exact mR b u e
   ·exact mR c _ z
end
section
variable{X:Cx}
theorem AV{tg:Expr}{pins:η}{σ:St}{H:Hp}{s:Shared}{R:It->Hp->Prop}{J:It}{tn:Nat->Heap->Prop}{tk:Nat}(I:Inv X pins σ H s)(o:Obj) (T:mE X.prog X.w X.K tg J [s.heap.objs.size] s.heap.objs.size tn)(st:tn 0 (s.heap.push o))(q:R J H):z_ X pins σ tg R (.ref s.heap.objs.size) {s with heap:=s.heap.push o,toks:=tk}:=by
 refine⟨s.heap.objs.size,[s.heap.objs.size],tn,J,H,rfl,I.kept λb ob e=>bu _ e,T,st,λb hb=>?_,q⟩;have e:b=s.heap.objs.size:=by simpa using hb
 subst e;exact I.jx (aJ _) (I.hok.fresh (aJ _))
end
def tT(lo c:Int)(n:Nat):It:=⟨λi _=>i<n,λi H x H'=>H'=H/\x=.int (lo+(i:Nat)*c),λi _=>n<=i⟩
theorem Ui{P:Program}{w:World}{K:ax}{tg:Expr}(it:Addr)(lo c:Int)(n:Nat):mE P w K tg (tT lo c n) [it] it (λi h=>IsRangeIter h it (lo+(i:Nat)*c) ((n:Int)-(i:Nat)) c) where
 mem:=by simp
 obj:=λi h st b hb=>by
  have e:b=it:=by simpa using hb
  subst e;exact⟨_,st,λv z=>nomatch z⟩
 keep:=λi h h' st k=>k it (by simp) _ st
 item:=by
  intro X hP hw hK hc i pins s σ H E I hf st hg;subst hP hw hK;obtain⟨f0,f1,f2,f3,f4,f5⟩:=hf it (by simp);have W:=Walks.range (prog:=X.prog) (w:=X.w) (I.ok.hd hc) it lo c n;refine W.item i s _ _ hg st λv h' tk hv st' kk=>?_
  obtain⟨t,rfl⟩:=hv;have I1:Inv X pins σ H {s with heap:=h',toks:=tk}:=I.turned (λb o hb e=>kk b o (by simpa using hb) e) f0 f1 f3 f4 f5;exact⟨_,rfl,sW (s:= {s with heap:=h',toks:=tk}) (n:="range_iterator") st' rfl rfl (by decide) ⟨.int (lo+(i:Nat)*c),H,I1,⟨t,rfl⟩,⟨rfl,rfl⟩,st',λb hb=>(hf b hb).1⟩⟩
 done:=by intro X hP hw hK hc i pins s σ H E I hf st hg;subst hP hw hK;obtain⟨f0,f1,f2,f3,f4,f5⟩:=hf it (by simp);exact wpAny_pyNext_range_end (I.ok.hd hc) st (by have:n<=i:=hg;omega) λh' eb=>⟨rfl,I.turned (t':=s.toks) (λb o hb e=>eb b o hb e) f0 f1 f3 f4 f5⟩
 self:=λA i s Q E st h=>wpAny_pyIter_rangeiter st h
def tU(i j c:Int)(n:Nat):Prop:=c≠0/\c.natAbs<1073741824/\Builtin.Range.small i j c=true/\Builtin.Range.rangeSize i j c=n
theorem tU.neg{i j:Int}(ha: -(2^62)<=i)(ha':i<2^62)(hb: -(2^62)<=j)(hb':j<2^62):tU i j (-1) (i-j).toNat:=⟨by decide,by decide,PySem.W.small_down ha ha' hb hb',PySem.W.rangeSize_downNat i j⟩
inductive Ia(R:(It->Hp->Prop))(vs:ε)(H1:Hp):Prop
 |mk (i j c:Int) (n:Nat):vs=[.int i,.int j,.int c]->tU i j c n->R (tT i c n) H1->Ia R vs H1
def Uj(ta:TA):TI:=λσ H R=>ta σ H λvs H1=>Ia R vs H1
section
variable{X:Cx}{tg:Expr}
theorem Uk{a b c:Expr}{ta:TA}{p pos:Pos}(hg:Gl X "range")(hm:X.mg "range"=none)(ha:PA X [a,b,c] ta) (hs:starEach [a,b,c] X.env=(false,eval a X.env)::starEach [b,c] X.env:=by rfl)(hpl:(backTo pos (starEach [b,c] X.env)).any (·.1)=false:=by rfl):PI X tg (.Call (.Name "range" p) [a,b,c] [] pos) (Uj ta):=by
 intro pins s σ H R I h;refine Call_ (qP I hg hm boot_range (zA (aG (ha pos pins s σ H _ I h) λus s1 ⟨vs,H1,I1,r1,q1⟩=>?_) hs hpl));obtain⟨i,j,k,n,e,⟨c0,c1,c2,c3⟩,q⟩:=q1;subst e;cases r1 with
 |cons r rr=>
  cases rr with
  |cons r' rr=>
   cases rr with
   |cons r'' rr=>
    cases rr;obtain⟨t,rfl⟩:=r;obtain⟨t',rfl⟩:=r';obtain⟨t'',rfl⟩:=r'';refine call_range_3 c0 ?_ (.inl (PyProof.noPylong_small c1));refine wpAny_pyIter_range (IsRange.new ..) c2 ?_;have I2:Inv X pins σ H1 {s1 with heap:=s1.heap.push {cls:=.type "range",data:=.fields #[.int i t,.int j t',.int k t'']}}:=I1.kept (t':=s1.toks) λb o e=>bu _ e
    refine AV (tk:=s1.toks) I2 _ (Ui _ i k n) ?_ q;have e1:i+((0:Nat):Int)*k=i:=by simp
    have e2:(n:Int)-((0:Nat):Int)=Builtin.Range.rangeSize i j k:=by rw[c3];simp
    show IsRangeIter _ _ (i+((0:Nat):Int)*k) ((n:Int)-((0:Nat):Int)) k;rw[e1,e2];exact cw _ rfl
end
theorem Ul{lo c:Int}{n:Nat}{g:TG}{tb:TS}{D:Ends}{σ:St}{H:Hp}(Pv:Nat->St->Hp->Prop)(h0:Pv 0 σ H) (hs:∀i σ H,i<n->Pv i σ H->g (.int (lo+(i:Nat)*c)) σ H λσ2 H2=>tb {D with nx:=Pv (i+1),ct:=Pv (i+1),bk:=D.nx} σ2 H2)(hd:∀σ H,Pv n σ H->D.nx σ H):∃W:Nat->Nat->St->Hp->Prop,(∃m,W 0 m σ H)/\∀i m σ H,W i m σ H->((tT lo c n).stop i H/\D.nx σ H)\/((tT lo c n).go i H/\∃N:St->Hp->Prop,(∀σ' H',N σ' H'->∃m',m'<m/\W (i+1) m' σ' H')/\∀x H',(tT lo c n).gN i H x H'->g x σ H' λσ2 H2=>tb {D with nx:=N,ct:=N,bk:=D.nx} σ2 H2):=by
 refine⟨λi m σ H=>m=n-i/\i<=n/\Pv i σ H,⟨n,by simp,bS _,h0⟩,?_⟩
 rintro i m σ H ⟨rfl,hi,p⟩
 by_cases hlt:i<n
 ·refine .inr ⟨hlt,Pv (i+1),λσ' H' p'=>⟨n-(i+1),by omega,rfl,hlt,p'⟩,λx H' y=>?_⟩;obtain⟨e,y⟩:=y;subst e y;exact hs i σ _ hlt p
 ·have e:i=n:=by omega
  subst e;exact .inl ⟨aJ _,hd σ H p⟩
def AW(x:Str):It:=⟨λi _=>i<x.cps.size,λi H v H'=>H'=H/\∃c,x.cps[i]? =some c/\v=.str ⟨#[c]⟩,λi _=>x.cps.size<=i⟩
theorem Ib{P:Program}{w:World}{K:ax}{tg:Expr}(it:Addr)(x:Str)(t:Tok)(ty:String)(hty:ty="str_ascii_iterator" \/ty="str_iterator"):mE P w K tg (AW x) [it] it (λi h=>h.IsStrIter it ty x t i) where
 mem:=by simp
 obj:=λi h st b hb=>by
  have e:b=it:=by simpa using hb
  subst e;obtain⟨o,e,c,d⟩:=st;exact⟨o,e,λv z=>by rw[d]at z;cases z⟩
 keep:=λi h h' st k=>let ⟨o,ho,r⟩:=st;⟨o,k it (by simp) o ho,r⟩
 item:=by
  intro X hP hw hK hc i pins s σ H E I hf st hg;subst hP hw hK;obtain⟨f0,f1,f2,f3,f4,f5⟩:=hf it (by simp);have W:Walks X.prog X.w X.A it [it] [it] x.cps.size (SignAt x) (λi h=>h.IsStrIter it ty x t i):=by
   rcases hty with e |e
   ·rw[e];exact Walks.strAscii (I.ok.hd hc) it x t
   ·rw[e];exact Walks.strWide (I.ok.hd hc) it x t
  have hno:["enumerate","zip","dict_itemiterator","dict_reverseitemiterator","odict_iterator","itertools.zip_longest","itertools.pairwise"].contains ty=false:=by
   rcases hty with e |e
   ·rw[e];decide
   ·rw[e];decide
  refine W.item i s _ _ hg st λv h' tk hv st' kk=>?_
  obtain⟨c,u,hcx,rfl⟩:=hv;have I1:Inv X pins σ H {s with heap:=h',toks:=tk}:=I.turned (λb o hb e=>kk b o (by simpa using hb) e) f0 f1 f3 f4 f5;obtain⟨oi,e,cc,dd⟩:=id st';exact⟨_,rfl,sW (s:= {s with heap:=h',toks:=tk}) e cc dd hno ⟨.str ⟨#[c]⟩,H,I1,⟨u,rfl⟩,⟨rfl,c,hcx,rfl⟩,st',λb hb=>(hf b hb).1⟩⟩
 done:=by
  intro X hP hw hK hc i pins s σ H E I hf st hg;subst hP hw hK;obtain⟨f0,f1,f2,f3,f4,f5⟩:=hf it (by simp);have hx:x.cps[i]? =none:=zE hg;rcases hty with e |e
  ·rw[e]at st;exact wpAny_pyNext_ascii_end (I.ok.hd hc) st hx λh' eb=>⟨rfl,I.turned (t':=s.toks) (λb o hb e=>eb b o hb e) f0 f1 f3 f4 f5⟩
  ·rw[e]at st;exact wpAny_pyNext_wide_end (I.ok.hd hc) st hx λh' eb=>⟨rfl,I.turned (t':=s.toks) (λb o hb e=>eb b o hb e) f0 f1 f3 f4 f5⟩
 self:=λA i s Q E st h=>by
  rcases hty with e |e
  ·rw[e]at st;exact wpAny_pyIter_striter_ascii st h
  ·rw[e]at st;exact wpAny_pyIter_striter_wide st h
inductive Ic(R:(It->Hp->Prop))(v:V)(H1:Hp):Prop
 |mk x:v=.str x->R (AW x) H1->Ic R v H1
def Um(te:TE):TI:=λσ H R=>te σ H λv H1=>Ic R v H1
theorem Uo{X:Cx}{tg e:Expr}{te:TE}(he:PE X e te):PI X tg e (Um te):=by
 intro pins s σ H R I h;refine aG (he pins s σ H _ I h) λv s1 ⟨y,H1,I1,r1,x,ex,q⟩=>?_
 subst ex;obtain⟨t,rfl⟩:=r1;cases ha:x.cps.all (· <128)
 ·exact wpAny_pyIter_wide ha (AV (tk:=s1.toks) I1 _ (Ib _ x t "str_iterator" (.inr rfl)) ⟨_,cw _ rfl,rfl,rfl⟩ q)
 ·exact wpAny_pyIter_ascii ha (AV (tk:=s1.toks) I1 _ (Ib _ x t "str_ascii_iterator" (.inl rfl)) ⟨_,cw _ rfl,rfl,rfl⟩ q)
section
variable{prog:Program}{w:World}{A:Around}{E:ρ}{s:Shared}
theorem Up{d:Addr}{o:Obj}{es:Array DictEntry}{ep:Nat}{Q:ρ}(hd:(d==sysModules)=false)(ho:s.heap.get? d=some o)(hc:o.ExactDict)(hdat:o.data=.dict es ep) (hQ:Q (.ref s.heap.objs.size) {s with heap:=s.heap.push {cls:=.type "dict_keyiterator",data:=.fields #[.ref d,.int 0 0,.int es.size 0,.int ep 0]}}):wpAny (model prog w) A (pyIter (.ref d)) Q E s:=by
 have hT:s.TypeIs (.ref d) "dict":=⟨o,ho,hc.1⟩;refine wpAny_pyIter_slot hT F.slot_dict_iter (n9 F.slot_dict_iter hT F.entry_dict_iter ?_ (F.args_dict_iter_1 _));unfold Builtin.«dict.__iter__»;refine ai ?_;unfold Builtin.Dict.dictSlotNone;refine ai (wpAny_notOrdered_dict hT ?_);show wpAny _ _ (pure (Value.ref d)) _ _ s;refine aB ?_;show wpAny _ _ (Builtin.Dict.showsAll d>>=_) _ _ s;unfold Builtin.Dict.showsAll;rw[af (by rw[hd];exact cM)];refine ai (aB ?_);refine ai (FI ho hdat ?_);refine ai (wpAny_dictEpoch ho hdat ?_);refine ai (jo (aB ⟨_,rfl,"dict_keyiterator",_,⟨_,cw _ rfl,rfl⟩,zF.lookup,?_⟩));simpa[rawInt]using hQ
theorem Uq{it d:Addr}{i n ep:Nat}{od:Obj}{es:Array DictEntry}{en:DictEntry}{Q:Option Value->Shared->Prop}(hit:s.heap.IsKeyIter it d i n ep)(hod:s.heap.get? d=some od)(hdd:od.data=.dict es ep) (hsz:es.size=n)(hx:es[i]? =some en)(hQ:∀h',h'.IsKeyIter it d (i+1) n ep->Heap.SameBut it s.heap h'->Q (some en.key) {s with heap:=h'}):wpAny (model prog w) A (pyNext (.ref it)) Q E s:=by
 obtain⟨o,ho,hc,hd⟩:=id hit;unfold pyNext;refine ai (FJ (vQ (name:=Str.ofString "__next__") hit.typeIs zF (n9 zF hit.typeIs F.entry_dict_keyiterator_next ?_ (F.args_dict_keyiterator_next_1 _))))
 refine ai (aB ?_);refine ai ?_;refine ai ?_
 first |refine ai (FK hit.typeIs (aB ?_)) |refine ai (FL hit.typeIs (aB ?_))
 refine ai (FN ho hd ?_);have hown:Builtin.Dict_items.ownsTuple "dict_keyiterator"=false:=by decide
 simp only[hown,qD,kf];show wpAny _ _ (if (Value.ref d==Value.none)=true then _ else _) _ _ s;rw[af (show ¬((Value.ref d==Value.none)=true) from cM)];refine ai (aB ?_);refine ai (FI hod hdd ?_);rw[af (by rw[hsz];simp)];refine ai (aB ?_);refine ai (wpAny_dictEpoch hod hdd ?_);rw[af (by simp)];refine aB ?_;obtain⟨hlt',hen⟩:=zG.mp hx;simp only[show ¬((i:Int)<0) from by omega,kf,vP,jq hlt'];refine ai ?_
 first |refine ai (FK hit.typeIs (aB ?_)) |refine ai (FL hit.typeIs (aB ?_))
 refine ai (wpAny_isOneOf_keyiter hit.typeIs ?_);show wpAny _ _ (setField (.ref it) 1 (rawInt ((i:Int)+1))>>=_) _ _ s;refine ai (lG ho hd (by simp) ?_);have w6:(s.heap.update it (Obj.mapFields (·.setIfInBounds 1 (rawInt ((i:Int)+1))))).IsKeyIter it d (i+1) n ep:=
  ⟨_,n_ _ ho (FO (qH hd _)),(Obj.cls_mapFields ..).trans hc,by rw[qH hd];simp[rawInt]⟩
 refine ai (jn ?_);refine ai (wpAny_isOneOf_keyiter (s:= {s with heap:=s.heap.update it (Obj.mapFields (·.setIfInBounds 1 (rawInt ((i:Int)+1))))}) w6.typeIs ?_);show wpAny _ _ (pure es[i].key) _ _ _;rw[hen];exact aB (aB ⟨_,rfl,aB (hQ _ w6 (FP ..))⟩)
theorem Ur{it d:Addr}{i n ep:Nat}{od:Obj}{es:Array DictEntry}{Q:Option Value->Shared->Prop}(hh:A.handled=none)(hit:s.heap.IsKeyIter it d i n ep)(hod:s.heap.get? d=some od)(hdd:od.data=.dict es ep) (hsz:es.size=n)(hge:n<=i)(hQ:∀h',Heap.ExtBut it s.heap h'->Q none {s with heap:=h'}):wpAny (model prog w) A (pyNext (.ref it)) Q E s:=by
 obtain⟨o,ho,hc,hd⟩:=id hit;unfold pyNext;refine ai (FJ (vQ (name:=Str.ofString "__next__") hit.typeIs zF (n9 zF hit.typeIs F.entry_dict_keyiterator_next ?_ (F.args_dict_keyiterator_next_1 _))))
 refine ai (aB ?_);refine ai ?_;refine ai ?_
 first |refine ai (FK hit.typeIs (aB ?_)) |refine ai (FL hit.typeIs (aB ?_))
 refine ai (FN ho hd ?_);have hown:Builtin.Dict_items.ownsTuple "dict_keyiterator"=false:=by decide
 simp only[hown,qD,kf];show wpAny _ _ (if (Value.ref d==Value.none)=true then _ else _) _ _ s;rw[af (show ¬((Value.ref d==Value.none)=true) from cM)];refine ai (aB ?_);refine ai (FI hod hdd ?_);rw[af (by rw[hsz];simp)];refine ai (aB ?_);refine ai (wpAny_dictEpoch hod hdd ?_);rw[af (by simp)];refine aB ?_;have Us:es.size<=i:=by rw[hsz];exact hge
 simp only[show ¬((i:Int)<0) from by omega,kf,vP,zE Us];refine ai ?_
 first |refine ai (FK hit.typeIs (aB ?_)) |refine ai (FL hit.typeIs (aB ?_))
 show wpAny _ _ (setField (.ref it) 0 .none>>=_) _ _ s;refine ai (lG ho hd (by simp) ?_);show wpAny _ _ (newExc (.type "StopIteration") []>>=_) _ _ _;refine ai ?_;simp only[newExc,newTuple];refine ai (jo ?_ (by size_fits));refine ai (m:=firstArgMember _ _) (wpAny_of_eq (a:=Value.none) (by first |rfl |(simp only[firstArgMember];rfl)) ?_);refine jo ?_ (by size_fits);simp only[raiseNew];refine ai (wpAny_handled ?_);rw[show A.in1.handled=none from hh];refine ai (aB (wpAny_throw ?_));refine ai (FQ (T:="StopIteration") (b:=true) ⟨_,cw _ rfl,rfl⟩ isSubtype_stop ?_);exact aB (hQ _ (((FP ..).extBut.push _).push _))
end
def tV(K:ax)(a:Addr):It:=⟨λi H=>∃(xs:ε)(x:V),aj K H a xs/\xs[i]? =some x,λi H v H'=>∃T x,v=.ref T/\H T=none/\H'=upd H T (.tup [.int (i:Nat),x])/\∀xs,aj K H a xs->xs[i]? =some x,λi H=>∃xs:List V,aj K H a xs/\xs.length<=i⟩
theorem Ut{P:Program}{w:World}{K:ax}{elts:List Expr}{kk:Nat}{tpos:Pos}(a e it:Addr):mE P w K (.Tuple elts kk tpos) (tV K a) [e,it] e (λi h=>(∃old,IsEnum h e it ((i:Nat):Int) old)/\h.IsListIter it a i/\e≠it) where
 mem:=by simp
 obj:=λi h st b hb=>by
  obtain⟨⟨old,he⟩,⟨o,ho,hc,hd⟩,_⟩:=st;have e':b=e\/b=it:=by simpa using hb
  rcases e' with z |z
  ·rw[z];exact⟨_,he,λv q=>nomatch q⟩
  ·rw[z];exact⟨o,ho,λv q=>by rw[hd]at q;cases q⟩
 keep:=λi h h' st k=>let ⟨⟨old,he⟩,hi,hne⟩:=st;⟨⟨old,k e (by simp) _ he⟩,hi.at λo q=>k it (by simp) o q,hne⟩
 item:=by
  intro X hP hw hK hc i pins s σ H E I hf st hg;subst hP hw hK;obtain⟨⟨old,he⟩,hit,hne⟩:=st;obtain⟨xs,x,hq,hx⟩:=hg;obtain⟨its,rv,p,hz⟩:=I.list hq;obtain⟨u,hu,ru⟩:=rv.get hx;have hel:e<s.heap.objs.size:=a7 he;have hil:it<s.heap.objs.size:=by obtain⟨_,q,_⟩:=hit;exact a7 q
  refine wpAny_pyNext_enum_item he hit p.isList (x:=u) (by simpa using hu) hne λh' ho w6 hT hsz hk=>?_
  refine⟨_,rfl,wpAny_letOwnedTupleGo_enum (s:= {s with heap:=h',toks:=s.toks+1}) ho λh'' he' sb=>?_⟩;have hT2:h''.get? s.heap.objs.size=some {cls:=.type "tuple",data:=.seq #[.int i s.toks,u]}:=(sb.2 _ (mG hel)).trans hT;have new:ck X.prog X.w (upd H s.heap.objs.size (.tup [.int (i:Nat),x])) h'' s.heap.objs.size (.tup [.int (i:Nat),x]):=
   ⟨by show 2<=sizeLine;decide,[.int i s.toks,u],.cons ⟨_,rfl⟩ (.cons ru .nil),⟨_,hT2,rfl,_,rfl⟩⟩
  have I1:Inv X pins σ (upd H s.heap.objs.size (.tup [.int (i:Nat),x])) {s with heap:=h'',toks:=s.toks+1}:=
   I.H_ (ch:=[e,it]) (λb ob hb q=>(sb.2 b (λz=>hb (by simp[z]))).trans (hk b ob (λz=>hb (by simp[z])) (λz=>hb (by simp[z])) q)) hf (aJ _) new
  refine⟨.ref s.heap.objs.size,_,I1,rfl,⟨_,x,rfl,I.hok.fresh (aJ _),rfl,λys hy=>by rw[I.wy hy hq];exact hx⟩,⟨⟨u,?_⟩,w6.at λo q=>(sb.2 it (cq hne)).trans q,hne⟩,λb hb=>?_⟩
  ·have e1:((i+1:Nat):Int)=(i:Int)+1:=by omega
   rw[e1];exact he'
  ·have hb':b<s.heap.objs.size:=by
    have e':b=e\/b=it:=by simpa using hb
    rcases e' with z |z
    ·rw[z];exact hel
    ·rw[z];exact hil
   rw[ay (bQ hb')];exact(hf b hb).1
 done:=by intro X hP hw hK hc i pins s σ H E I hf st hg;subst hP hw hK;obtain⟨⟨old,he⟩,hit,hne⟩:=st;obtain⟨xs,hq,hx⟩:=hg;obtain⟨its,rv,p,hz⟩:=I.list hq;obtain⟨f0,f1,f2,f3,f4,f5⟩:=hf it (by simp);have hl:=rv.length;exact wpAny_pyNext_enum_end (I.ok.hd hc) he hit p.isList (by simp;omega) λh' eb=>⟨rfl,I.turned (t':=s.toks) (λb o hb q=>eb b o hb q) f0 f1 f3 f4 f5⟩
 self:=λA i s Q E st h=>let ⟨⟨_,he⟩,_⟩:=st;wpAny_pyIter_enum he h
inductive Ie(K:ax)(R:(It->Hp->Prop))(vs:ε)(H1:Hp):Prop
 |mk a xs:vs=[.ref a]->aj K H1 a xs->R (tV K a) H1->Ie K R vs H1
def Uu(K:ax)(ta:TA):TI:=λσ H R=>ta σ H λvs H1=>Ie K R vs H1
theorem AX{X:Cx}{e:Expr}{ta:TA}{p pos tpos:Pos}{elts:List Expr}{kk:Nat}(hg:Gl X "enumerate")(hm:X.mg "enumerate"=none)(ha:PA X [e] ta)(hs:starEach [e] X.env=[(false,eval e X.env)]:=by rfl):PI X (.Tuple elts kk tpos) (.Call (.Name "enumerate" p) [e] [] pos) (Uu X.K ta):=by
 intro pins s σ H R I h;refine Call_ (qP I hg hm boot_enumerate (zA (aG (ha pos pins s σ H _ I h) λus s1 ⟨vs,H1,I1,r1,q1⟩=>?_) hs rfl));obtain⟨a,xs,ex,hq,q⟩:=q1;subst ex;cases r1 with
 |cons r rr=>
  cases rr;cases r;obtain⟨its,rv,p',hz⟩:=I1.list hq;refine call_enumerate_list p'.isList λh' he hit hsz hk=>wpAny_pyIter_enum he ?_
  have I2:Inv X pins σ H1 {s1 with heap:=h'}:=I1.kept (t':=s1.toks) hk;refine⟨s1.heap.objs.size+1,[s1.heap.objs.size+1,s1.heap.objs.size],_,_,H1,rfl,I2,Ut a (s1.heap.objs.size+1) s1.heap.objs.size,⟨⟨.none,he⟩,hit,Nat.succ_ne_self _⟩,λb hb=>?_,q⟩;have e':b=s1.heap.objs.size+1\/b=s1.heap.objs.size:=by simpa using hb
  have hle:s1.heap.objs.size<=b:=by
   rcases e' with z |z
   ·rw[z];exact zH _ _
   ·rw[z];exact aJ _
  exact I1.jx hle (I1.hok.fresh hle)
theorem Uv:bootBuiltins "zip"=some (.type "zip"):=by decide+kernel
def tW(K:ax)(a b:Addr):It:=⟨λi H=>∃(xs ys:ε)(x y:V),aj K H a xs/\aj K H b ys/\xs[i]? =some x/\ys[i]? =some y,λi H v H'=>∃T x y,v=.ref T/\H T=none/\H'=upd H T (.tup [x,y])/\(∀xs,aj K H a xs->xs[i]? =some x)/\∀ys,aj K H b ys->ys[i]? =some y,λi H=>∃xs ys:List V,aj K H a xs/\aj K H b ys/\(xs.length<=i\/ys.length<=i)⟩
theorem Uw{P:Program}{w:World}{K:ax}{elts:List Expr}{kk:Nat}{tpos:Pos}{a b z TI TO i1 i2:Addr}(D:ZipApart z TI TO i1 i2 a b):mE P w K (.Tuple elts kk tpos) (tW K a b) [z,TI,TO,i1,i2] z (λi h=>IsZip h z TI TO .none/\IsPair h TI (.ref i1) (.ref i2)/\(∃x y,IsPair h TO x y)/\h.IsListIter i1 a i/\h.IsListIter i2 b i) where
 mem:=by simp
 obj:=λi h st c hc=>by
  obtain⟨hz,hTI,⟨x,y,hTO⟩,⟨o1,e1,_,d1⟩,⟨o2,e2,_,d2⟩⟩:=st;have e':c=z\/c=TI\/c=TO\/c=i1\/c=i2:=by simpa using hc
  rcases e' with q |q |q |q |q
  ·rw[q];exact⟨_,hz,λv q=>nomatch q⟩
  ·rw[q];exact⟨_,hTI,λv q=>nomatch q⟩
  ·rw[q];exact⟨_,hTO,λv q=>nomatch q⟩
  ·rw[q];exact⟨o1,e1,λv q=>by rw[d1]at q;cases q⟩
  ·rw[q];exact⟨o2,e2,λv q=>by rw[d2]at q;cases q⟩
 keep:=λi h h' st k=>by obtain⟨hz,hTI,⟨x,y,hTO⟩,h1,h2⟩:=st;exact⟨k z (by simp) _ hz,k TI (by simp) _ hTI,⟨x,y,k TO (by simp) _ hTO⟩,h1.at λo q=>k i1 (by simp) o q,h2.at λo q=>k i2 (by simp) o q⟩
 item:=by
  intro X hP hw hK hc i pins s σ H E I hf st hg;subst hP hw hK;obtain⟨hz,hTI,⟨x0,y0,hTO⟩,h1,h2⟩:=st;obtain⟨xs,ys,x,y,q_,ra,hx,hy⟩:=hg;obtain⟨its,rv,p,_⟩:=I.list q_;obtain⟨its2,lY,p2,_⟩:=I.list ra;obtain⟨u,hu,ru⟩:=rv.get hx;obtain⟨u2,hu2,ru2⟩:=lY.get hy;have hzl:z<s.heap.objs.size:=a7 hz;refine wpAny_pyNext_zip_item D hz hTI hTO h1 h2 p.isList p2.isList (x:=u) (y:=u2) (by simpa using hu) (by simpa using hu2) λh' z' TO' h1' h2' hT hsz hk=>?_
  refine⟨_,rfl,wpAny_letOwnedTupleGo_zip (s:= {s with heap:=h'}) z' λh'' z'' sb=>?_⟩;have hT2:h''.get? s.heap.objs.size=some {cls:=.type "tuple",data:=.seq #[u,u2]}:=(sb.2 _ (mG hzl)).trans hT;have new:ck X.prog X.w (upd H s.heap.objs.size (.tup [x,y])) h'' s.heap.objs.size (.tup [x,y]):=
   ⟨by show 2<=sizeLine;decide,[u,u2],.cons ru (.cons ru2 .nil),⟨_,hT2,rfl,_,rfl⟩⟩
  have I1:Inv X pins σ (upd H s.heap.objs.size (.tup [x,y])) {s with heap:=h''}:=
   I.H_ (t':=s.toks) (ch:=[z,TI,TO,i1,i2]) (λc o hb q=>(sb.2 c (λq'=>hb (by simp[q']))).trans (hk c o (λq'=>hb (by simp[q'])) (λq'=>hb (by simp[q'])) (λq'=>hb (by simp[q'])) (λq'=>hb (by simp[q'])) q)) hf (aJ _) new
  refine⟨.ref s.heap.objs.size,_,I1,rfl,⟨_,x,y,rfl,I.hok.fresh (aJ _),rfl,λl hl=>by rw[I.wy hl q_];exact hx,λl hl=>by rw[I.wy hl ra];exact hy⟩,⟨z'',?_,⟨u,u2,?_⟩,?_,?_⟩,λc w8=>?_⟩
  ·exact(sb.2 _ D.TIz).trans (hk _ _ D.TIz D.TITO D.TIi1 D.TIi2 hTI)
  ·exact(sb.2 _ D.TOz).trans TO'
  ·exact h1'.at λo q=>(sb.2 _ D.i1z).trans q
  ·exact h2'.at λo q=>(sb.2 _ D.i2z).trans q
  ·have hlt:c<s.heap.objs.size:=by
    have e':c=z\/c=TI\/c=TO\/c=i1\/c=i2:=by simpa using w8
    rcases e' with q |q |q |q |q
    ·rw[q];exact hzl
    ·rw[q];exact a7 hTI
    ·rw[q];exact a7 hTO
    ·rw[q];obtain⟨_,e1,_⟩:=h1;exact a7 e1
    ·rw[q];obtain⟨_,e2,_⟩:=h2;exact a7 e2
   rw[ay (bQ hlt)];exact(hf c w8).1
 done:=by
  intro X hP hw hK hc i pins s σ H E I hf st hg;subst hP hw hK;obtain⟨hz,hTI,⟨x0,y0,hTO⟩,h1,h2⟩:=st;obtain⟨xs,ys,q_,ra,hend⟩:=hg;obtain⟨its,rv,p,_⟩:=I.list q_;obtain⟨its2,lY,p2,_⟩:=I.list ra;have l1:=rv.length;have l2:=lY.length;have he:its.toArray[i]? =none\/its2.toArray[i]? =none:=by
   rcases hend with q |q
   ·exact .inl (by simp;omega)
   ·exact .inr (by simp;omega)
  exact wpAny_pyNext_zip_end (I.ok.hd hc) D hz hTI hTO h1 h2 p.isList p2.isList he λh' hk=>⟨rfl,I.AU (t':=s.toks) (ch:=[z,TI,TO,i1,i2]) (λc o hb q=>hk c o (λq'=>hb (by simp[q'])) (λq'=>hb (by simp[q'])) (λq'=>hb (by simp[q'])) (λq'=>hb (by simp[q'])) q) hf⟩
 self:=λA i s Q E st h=>wpAny_pyIter_zip st.1 h
inductive Ig(K:ax)(R:(It->Hp->Prop))(vs:ε)(H1:Hp):Prop
 |mk a b xs ys:vs=[.ref a,.ref b]->aj K H1 a xs->aj K H1 b ys->R (tW K a b) H1->Ig K R vs H1
def Ux(K:ax)(ta:TA):TI:=λσ H R=>ta σ H λvs H1=>Ig K R vs H1
theorem w9{X:Cx}{e e2:Expr}{ta:TA}{p pos tpos:Pos}{elts:List Expr}{kk:Nat}(hg:Gl X "zip")(hm:X.mg "zip"=none)(ha:PA X [e,e2] ta) (hs:starEach [e,e2] X.env=(false,eval e X.env)::starEach [e2] X.env:=by rfl)(hpl:(backTo pos (starEach [e2] X.env)).any (·.1)=false:=by rfl):PI X (.Tuple elts kk tpos) (.Call (.Name "zip" p) [e,e2] [] pos) (Ux X.K ta):=by
 intro pins s σ H R I h;refine Call_ (qP I hg hm Uv (zA (aG (ha pos pins s σ H _ I h) λus s1 ⟨vs,H1,I1,r1,q1⟩=>?_) hs hpl));obtain⟨a,b,xs,ys,ex,q_,ra,q⟩:=q1;subst ex;cases r1 with
 |cons r rr=>
  cases rr with
  |cons r' rr=>
   cases rr;cases r;cases r';obtain⟨its,rv,p1,_⟩:=I1.list q_;obtain⟨its2,lY,p2,_⟩:=I1.list ra;have la:a<s1.heap.objs.size:=p1.lt;have lb:b<s1.heap.objs.size:=p2.lt;refine call_zip_2 p1.isList p2.isList λh' hz hTI hTO h1 h2 hsz hk=>wpAny_pyIter_zip hz ?_
   have I2:Inv X pins σ H1 {s1 with heap:=h'}:=I1.kept (t':=s1.toks) hk;refine⟨s1.heap.objs.size+4,[s1.heap.objs.size+4,s1.heap.objs.size+2,s1.heap.objs.size+3,s1.heap.objs.size,s1.heap.objs.size+1],_,_,H1,rfl,I2,Uw (PySem.W.ktu_apart s1.heap.objs.size a b la lb),⟨hz,hTI,⟨_,_,hTO⟩,h1,h2⟩,λc w8=>?_,q⟩;have e':c=s1.heap.objs.size+4\/c=s1.heap.objs.size+2\/c=s1.heap.objs.size+3\/c=s1.heap.objs.size\/c=s1.heap.objs.size+1:=by simpa using w8
   have hle:s1.heap.objs.size<=c:=by
    rcases e' with z |z |z |z |z
    ·rw[z];exact zH _ _
    ·rw[z];exact zH _ _
    ·rw[z];exact zH _ _
    ·rw[z];exact aJ _
    ·rw[z];exact zH _ _
   exact I1.jx hle (I1.hok.fresh hle)
end L2
section
namespace Bits
open PySem PyProof.Rows
theorem AY(m:Nat):∀n:Nat,(m^^^n)+2*(m&&& n)=m+n:=by
 induction m using Nat.strongRecOn with
 |_ m ih=>
  intro n;by_cases h0:m=0
  ·subst h0;simp
  ·have e:=ih (m/2) (Nat.div_lt_self (Nat.pos_of_ne_zero h0) (by decide)) (n/2);rw[<-Nat.xor_div_two,<-Nat.and_div_two]at e;have o1:=@Nat.xor_mod_two_eq_one m n;have a1:=@Nat.and_mod_two_eq_one m n;have p:(m^^^n)%2+2*((m&&& n)%2)=m%2+n%2:=by
    have x:=FR (m^^^n);have y:=FR (m&&& n);have z:=FR m;have w:=FR n;revert o1 a1 x y z w;generalize (m^^^n)%2=a;generalize (m&&& n)%2=b;generalize m%2=c;generalize n%2=d
    rintro o1 a1 (rfl |rfl) (rfl |rfl) (rfl |rfl) (rfl |rfl)<;>first |rfl |(revert o1 a1;decide)
   clear o1 a1 ih;omega
end Bits
end
section
namespace TL
open PySem PySem.Builtin PySem.Builtin.Str PySem.StrLaws
end TL
end
namespace L2
open PySem PySem.Spec PyProof.Rows
end L2
namespace Att
open PySem PySem.W PySem.Calls PyProof.Rows
theorem Ih{P:Params}{h:Heap}:∀(ns:δ)(vs:ω),WellAll P h vs (ns.map WData.int)->IntsAre vs ns:=by
 intro ns
 induction ns with
 |nil=>intro vs w;rw[qC]at w;cases w;exact .nil
 |cons n ns ih=>
  intro vs w;rw[bx]at w;cases w with
  |cons a b=>cases a;exact .cons _ _ (ih _ b)
end Att
namespace L2
open PySem PySem.Spec PyProof.Rows
theorem AZ:∀{vs:ω}{ns:δ},IntsAre vs ns->Vals (ns.map V.int) vs
 |_,_,.nil=>.nil
 |_,_,.cons n t h=>.cons ⟨t,rfl⟩ (AZ h)
def Uy(H:Hp):Prop:=∀b,H b=none\/∃o xs,H b=some (.gp o (.lst xs))
abbrev Ii{K:ax}{h:Heap}(_:K.In h):ax:=K
def jm(s:Stmt)(j:Nat):Stmt:=match s with
 | .ClassDef _ _ _ body _ _ _ _ _ _ _=>body.getD j (.Pass ⟨0,0,0,0⟩)
 |_=>.Pass ⟨0,0,0,0⟩
def gU(s:Stmt):Arguments:=match s with
 | .FunctionDef _ a _ _ _ _ _ _ _ _=>a
 |_=> {posonlyargs:=[],args:=[],vararg:=none,kwonlyargs:=[],kw_defaults:=[],kwarg:=none,defaults:=[]}
def fb(s:Stmt):List Stmt:=match s with
 | .FunctionDef _ _ b _ _ _ _ _ _ _=>b
 |_=>[]
def bp(s:Stmt):Scope:=match s with
 | .FunctionDef _ _ _ _ _ _ sc _ _ _=>sc
 |_=> {kind:=.function,names:=[],isGenerator:=false,isCoroutine:=false}
abbrev aM:jy:=λ_ _ _ _ _ _=>False
abbrev E0:XK:=λ_ _ _=>False
theorem dE{X:Cx}:kc aM X E0:=λ_ _ _ _ _ _ _ h=>h.elim
structure aK(K:ax)(x qual:Str)(st:Stmt)(f:Addr)(fd:FuncData):Prop where
 ex:∃(oc:Value)(od:Option Addr)(kV doc pm:Value)(an:Option Addr)(cdv ct:Value)(osl:Array (Option Value)),fd=fnOf x qual (gU st) (fb st) (bp st) .none kV doc pm an cdv ct/\K.lookup f=some ⟨oc,od,.func fd,osl⟩/\codeIn K cdv qual=true
 kp:keepIn K (.ref f)=true
section
variable{P:Program}{w:World}{K:ax}{mg:τ}{base:Heap}
theorem aK.ok{x qual:Str}{st:Stmt}{f:Addr}{fd:FuncData}{N ps:γ}{k:Nat}{sp:Sp}(F:aK K x qual st f fd)(S:mY N ps (bp st)) (hbody:∀(cdv:Value)(A:Around)(outer:List Env)(s:Shared)(H:Hp)(vs:ε)(Q:VK)(E:XK),b7 k (A.deeper (envOfC qual (bp st) s.heap.objs.size f cdv))->sp vs H Q E->∃t,dP (bI aM P w K mg base N qual (bp st) f cdv A outer s H E).bZ (fb st) t/\t {nx:=λ_ H'=>Q .aw H',rt:=Q} (start N vs) H)(len:∀vs H Q E,sp vs H Q E->vs.length=ps.length:=by intro _ _ _ _ h;cases h;subst_vars;rfl):aE P w K mg base aM (k+1) f fd ps sp:=by
 obtain⟨oc,od,kV,doc,pm,an,cdv,ct,osl,rfl,lk,hcd⟩:=F.ex;refine Am lk hcd S len λA outer s H vs Q E hr hsp=>?_
 obtain⟨t,h,q⟩:=hbody cdv A outer s H vs Q E hr hsp;exact⟨t,h.bZ,q⟩
theorem aK.binds{x qual:Str}{st:Stmt}{f:Addr}{fd:FuncData}{ps:γ}(F:aK K x qual st f fd) (h:∀(kV doc pm:Value)(an:Option Addr)(cdv ct:Value)(us:ω),us.length=ps.length->bindArgs (fnOf x qual (gU st) (fb st) (bp st) .none kV doc pm an cdv ct) ⟨us,[]⟩=pure (ps.zip us)):Binds K fd ps []:=by
 obtain⟨oc,od,kV,doc,pm,an,cdv,ct,osl,rfl,lk,hcd⟩:=F.ex;exact .all (h kV doc pm an cdv ct)
theorem Uz{x qual:Str}{st:Stmt}{f:Addr}{oc:Value}{od an:Option Addr}{osl:Array (Option Value)}{kV doc pm cdv ct:Value}(l:K.lookup f=some ⟨oc,od,.func (fnOf x qual (gU st) (fb st) (bp st) .none kV doc pm an cdv ct),osl⟩) (c:codeIn K cdv qual=true)(k:keepIn K (.ref f)=true):aK K x qual st f (fnOf x qual (gU st) (fb st) (bp st) .none kV doc pm an cdv ct):=⟨⟨oc,od,kV,doc,pm,an,cdv,ct,osl,rfl,l,c⟩,k⟩
end
theorem ky{A:Around}{k:Nat}(hr:b7 k A):A.units+1<cLine:=qI (Nat.add_le_add_left (by decide:1<=64) _) hr.units
section
variable{X:Cx}
theorem pv(i:Nat){x:Str}{pos:Pos}(hN:X.N[i]? =some x:=by rfl)(hv:qO X.env.scope x:=by first |exact Or.inl rfl |exact Or.inr (Or.inl rfl) |exact Or.inr (Or.inr rfl))(hd:(x==("__debug__" :Str))=false:=by decide) (hcd:(x==("__classdict__" :Str))=false:=by decide):PE X (.Name x pos) (dX i):=F7 hN hv hd hcd
end
theorem az{A B:Prop}(h:B):if false=true then A else B:=by rw[af cM];exact h
theorem aD{A B:Prop}(h:A):if true=true then A else B:=by rw[ah rfl];exact h
theorem cN{c A B:Prop} [Decidable c](h1:c->A)(h2:¬c->B):if c then A else B:=by
 by_cases h:c
 ·rw[ah h];exact h1 h
 ·rw[af h];exact h2 h
def ae(H H':Hp):Prop:=∀b o,H b=some o->H' b=some o
theorem ae.refl(H:Hp):ae H H:=λ_ _ h=>h
theorem ae.trans{H H1 H2:Hp}(a:ae H H1)(b:ae H1 H2):ae H H2:=λc o h=>b c o (a c o h)
theorem ae.free{H H':Hp}(e:ae H H'){l:Addr}(h:H' l=Option.none):H l=Option.none:=by
 cases q:H l with
 |none=>rfl
 |some o=>rw[e l o q]at h;cases h
theorem ae.seq{K:ax}{H H':Hp}{a:Addr}{xs:ε}(e:ae H H')(h:aj K H a xs):aj K H' a xs:=by
 rcases h with (h |⟨o,h⟩) |h
 ·exact .inl (.inl (e _ _ h))
 ·exact .inl (.inr ⟨o,e _ _ h⟩)
 ·exact .inr h
theorem ae.made{H H1:Hp}{x dx C:Addr}(nx:H x=Option.none)(nd:H dx=Option.none)(k:∀b o,(upd (upd H dx (.own x)) x (.ins C dx [])) b=some o->b≠x->H1 b=some o):ae H H1:=λb o e=>k b o (by rw[ay (aH e nx),ay (aH e nd)];exact e) (aH e nx)
end L2
namespace L2
open PySem PySem.Spec PyProof.Rows
structure tX(h:Heap)(C a dx T:Addr)(n:Int):Prop where
 ob:∃vs sl,h.get? a=some ⟨.ref C,some dx,.fields vs,sl⟩/\ (vs[1]? =some .none\/(vs[1]? =some (.ref T)/\∃oT ts x3,h.get? T=some oT/\oT.data=.fields ts/\ts[3]? =some x3))
 dc:∃mA tk,h.Ns1 dx mA/\mA "line"=some (.int n tk)
 na:dx≠a
 nT:T≠a
 nd:T≠dx
def w_(h:Heap)(C a dx T:Addr):Prop:=∃vs sl,h.get? a=some ⟨.ref C,some dx,.fields vs,sl⟩/\vs[1]? =some (.ref T)
theorem tX.keep{h h':Heap}{C a dx T:Addr}{n:Int}(x:tX h C a dx T n)(k:∀b o,(b=a\/b=dx\/b=T)->h.get? b=some o->h'.get? b=some o):tX h' C a dx T n:=by
 obtain⟨⟨vs,sl,ha,r⟩,⟨mA,tk,⟨o,es,ep,e1,e2⟩,l⟩,na,nT,nd⟩:=x;refine⟨⟨vs,sl,k _ _ (.inl rfl) ha,?_⟩,⟨mA,tk,⟨o,es,ep,k _ _ (.inr (.inl rfl)) e1,e2⟩,l⟩,na,nT,nd⟩;rcases r with r |⟨r,oT,ts,x3,hT,hd,h3⟩
 ·exact .inl r
 ·exact .inr ⟨r,oT,ts,x3,k _ _ (.inr (.inr rfl)) hT,hd,h3⟩
theorem w_.keep{h h':Heap}{C a dx T:Addr}(x:w_ h C a dx T)(k:∀o,h.get? a=some o->h'.get? a=some o):w_ h' C a dx T:=let ⟨vs,sl,ha,r⟩:=x;⟨vs,sl,k _ ha,r⟩
structure jA(X:Cx)(C:Addr)(E:XK)(pins:η)(σ:St)(H:Hp)(a dx T:Addr)(n:Int)(s:Shared):Prop where
 inv:Inv X pins σ H s
 at_:tX s.heap C a dx T n
 fa:fD X pins H a
 fd:X.s₀.heap.get? dx=none/\dx≠X.env.locals
 hd:H dx=none
 pd:∀p∈X.pn++pins,p.1≠dx
 fT:fD X pins H T
 ew:E (.int n 0) none H
def XJ(X:Cx)(C:Addr)(E:XK)(e:Value)(s:Shared):Prop:=∃pins σ H a dx T n,e=.ref a/\jA X C E pins σ H a dx T n s
def oV(X:Cx)(C:Addr)(E:XK)(e:Value)(s:Shared):Prop:=∃pins σ H a dx T n,e=.ref a/\jA X C E pins σ H a dx T n s/\w_ s.heap C a dx T
theorem oV.xi{X:Cx}{C:Addr}{E:XK}{e:Value}{s:Shared}(h:oV X C E e s):XJ X C E e s:=let ⟨pins,σ,H,a,dx,T,n,h1,h2,_⟩:=h;⟨pins,σ,H,a,dx,T,n,h1,h2⟩
section
variable{X:Cx}{C:Addr}{E:XK}{pins:η}{σ:St}{H:Hp}{a dx T:Addr}{n:Int}{s:Shared}
theorem fD.xb(I:Inv X pins σ H s){b:Addr}(f:fD X pins H b):b ∉ frs X.stack:=λz=>by
 rcases aX.mp (I.sT b z)with q |q
 ·exact f.2.1 q
 ·exact f.2.2.1 q
theorem Inv.slots{h1:Heap}(I:Inv X pins σ H s)(x:Heap.SlotsOnly (frs X.stack) s.heap h1):Inv X pins σ H {s with heap:=h1}:=by
 have Ij:∀b o u,H b=some o->s.heap.get? b=some u->h1.get? b=some u:=λb o u hb hu=>by rw[x.2.1 b λz=>by rw[I.zS b z]at hb;cases hb];exact hu
 have hok:cu X.prog X.w H h1:=λb o hb=>(I.hok b o hb).stay (λc u hc hu=>by
  rcases hc with rfl |hc
  ·exact Ij _ _ _ hb hu
  ·exact Ij _ _ _ hc hu) (λ_ z=>z) λ_ _ z=>z
 refine I.call (h':=h1) (ch:=[]) (g':=s.gens) (t':=s.toks) (d':=s.drawn) ?_ hok I.bare (λb z=>absurd z (by simp));exact⟨λb o hb _ nf _=>by rw[x.2.1 b nf];exact hb,λb o hb _ _ _=>x.2.2 b o hb,λ_ _ _ z _=>z,λb o hb _=>let ⟨sl,e⟩:=x.2.2 b o hb;⟨_,e⟩,λ_ _ z=>z,λ_ _ _ z=>z,λ_ ps z=>⟨#[],by simpa using z⟩⟩
theorem jA.xb(Z:jA X C E pins σ H a dx T n s):dx ∉ frs X.stack:=λz=>by
 rcases aX.mp (Z.inv.sT dx z)with q |q
 ·exact Z.fd.2 q
 ·obtain⟨o,ho,_⟩:=(Z.inv.ok.fO.mem q).2;rw[Z.fd.1]at ho;cases ho
theorem jA.slots{h1:Heap}(Z:jA X C E pins σ H a dx T n s)(x:Heap.SlotsOnly (frs X.stack) s.heap h1):jA X C E pins σ H a dx T n {s with heap:=h1}:=⟨Z.inv.slots x,Z.at_.keep λb o hb e=>by
  have nb:b ∉ frs X.stack:=by
   rcases hb with rfl |rfl |rfl
   ·exact Z.fa.xb Z.inv
   ·exact Z.xb
   ·exact Z.fT.xb Z.inv
  show h1.get? b=some o;rw[x.2.1 b nb];exact e,Z.fa,Z.fd,Z.hd,Z.pd,Z.fT,Z.ew⟩
theorem Ik{h:Heap}{b:Addr}{o:Obj}{vs:Array Value}{i:Nat}{x:Value}(e:h.get? b=some o)(d:o.data=.fields vs):(h.update b (Obj.mapFields (·.setIfInBounds i x))).get? b=some (o.mapFields (·.setIfInBounds i x))/\(o.mapFields (·.setIfInBounds i x)).data=.fields (vs.setIfInBounds i x):=⟨n_ _ e (FO (qH d _)),qH d _⟩
theorem jA.entry{oT:Obj}{ts:Array Value}{i:Nat}{x x3:Value}(Z:jA X C E pins σ H a dx T n s)(hT:s.heap.get? T=some oT)(hd:oT.data=.fields ts)(h3:ts[3]? =some x3):jA X C E pins σ H a dx T n {s with heap:=s.heap.update T (Obj.mapFields (·.setIfInBounds i x))}:=by
 have oth:∀b o,b≠T->s.heap.get? b=some o->(s.heap.update T (Obj.mapFields (·.setIfInBounds i x))).get? b=some o:=λb o hb e=>(iL _ _ (cq hb)).trans e
 obtain⟨u1,u2⟩:=Ik (i:=i) (x:=x) hT hd;refine⟨Z.inv.AU (t':=s.toks) (ch:=[T]) (λb o hb e=>oth b o (λq=>hb (by simp[q])) e) (λb hb=>by rw[sN.mp hb];exact Z.fT),?_,Z.fa,Z.fd,Z.hd,Z.pd,Z.fT,Z.ew⟩;obtain⟨⟨vs,sl,ha,r⟩,⟨mA,tk,⟨o,es,ep,e1,e2⟩,l⟩,na,nT,nd⟩:=Z.at_;refine⟨⟨vs,sl,oth _ _ (cq nT) ha,?_⟩,⟨mA,tk,⟨o,es,ep,oth _ _ (cq nd) e1,e2⟩,l⟩,na,nT,nd⟩;rcases r with r |⟨r,_⟩
 ·exact .inl r
 ·refine .inr ⟨r,_,_,?_,u1,u2,?_⟩
  ·exact if i=3 then x else x3
  ·have hs:3<ts.size:=(zG.mp h3).1;by_cases q:i=3
   ·subst q;rw[ah rfl];simp[hs]
   ·rw[af q,Array.getElem?_setIfInBounds_ne q];exact h3
theorem Il{A':ρ}{head:Value}{hadNext:Bool}{L:Addr}(hst:X.stack=X.env::X.outer)(hf:X.env.frame=some L)(Z:jA X C E pins σ H a dx T n s):wpAny (model X.prog X.w) X.A (do let fo<-frameOf X.env;let pl<-entryPlaceOf L hadNext;let en<-EntryCells.newEntry head fo .none (rawInt L) .none pl;setField (.ref a) 1 en)
   (λ_ s'=>oV X C E (.ref a) s') A' s:=by
 have fr:X.A.frames=some (X.env::X.outer):=by rw[<-hst];exact Z.inv.ok.frames
 have fl:=Z.inv.stack;rw[hst]at fl;refine ai (wpAny_frameOf_fun fr fl hf λh1 so=>?_);have so':Heap.SlotsOnly (frs X.stack) s.heap h1:=by rw[hst];exact so
 have Z1:=Z.slots so';refine ai (wpAny_entryPlaceOf λpl hpl=>?_);unfold EntryCells.newEntry newFields;refine ai (jo ?_ (hpl.sizeOk5 _ _ _ _ _));obtain⟨⟨vs,sl,ha,r⟩,⟨mA,tk,⟨o,es,ep,e1,e2⟩,l⟩,na,nT,nd⟩:=Z1.at_;have hv1:1<vs.size:=by rcases r with r |⟨r,_⟩<;>exact(zG.mp r).1
 have new:∀b ob,h1.get? b=some ob->b≠h1.objs.size:=λb ob e=>bQ (a7 e)
 refine lG (bu _ ha) rfl hv1 ?_;obtain⟨u1,u2⟩:=Ik (i:=1) (x:=.ref h1.objs.size) (bu {cls:=.type "traceback",dict:=none,data:=.fields ([head,.ref L,.none,rawInt L,.none]++(if pl.isEmpty then List.replicate 6 Value.none else pl)).toArray} ha) rfl;have I2:=Z1.inv.kept (t':=s.toks) (h':=h1.push {cls:=.type "traceback",dict:=none,data:=.fields ([head,.ref L,.none,rawInt L,.none]++(if pl.isEmpty then List.replicate 6 Value.none else pl)).toArray}) λb u e=>bu _ e
 have fN:fD X pins H h1.objs.size:=Z1.inv.jx (aJ _) (Z1.inv.hok.fresh (aJ _));have oth:∀b ob,b≠a->(h1.push {cls:=.type "traceback",dict:=none,data:=.fields ([head,.ref L,.none,rawInt L,.none]++(if pl.isEmpty then List.replicate 6 Value.none else pl)).toArray}).get? b=some ob->
   ((h1.push {cls:=.type "traceback",dict:=none,data:=.fields ([head,.ref L,.none,rawInt L,.none]++(if pl.isEmpty then List.replicate 6 Value.none else pl)).toArray}).update a (Obj.mapFields (·.setIfInBounds 1 (.ref h1.objs.size)))).get? b=some ob:=λb ob hb e=>
  (iL _ _ (cq hb)).trans e
 refine⟨pins,σ,H,a,dx,h1.objs.size,n,rfl,⟨I2.AU (t':=s.toks) (ch:=[a]) (λb ob hb e=>oth b ob (λq=>hb (by simp[q])) e) (λb hb=>by rw[sN.mp hb];exact Z.fa),?_,Z.fa,Z.fd,Z.hd,Z.pd,fN,Z.ew⟩,?_⟩
 ·refine⟨⟨_,_,u1,.inr ⟨by simp[hv1],_,_,rawInt L,oth _ _ (cq (new _ _ ha)) (cw h1 rfl),rfl,?_⟩⟩,⟨mA,tk,⟨o,es,ep,oth _ _ na (bu _ e1),e2⟩,l⟩,na,cq (new _ _ ha),cq (new _ _ e1)⟩;simp
 ·exact⟨_,_,u1,by simp[hv1]⟩
theorem A0{A':ρ}{e:Value}{L:Addr}(hst:X.stack=X.env::X.outer)(hf:X.env.frame=some L)(h:XJ X C E e s):wpAny (model X.prog X.w) X.A (noteFrame e X.env) (λ_ s'=>oV X C E e s') A' s:=by
 obtain⟨pins,σ,H,a,dx,T,n,rfl,Z⟩:=h;obtain⟨vs,sl,ha,r⟩:=Z.at_.ob;unfold noteFrame;simp only[hf];rcases r with r |⟨r,oT,ts,x3,hT,hd,h3⟩
 ·refine ai (qz ha rfl r ?_);rw[af (by decide)];exact Il hst hf Z
 ·refine ai (qz ha rfl r ?_);rw[ah (by simp)];refine ai (qz hT hd h3 ?_);by_cases q:(x3==rawInt L)=true
  ·rw[ah q];exact aB ⟨pins,σ,H,a,dx,T,n,rfl,Z,vs,sl,ha,r⟩
  ·rw[af q];refine ai (lG hT hd (zG.mp h3).1 ?_);exact Il hst hf (Z.entry hT hd h3)
theorem xf{A':ρ}{e:Value}{fo:Option Addr}(h:oV X C E e s):wpAny (model X.prog X.w) X.A (setFlight e fo) (λ_ s'=>oV X C E e s') A' s:=by
 obtain⟨pins,σ,H,a,dx,T,n,rfl,Z,tb⟩:=h;obtain⟨vs,sl,ha,r⟩:=Z.at_.ob;obtain⟨vs',sl',ha',r'⟩:=id tb;rw[ha]at ha';cases ha';rcases r with r |⟨r,oT,ts,x3,hT,hd,h3⟩
 ·rw[r]at r';cases r'
 ·unfold setFlight;refine ai (qz ha rfl r ?_);rw[ah (by simp)];refine lG hT hd (zG.mp h3).1 ?_;refine⟨pins,σ,H,a,dx,T,n,rfl,Z.entry hT hd h3,tb.keep λo e=>(iL _ _ Z.at_.nT).trans e⟩
abbrev XI(X:Cx)(C:Addr)(E:XK):Value->Shared->Prop:=XJ X.bZ C E
theorem Im{L:Addr}(hst:X.stack=X.env::X.outer)(hf:X.env.frame=some L)(hx:X.xe=XI X C E):PassesOwn (model X.prog X.w) X.A X.env X.xe:=by
 intro e s h;rw[hx]at h ⊢;refine di (A0 (X:=X.bZ) (A':=λ_ _=>False) hst hf h) (λ_ s' h'=>?_) λ_ _ z=>z.elim
 obtain⟨pins,σ,H,a,dx,T,n,rfl,Z,vs,sl,ha,r⟩:=id h';refine ai (qz ha rfl r ?_);rw[af (by simp)];exact di (xf (X:=X.bZ) (A':=λ_ _=>False) h') (λ_ _ z=>z.xi) λ_ _ z=>z.elim
end
end L2
namespace L2
open PySem PySem.Spec PyProof.Rows
def dZ(P:Program)(w:World)(C:Addr):jy:=λouter H s E e s'=>∃(H':Hp)(a dx T:Addr)(n:Int),e=.ref a/\s'.os=s.os/\AllBare s'.gens/\Un (frs outer) [] H H' s.heap s'.heap/\cu P w H' s'.heap/\ tX s'.heap C a dx T n/\s.heap.objs.size<=a/\s.heap.objs.size<=T/\s.heap.get? dx=none/\H' dx=none/\H' a=none/\H' T=none/\E (.int n 0) none H'
section
variable{X:Cx}{C:Addr}{E:XK}
theorem Inv.Io{pins:η}{σ:St}{H:Hp}{s:Shared}{b:Addr}(I:Inv X pins σ H s)(hx:X.ex=[])(h:s.heap.get? b=none):X.s₀.heap.get? b=none/\b≠X.env.locals:=by
 constructor
 ·cases q:X.s₀.heap.get? b with
  |none=>rfl
  |some o=>obtain⟨o',e⟩:=I.base.there b o q (by rw[hx];simp);rw[h]at e;cases e
 ·rintro rfl
  obtain⟨m,⟨o,_,_,e,_⟩,_⟩:=I.loc;rw[h]at e;cases e
theorem gW(hx:X.xe=XI X C E)(he:X.ex=[]):kc (dZ X.prog X.w C) X E:=by intro pins σ H s e s' I h;rw[hx];obtain⟨H',a,dx,T,n,rfl,h1,h2,h3,h4,h5,h6,h7,h8,hd,h9,h10,h11⟩:=h;have I':=I.zX h1 h3 h4 h2 (λb hb=>absurd hb (by simp));exact⟨pins,σ,H',a,dx,T,n,rfl,I'.c9 _,h5,I.jx h6 h9,I.Io he h8,hd,(λp z q=>by have w:=(I.pin p z).1;rw[q,h8]at w;cases w),I.jx h7 h10,h11⟩
theorem dP.wide{F:ρ}{st:List Stmt}{t:TS}(h:dP (X.c9 F) st t)(hF:∀e s,F e s->X.xe e s):dP X st t:=λpins s σ H D I q=>di (h pins s σ H D (I.c9 F) q) (λf s' z=>z.iV) λe s' z=>hF e s' z
end
section
variable{P:Program}{w:World}{K:ax}{mg:τ}{base:Heap}{C:Addr}
theorem UA{N:γ}{qual:Str}{scope:Scope}{f:Addr}{cdv:Value}{A:Around}{outer:List Env}{s s':Shared}{H:Hp}{E:XK}{e:Value} (h:XI (bI (dZ P w C) P w K mg base N qual scope f cdv A outer s H E) C E e s'):(bI (dZ P w C) P w K mg base N qual scope f cdv A outer s H E).xe e s':=by
 show wpAny (model P w) _ (leaving _ e) _ _ s';unfold leaving;refine ai (di (A0 (X:=(bI (dZ P w C) P w K mg base N qual scope f cdv A outer s H E).bZ) (A':=λ_ _=>False) rfl rfl h) (λ_ s1 h1=>?_) λ_ _ z=>z.elim);refine di (xf (X:=(bI (dZ P w C) P w K mg base N qual scope f cdv A outer s H E).bZ) (A':=λ_ _=>False) h1) (λ_ s2 h2=>?_) λ_ _ z=>z.elim
 obtain⟨pins,σ,H',a,dx,T,n,rfl,Z⟩:=h2.xi;have sz:∀{b},fD (bI (dZ P w C) P w K mg base N qual scope f cdv A outer s H E).bZ pins H' b->s.heap.objs.size<=b:=λz=>z.2.2.2.1.resolve_left (by intro q;cases q)
 exact⟨H',a,dx,T,n,rfl,Z.inv.os,Z.inv.bare,Z.inv.base,Z.inv.hok,Z.at_,sz Z.fa,sz Z.fT,Z.fd.1,Z.hd,Z.fa.1,Z.fT.1,Z.ew⟩
theorem aK.UB{x qual:Str}{st:Stmt}{f:Addr}{fd:FuncData}{N ps:γ}{k:Nat}{sp:Sp}(F:aK K x qual st f fd)(S:mY N ps (bp st)) (hbody:∀(cdv:Value)(A:Around)(outer:List Env)(s:Shared)(H:Hp)(vs:ε)(Q:VK)(E:XK),b7 k (A.deeper (envOfC qual (bp st) s.heap.objs.size f cdv))->sp vs H Q E->∃t,dP ((bI (dZ P w C) P w K mg base N qual (bp st) f cdv A outer s H E).c9 (XI (bI (dZ P w C) P w K mg base N qual (bp st) f cdv A outer s H E) C E)) (fb st) t/\ t {nx:=λ_ H'=>Q .aw H',rt:=Q} (start N vs) H)(len:∀vs H Q E,sp vs H Q E->vs.length=ps.length:=by intro _ _ _ _ h;cases h;subst_vars;rfl):aE P w K mg base (dZ P w C) (k+1) f fd ps sp:=by
 obtain⟨oc,od,kV,doc,pm,an,cdv,ct,osl,rfl,lk,hcd⟩:=F.ex;refine Am lk hcd S len λA outer s H vs Q E hr hsp=>?_
 obtain⟨t,h,q⟩:=hbody cdv A outer s H vs Q E hr hsp;exact⟨t,h.wide λe s' z=>UA z,q⟩
end
section
variable{X:Cx}{pins:η}{σ:St}{H:Hp}{s:Shared}
def rb(H:Hp)(a:Addr):Hp:=λb=>if b=a then none else H b
theorem kz{H:Hp}{a b:Addr}(h:b≠a):rb H a b=H b:=af h
theorem xg{H:Hp}{a:Addr}:rb H a a=none:=ah rfl
def Ip:HO->Bool
 | .ext _=>true
 | .xd _=>true
 |_=>false
theorem Inv.drop{a:Addr}{o:HO}(I:Inv X pins σ H s)(ha:H a=some o)(l:Ip o=true):Inv X pins σ (rb H a) s:=by
 have ne:∀b u,H b=some u->Ip u=false->b≠a:=λb u e q z=>by subst z;rw[ha]at e;cases e;rw[l]at q;cases q
 have aw:∀b,H b=none->rb H a b=none:=λb e=>by
  by_cases q:b=a
  ·rw[q];exact xg
  ·rw[kz q];exact e
 have u:=I.base;refine⟨I.ok,I.os,I.bare,⟨u.keep,u.slot,λb o e n hx=>aw b (u.free b o e n hx),u.there,λb xs e=>?_,λb o' u' e=>?_,λb ps e=>?_⟩,I.loc,I.cell,aw _ I.free,λx c e=>aw _ (I.fC x c e),λp hp=>?_,λb u' e=>?_,I.len⟩
 ·have z:=u.tups b xs e;rw[kz (ne b _ z rfl)];exact z
 ·have z:=u.iR b o' u' e;rw[kz (ne b _ z rfl)];exact z
 ·obtain⟨m,z⟩:=u.jN b ps e;exact⟨m,by rw[kz (ne b _ z rfl)];exact z⟩
 ·obtain⟨h1,h2,h3⟩:=I.pin p hp;exact⟨h1,aw _ h2,h3⟩
 ·have nb:b≠a:=λq=>by rw[q,xg]at e;cases e
  rw[kz nb]at e;refine(I.hok b u' e).stay (λ_ _ _ z=>z) (λc z=>?_) λc xs z=>?_
  ·rw[kz (ne c _ z rfl)];exact z
  ·rw[kz (ne c _ z rfl)];exact z
end
def kA(C t a:Addr):Heap->Prop:=λh=>h.get? a=some ⟨.ref C,none,.fields #[.ref t,.none,.none,.none,.bool false,.none], #[]⟩
def m3(C t dx a:Addr):Heap->Prop:=λh=>h.get? a=some ⟨.ref C,some dx,.fields #[.ref t,.none,.none,.none,.bool false,.none], #[]⟩
structure XC(K:ax)(C N fI:Addr):Prop where
 cls:∃nm q bs sn sub ab col dd k0 k1 k2 k3 k5,K.lookup C=some (excClassObj nm q C N bs [.type "Exception",.type "BaseException",.type "object"] true sn sub ab col dd k0 k1 k2 k3 k5 "Exception.__new__")
 ok:PySem.W.nsOkIn K N=true
 init:nsIn K N "__init__"=some (some (.ref fI))
 sa:nsIn K N "__setattr__"=some none
 ln:nsIn K N "line"=some none
 ga:nsIn K N "__getattribute__"=some none
 gt:nsIn K N "__getattr__"=some none
 fn:isFn K (.ref fI)=true
 kp:keepIn K (.ref C)=true
theorem XC.ns{K:ax}{C N fI:Addr}{h:Heap}(c:XC K C N fI)(X:K.In h):h.Ns N (h.nsMap N):=.of_isNs (PySem.W.isNs_of_in X c.ok)
theorem XC.aw{K:ax}{C N fI:Addr}{h:Heap}(c:XC K C N fI)(X:K.In h){x:Str}(e:nsIn K N x=some none):h.nsMap N x=none:=PySem.W.ns_none_of X (c.ns X) e
section
variable{prog:Program}{w:World}{A:Around}{E:ρ}{h:Heap}{g:Array GenState}{d:Drawn}{t:Nat}{os:OsState}
variable{nm q:Str}{C N:Addr}{bs:ω}{sn:γ}{sub:ω}{ab:Bool}{col:Option Bool}{dd:Option Addr}{k0 k1 k2 k3 k5:Option Value}
noncomputable def jB(h:Heap)(C:Addr)(vs:ω):Heap:=(h.push {cls:=.type "tuple",data:=.seq vs.toArray}).push {cls:=.ref C,data:=.fields #[.ref h.objs.size,.none,.none,.none,.bool false,.none]}
theorem xh{C:Addr}{vs:ω}{b:Addr}{o:Obj}(e:h.get? b=some o):(jB h C vs).get? b=some o:=bu _ (bu _ e)
theorem Iq{C:Addr}{vs:ω}:(jB h C vs).get? (h.objs.size+1)=some ⟨.ref C,none,.fields #[.ref h.objs.size,.none,.none,.none,.bool false,.none], #[]⟩:=by
 have:=cw (h.push {cls:=.type "tuple",data:=.seq vs.toArray}) (o:= {cls:=.ref C,data:=.fields #[.ref h.objs.size,.none,.none,.none,.bool false,.none]}) rfl
 rwa [e8]at this
theorem UC{mN:τ}{vs:ω}{fI:Addr}{oI:Obj}{Q:Fin->Shared->Prop} (cC:h.get? C=some (excClassObj nm q C N bs [.type "Exception",.type "BaseException",.type "object"] true sn sub ab col dd k0 k1 k2 k3 k5 "Exception.__new__"))(cn:h.Ns N mN)(ci:mN "__init__"=some (.ref fI)) (cf:h.get? fI=some oI)(cfc:oI.cls=.type "function")(cz:vs.length<=sizeLine) (k:wpAny (model prog w) A (call (.ref fI) (.ref (h.objs.size+1)::vs)) (λr s'=>r=.none/\Q (.done (.ret (.ref (h.objs.size+1)))) s') E ⟨jB h C vs,g,d,t,os⟩):wpAny (model prog w) A (Builtin.«type.__call__» ⟨.ref C::vs,[]⟩) Q E ⟨h,g,d,t,os⟩:=by
 have FE:=F.excBase_Exception
 repeat (first |(with_reducible refine kg cC ?_) |(with_reducible refine wpAny_madeBy_exc cC ?_) |wp_step)
 refine codeAny_call_builtin_code (Rh _ FE.quiet) (wpAny_check_new_sub FE cC ?_);refine codeAny_exc_new_sub FE cC ?_ cz;show wpAny _ _ _ _ _ ⟨jB h C vs,g,d,t,os⟩;have cC1:(jB h C vs).get? C=_:=xh cC;have cf1:(jB h C vs).get? fI=_:=xh cf;have cn1:(jB h C vs).Ns N mN:=let ⟨o,es,ep,e,r⟩:=cn;⟨o,es,ep,xh e,r⟩
 have ce:=Iq (h:=h) (C:=C) (vs:=vs);have cc:(Value.ref C::[Value.type "Exception",.type "BaseException",.type "object"]).contains (.ref C)=true:=by simp
 unfold isInstance
 repeat (first |(with_reducible refine kg ce ?_) |(with_reducible refine Ri cC1 ?_;rw[cc]) |wp_step)
 show wpAny _ _ (typeLookup (.ref C) _) _ _ _;refine vV cC1 cn1 FE.mroIs FE.init.lookup ?_;rw[ci];refine jn (ai ?_);unfold bindSpecial;refine ai (vR (T:="function") ⟨_,cf1,cfc⟩ ?_);rw[ah (by decide)];refine aB (ai (di k (λr s' hr=>?_) λ_ _ x=>x));obtain⟨rfl,hQ⟩:=hr
 wp_walk
 exact hQ
theorem UD{mN:τ}{vs:ω}{fI:Addr}{oI:Obj}{Q:ρ} (cC:h.get? C=some (excClassObj nm q C N bs [.type "Exception",.type "BaseException",.type "object"] true sn sub ab col dd k0 k1 k2 k3 k5 "Exception.__new__"))(cn:h.Ns N mN)(ci:mN "__init__"=some (.ref fI)) (cf:h.get? fI=some oI)(cfc:oI.cls=.type "function")(cz:vs.length<=sizeLine) (k:wpAny (model prog w) (A.under (.builtin "type.__call__" ⟨.ref C::vs,[]⟩)) (call (.ref fI) (.ref (h.objs.size+1)::vs)) (λr s'=>r=.none/\Q (.ref (h.objs.size+1)) s') E ⟨jB h C vs,g,d,t,os⟩):wpAny (model prog w) A (call (.ref C) vs) Q E ⟨h,g,d,t,os⟩:=by
 have f1:=tc_lookup;have f2:=tc_bind (.ref C);have cT:(⟨h,g,d,t,os⟩:Shared).TypeIs (.ref C) "type":=⟨_,cC,rfl⟩;refine sF (codeAny_of_tree ?_);show wpAny _ _ (callAny (.ref C) _) _ _ _
 repeat (any_goals (first |assumption |(with_reducible refine kg cC ?_) |wp_step))
 refine⟨rfl,?_⟩;exact codeAny_call_builtin_at (Rh _ (by decide+kernel)) entry_typeCall (wpAny_check_type_call_sub cC (UC cC cn ci cf cfc cz k))
end
end L2
namespace L2
open PySem PySem.Spec PyProof.Rows
open Builtin Builtin.ObjectAttr
theorem Ir:typeLookup (.type "Exception") "line"=pure none:=by rw[typeLookup_type,Rj];kernel_rfl
section
variable{prog:Program}{w:World}{A:Around}{E:ρ}{h:Heap}{g:Array GenState}{d:Drawn}{t:Nat}{os:OsState}
variable{nm q:Str}{C N x:Addr}{bs:ω}{sn:γ}{sub:ω}{ab:Bool}{col:Option Bool}{dd:Option Addr}{k0 k1 k2 k3 k5:Option Value} {mN:τ}{name:Str}{v:Value}{vs:Array Value}{sl:Array (Option Value)}
theorem UE{tk:Tok}{Q:Fin->Shared->Prop} (cC:h.get? C=some (excClassObj nm q C N bs [.type "Exception",.type "BaseException",.type "object"] true sn sub ab col dd k0 k1 k2 k3 k5 "Exception.__new__"))(cn:h.Ns N mN)(ca:mN name=none) (cB:typeLookup (.type "Exception") name=pure none)(cx:h.get? x=some ⟨.ref C,none,.fields vs,sl⟩) (k:∀h' tk',h'.get? x=some ⟨.ref C,some h.objs.size,.fields vs,sl⟩->h'.Ns1 h.objs.size (λy=>if y=name then some v else none)->(∀b o,b≠x->h.get? b=some o->h'.get? b=some o)->Q (.done (.ret .none)) ⟨h',g,d,tk',os⟩):wpAny (model prog w) A (Builtin.«object.__setattr__» ⟨[.ref x,.str name tk,v],[]⟩) Q E ⟨h,g,d,t,os⟩:=by
 have SE:=F.store_Exception;have sp:=SE.passes (.ref x);obtain⟨o,eo⟩:∃o:Obj,o=⟨.ref C,none,.fields vs,sl⟩:=⟨_,rfl⟩;rw[<-eo]at cx;have oc:o.cls=.ref C:=by rw[eo]
 have od:o.dict=none:=by rw[eo]
 have ot:o.data=.fields vs:=by rw[eo]
 unfold Builtin.«object.__setattr__»
 repeat (first |rw[refuse_eq] |(rw[refuseLoop_ref,sp]) |(with_reducible refine kg cx ?_;rw[oc]) |(with_reducible refine wpAny_mroOf_exc cC ?_) |(with_reducible refine vV cC cn SE.mro cB ?_;rw[ca]) |wp_step)
 rw[od,af (by simp[typeHasDict])];split
 ·rename_i z
  cases z
 split
 ·rename_i c z
  rw[ot]at z;cases z
 have x1:(h.push {cls:=.type "dict",data:=.dict #[]}).get? x=some o:=bu _ cx;have xs:x≠h.objs.size:=bQ (a7 cx);refine ai (wpAny_alloc' (ai (wpAny_update' x1 (aB ?_))));have gd:((h.push {cls:=.type "dict",data:=.dict #[]}).update x λo=> {cls:=o.cls,dict:=some h.objs.size,data:=o.data,slots:=o.slots}).get? h.objs.size=some {cls:=.type "dict",data:=.dict #[]}:=
  (Heap.get?_update_ne _ _ _ _ xs.symm).trans (Heap.get?_push_at rfl rfl)
 have nd:((h.push {cls:=.type "dict",data:=.dict #[]}).update x λo=> {cls:=o.cls,dict:=some h.objs.size,data:=o.data,slots:=o.slots}).Ns h.objs.size (λ_=>none):=
  ⟨_, #[],_,gd,rfl,λe he=>absurd he (by simp),λ_=>rfl⟩
 show wpAny _ _ (storeInDict h.objs.size (.str name tk) name v) _ _ _;unfold storeInDict newKeyGuard;refine ai (aB (ai (wpAny_nsSet1 (Heap.Ns1.of_empty nd) λh' hn' hs=>?_)));obtain⟨oD,esD,epD,Ah,Ai,Aj⟩:=hn'.count (Within.cons name v Within.nil);refine ai (wpAny_lookBehind Ah (by rw[Ai];exact pastItsLine_dict (bE Aj (by rw[bT,qE,aZ];omega))) ?_)
 wp_walk
 refine k h' _ ((hs.2 x xs).trans (by rw[eo]at x1;exact n_ _ x1 rfl)) hn' λb ob hb e=>?_
 exact(hs.2 b (bQ (a7 e))).trans ((Heap.get?_update_ne _ _ _ _ hb).trans (bu _ e))
theorem UG{tk:Tok}{R:Result->Shared->Prop}{sa owner:String}(SE:StoreFacts "Exception" [.type "Exception",.type "BaseException",.type "object"] sa owner) (cC:h.get? C=some (excClassObj nm q C N bs [.type "Exception",.type "BaseException",.type "object"] true sn sub ab col dd k0 k1 k2 k3 k5 "Exception.__new__"))(cn:h.Ns N mN)(ca:mN name=none) (cB:typeLookup (.type "Exception") name=pure none)(cx:h.get? x=some ⟨.ref C,none,.fields vs,sl⟩) (k:∀h' tk',h'.get? x=some ⟨.ref C,some h.objs.size,.fields vs,sl⟩->h'.Ns1 h.objs.size (λy=>if y=name then some v else none)->(∀b o,b≠x->h.get? b=some o->h'.get? b=some o)->R (.ok (.ret .none)) ⟨h',g,d,tk',os⟩):codeAny (model prog w) A (.call (.builtin sa) ⟨[.ref x,.str name tk,v],[]⟩) R ⟨h,g,d,t,os⟩:=Rk SE.slot.plain SE.entry (wpAny_check_sa SE cC cx rfl (UE cC cn ca cB cx k))
theorem UH{Q:Unit->Shared->Prop}{sa owner:String}(SE:StoreFacts "Exception" [.type "Exception",.type "BaseException",.type "object"] sa owner) (cC:h.get? C=some (excClassObj nm q C N bs [.type "Exception",.type "BaseException",.type "object"] true sn sub ab col dd k0 k1 k2 k3 k5 "Exception.__new__"))(cn:h.Ns N mN)(cs:mN "__setattr__"=none)(ca:mN name=none) (cB:typeLookup (.type "Exception") name=pure none)(cx:h.get? x=some ⟨.ref C,none,.fields vs,sl⟩) (k:∀h' tk',h'.get? x=some ⟨.ref C,some h.objs.size,.fields vs,sl⟩->h'.Ns1 h.objs.size (λy=>if y=name then some v else none)->(∀b o,b≠x->h.get? b=some o->h'.get? b=some o)->Q () ⟨h',g,d,tk',os⟩):wpAny (model prog w) A (setAttr (.ref x) name v) Q E ⟨h,g,d,t,os⟩:=by
 have f3:=SE.slot.bind (.ref x);obtain⟨o,eo⟩:∃o:Obj,o=⟨.ref C,none,.fields vs,sl⟩:=⟨_,rfl⟩;have cy:=cx;rw[<-eo]at cx;have oc:o.cls=.ref C:=by rw[eo]
 unfold setAttr callSpecial? specialOf
 repeat (any_goals (first |assumption |(with_reducible refine kg cx ?_;rw[oc]) |(with_reducible refine vV cC cn SE.mro SE.slot.lookup ?_;rw[cs]) |wp_step))
 refine UG SE cC cn ca cB cy λh' tk' a1 a2 a3=>?_
 repeat (any_goals (first |assumption |wp_step))
 exact k h' tk' a1 a2 a3
theorem UI{tk:Tok}{mA:τ}{dx:Addr}{Q:Fin->Shared->Prop} (cC:h.get? C=some (excClassObj nm q C N bs [.type "Exception",.type "BaseException",.type "object"] true sn sub ab col dd k0 k1 k2 k3 k5 "Exception.__new__"))(cn:h.Ns N mN)(ca:mN name=none) (cB:typeLookup (.type "Exception") name=pure none)(cx:h.get? x=some ⟨.ref C,some dx,.fields vs,sl⟩)(cd:h.Ns1 dx mA)(cv:mA name=some v) (k:Q (.done (.ret v)) ⟨h,g,d,t,os⟩):wpAny (model prog w) A (Builtin.«object.__getattribute__» ⟨[.ref x,.str name tk],[]⟩) Q E ⟨h,g,d,t,os⟩:=by
 have SE:=F.store_Exception;obtain⟨o,eo⟩:∃o:Obj,o=⟨.ref C,some dx,.fields vs,sl⟩:=⟨_,rfl⟩;rw[<-eo]at cx;have oc:o.cls=.ref C:=by rw[eo]
 have od:o.dict=some dx:=by rw[eo]
 have ot:o.data=.fields vs:=by rw[eo]
 unfold Builtin.«object.__getattribute__»
 repeat (first |(with_reducible refine kg cx ?_;rw[oc]) |(with_reducible refine vV cC cn SE.mro cB ?_;rw[ca]) |wp_step)
 split
 ·rename_i c z
  rw[ot]at z;cases z
 unfold instanceDict
 repeat (first |(with_reducible refine kg cx ?_;rw[oc]) |(with_reducible refine kg cC ?_) |wp_step)
 rw[od]
 repeat (first |(with_reducible refine wpAny_nsGet cd.ns ?_;rw[cv]) |wp_step)
 exact k
theorem UJ{M:Model}{nameV:Value}{o:Obj}{Q:Unit->Shared->Prop} (cC:h.get? C=some (excClassObj nm q C N bs [.type "Exception",.type "BaseException",.type "object"] true sn sub ab col dd k0 k1 k2 k3 k5 "Exception.__new__"))(cx:h.get? x=some o)(cc:o.cls=.ref C)(k:Q () ⟨h,g,d,t,os⟩):wpAny M A (checkBuiltinCall "BaseException.__getattribute__" ⟨[.ref x,nameV],[]⟩) Q E ⟨h,g,d,t,os⟩:=by
 have g1:builtinKind "BaseException.__getattribute__"=some .slot:=by decide+kernel
 have g2:splitId "BaseException.__getattribute__"=some ("BaseException","__getattribute__"):=by decide+kernel
 have g3:(Value.ref C::[Value.type "Exception",.type "BaseException",.type "object"]).contains (.type "BaseException")=true:=by simp
 have g4:=F.args_bexc_ga (.ref x) nameV;simp only[checkBuiltinCall,g1,g2];refine ai ?_
 ·unfold isInstance
  repeat (first |(with_reducible refine kg cx ?_;rw[cc]) |(with_reducible refine Ri cC ?_;rw[g3]) |wp_step)
  exact k
theorem UK{tk:Tok}{mA:τ}{dx:Addr}{R:Result->Shared->Prop} (cC:h.get? C=some (excClassObj nm q C N bs [.type "Exception",.type "BaseException",.type "object"] true sn sub ab col dd k0 k1 k2 k3 k5 "Exception.__new__"))(cn:h.Ns N mN)(ca:mN name=none) (cB:typeLookup (.type "Exception") name=pure none)(cx:h.get? x=some ⟨.ref C,some dx,.fields vs,sl⟩)(cd:h.Ns1 dx mA)(cv:mA name=some v) (k:R (.ok (.ret v)) ⟨h,g,d,t,os⟩):codeAny (model prog w) A (.call (.builtin "BaseException.__getattribute__") ⟨[.ref x,.str name tk],[]⟩) R ⟨h,g,d,t,os⟩:=Rk F.attrBase_Exception.ga.plain F.entry_bexc_ga (UJ cC cx rfl (UI cC cn ca cB cx cd cv k))
theorem UL{mA:τ}{dx:Addr}{expr:Bool}{Q:ρ} (cC:h.get? C=some (excClassObj nm q C N bs [.type "Exception",.type "BaseException",.type "object"] true sn sub ab col dd k0 k1 k2 k3 k5 "Exception.__new__"))(cn:h.Ns N mN)(cg:mN "__getattribute__"=none)(ct:mN "__getattr__"=none)(ca:mN name=none) (cB:typeLookup (.type "Exception") name=pure none)(cx:h.get? x=some ⟨.ref C,some dx,.fields vs,sl⟩)(cd:h.Ns1 dx mA)(cv:mA name=some v)(ch:handedOut v=pure v) (k:Q v ⟨h,g,d,t+1,os⟩):wpAny (model prog w) A (getAttr (.ref x) name expr) Q E ⟨h,g,d,t,os⟩:=by
 have AB:=F.attrBase_Exception;have f3:=AB.ga.bind (.ref x);have e0:(expr&&onTheHeap (Value.builtin "BaseException.__getattribute__"))=false:=by cases expr<;>rfl
 have e2:(Value.builtin "BaseException.__getattribute__"==Value.builtin "object.__getattribute__")=false:=by decide+kernel
 have e1:(onTheHeap (Value.ref C)&&Value.builtin "BaseException.__getattribute__"==Value.builtin "object.__getattribute__")=false:=by rw[e2];rfl
 obtain⟨o,eo⟩:∃o:Obj,o=⟨.ref C,some dx,.fields vs,sl⟩:=⟨_,rfl⟩;have cy:=cx;rw[<-eo]at cx;have oc:o.cls=.ref C:=by rw[eo]
 unfold getAttr getAttrBy
 repeat (any_goals (first |assumption |(with_reducible refine kg cx ?_;rw[oc]) |(with_reducible refine vV cC cn AB.mro AB.ga.lookup ?_;rw[cg]) |(with_reducible refine vV cC cn AB.mro AB.noGetattr ?_;rw[ct]) |wp_step))
 refine UK cC cn ca cB cy cd cv ?_
 repeat (any_goals (first |assumption |wp_step))
end
end L2
namespace L2
open PySem PySem.Spec PyProof.Rows
inductive Iu(C:Addr)(D:Ends)(σ:St)(y:V)(x:V)(H2:Hp):Prop
 |mk a t n:x=.ref a->y=.int n->H2 a=some (.ext (kA C t a))->(∀dx,H2 dx=none->dx≠a->D.nx σ (upd (upd H2 dx (.xd [("line",.int n)])) a (.ext (m3 C t dx a))))->Iu C D σ y x H2
def UM(C:Addr)(ta tv:TE):TS:=λD σ H=>tv σ H λy H1=>ta σ H1 λx H2=>Iu C D σ y x H2
theorem UN{C t dx a:Addr}{P:Program}{w:World}{H:Hp}{h:Heap}(e:m3 C t dx a h):ck P w H h a (.ext (m3 C t dx a)):=⟨e,⟨_,e⟩,λh1 h2 z k=>k _ z⟩
theorem UO{C t a:Addr}{P:Program}{w:World}{H:Hp}{h:Heap}(e:kA C t a h):ck P w H h a (.ext (kA C t a)):=⟨e,⟨_,e⟩,λh1 h2 z k=>k _ z⟩
section
variable{X:Cx}{o e value arg:Expr}{pos pos' cpos np:Pos}{ta tv:TE}{C N fI:Addr}{x:Str}{E:XK}
theorem UP(c:XC X.K C N fI)(ha:PE X o ta)(hv:PE X value tv)(hs:swapsWith value (some (.Attribute o "line" pos')) pos.line X.env=pure false):PS X (.Assign [.Attribute o "line" pos'] value pos) (UM C ta tv):=by
 intro pins s σ H D I h;refine plainObj_wpAny_Assign_Attribute (aG (hv pins s σ H _ I h) λu s1 ⟨y,H1,I1,ry,q⟩=>aG (ha pins s1 σ H1 _ I1 q) λov s2 ⟨z,H2,I2,rx,a,t,n,ex,ey,ea,q2⟩=>?_) hs;subst ex ey;obtain rfl:ov=Value.ref a:=rx;obtain⟨tk,rfl⟩:∃tk,u=Value.int n tk:=ry;obtain⟨nm,qn,bs,sn,sub,ab,col,dd,k0,k1,k2,k3,k5,lc⟩:=c.cls;have hC:=I2.bO _ _ lc;obtain⟨xa,_,_⟩:=I2.hok a _ ea;obtain⟨hp,g,d,tk2,os⟩:=s2;refine UH F.store_Exception hC (c.ns I2.bO) (c.aw I2.bO c.sa) (c.aw I2.bO c.ln) Ir xa λh' tk' a1 a2 a3=>?_
 have fr:H2 hp.objs.size=none:=I2.hok.fresh (aJ _);have na:hp.objs.size≠a:=mG (a7 xa);have an:∀b,H2 b=none->b≠a:=λb z q=>by rw[q,ea]at z;cases z
 have dn:∀b ob,hp.get? b=some ob->b≠hp.objs.size:=λb ob z=>bQ (a7 z)
 refine⟨σ,_,I2.un (t':=tk') (h':=h') ⟨λb ob eb n _ _=>a3 b ob (an b n) eb,λb ob eb n _ _=>⟨ob.slots,a3 b ob (an b n) eb⟩,λb ob eb n _=>?_,λb ob eb _=>?_,λb xs z=>?_,λb o' u' z=>?_,λb ps z=>⟨#[],?_⟩⟩ ?_,q2 hp.objs.size fr na⟩
 ·rw[ay (an b n),ay (dn b ob eb)];exact n
 ·by_cases q:b=a
  ·exact⟨_,by rw[q];exact a1⟩
  ·exact⟨ob,a3 b ob q eb⟩
 ·rw[ay (bg z ea (by intro y;cases y)),ay (aH z fr)];exact z
 ·rw[ay (bg z ea (by intro y;cases y)),ay (aH z fr)];exact z
 ·rw[ay (bg z ea (by intro y;cases y)),ay (aH z fr)];simpa using z
 ·intro b u eb;by_cases q:b=a
  ·subst q;rw[au]at eb;cases eb;exact UN a1
  ·rw[ay q]at eb;by_cases q':b=hp.objs.size
   ·subst q';rw[au]at eb;cases eb;refine⟨_,a2,λf=>?_⟩;show fA (List.lookup f [(("line" :Str),V.int n)]) _;by_cases z:f="line"
    ·subst z;rw[ah rfl];show fA (some (V.int n)) _;exact⟨tk,rfl⟩
    ·rw[af z];have e0:List.lookup f [(("line" :Str),V.int n)]=none:=by
      rw[oe,show(f==("line" :Str))=false from nV.mpr z];rfl
     rw[e0];exact True.intro
   ·rw[ay q']at eb;refine(I2.hok b u eb).stay (λcc v hc z=>a3 cc v ?_ z) (λcc z=>?_) λcc xs z=>?_
    ·rcases hc with rfl |hc
     ·exact q
     ·exact bg hc ea (by intro y;cases y)
    ·rw[ay (bg z ea (by intro y;cases y)),ay (aH z fr)];exact z
    ·rw[ay (bg z ea (by intro y;cases y)),ay (aH z fr)];exact z
end
theorem UQ{K:ax}{h:Heap}{D:Addr}{m:τ}{y:Str}{v:Value}(KX:K.In h)(G:h.Ns D m)(z:nsIn K D y=some (some v)):m y=some v:=by
 obtain⟨ob,es,ep,e1,e2,_,e4⟩:=G;unfold nsIn at z;split at z
 ·rename_i q
  have q2:=KX _ _ q;rw[e1]at q2;cases q2;cases e2;split at z
  ·rename_i en he
   cases z;rw[<-e4];unfold nsFind findBy;rw[<-Array.find?_toList,he];rfl
  ·split at z<;>cases z
 ·cases z
inductive tY(C:Addr)(vs:ε)(H:Hp)(Q:VK)(e0:XK):Prop
 |mk (a t:Addr) (n:Int):vs=[.ref a,.int n]->H a=some (.ext (kA C t a))->(∀dx,H dx=none->dx≠a->Q .aw (upd (upd H dx (.xd [("line",.int n)])) a (.ext (m3 C t dx a))))->tY C vs H Q e0
section
variable{X:Cx}{o e value arg:Expr}{pos pos' cpos np:Pos}{ta tv:TE}{C N fI:Addr}{x:Str}{E:XK}{fd:FuncData}{k:Nat}
theorem UR{pins:η}{σ:St}{H:Hp}{s:Shared}{n:Int}{u:Value}{E':ρ}{Q:ρ}(c:XC X.K C N fI)(F:aE X.prog X.w X.K X.mg X.base aM k fI fd ["self","line"] (tY C))(hb:Binds X.K fd ["self","line"] []) (hr:b7 (k+1) X.A)(hx:X.ex=[])(I:Inv X pins σ H s)(ru:RelV (.int n) u) (h:∀a dx T t s',jA X C (λ_ _ _=>True) pins σ H a dx T n s'->s'.heap.get? a=some ⟨.ref C,some dx,.fields #[.ref t,.none,.none,.none,.bool false,.none], #[]⟩->Q (.ref a) s'):wpAny (model X.prog X.w) X.A (call (.ref C) [u]) Q E' s:=by
 obtain⟨nm,qn,bs,sn,sub,ab,col,dd,k0,k1,k2,k3,k5,lc⟩:=c.cls;have hC:=I.bO _ _ lc;obtain⟨hp,g,d,tk,os⟩:=s;have hfn:∃oI,hp.get? fI=some oI/\oI.cls=.type "function":=by have z:PySem.W.typeIn X.K (.ref fI)=some (.type "function"):=ke.mp c.fn;have z':Option.map (λo:Obj=>o.cls) (X.K.lookup fI)=some (.type "function"):=z;obtain⟨oI,q1,q2⟩:=cF.mp z';exact⟨oI,I.bO _ _ q1,q2⟩
 obtain⟨oI,hI,hIc⟩:=hfn;have hi:hp.nsMap N "__init__"=some (.ref fI):=UQ I.bO (c.ns I.bO) c.init;refine UD hC (c.ns I.bO) hi hI hIc (by rw[aZ];show 1<=16777216;decide) ?_;have I2:Inv X pins σ (upd H (hp.objs.size+1) (.ext (kA C hp.objs.size (hp.objs.size+1)))) ⟨jB hp C [u],g,d,tk,os⟩:=
  I.laid (t':=tk) (h':=jB hp C [u]) (λb o e=>xh e) (mI _) (UO Iq)
 have hsp:tY C [.ref (hp.objs.size+1),.int n] (upd H (hp.objs.size+1) (.ext (kA C hp.objs.size (hp.objs.size+1)))) (λv H'=>v=.aw/\∃dx,upd H (hp.objs.size+1) (.ext (kA C hp.objs.size (hp.objs.size+1))) dx=none/\dx≠hp.objs.size+1/\
   H'=upd (upd (upd H (hp.objs.size+1) (.ext (kA C hp.objs.size (hp.objs.size+1)))) dx (.xd [("line",.int n)])) (hp.objs.size+1) (.ext (m3 C hp.objs.size dx (hp.objs.size+1)))) E0:=
  ⟨_,_,_,rfl,au,λdx h1 h2=>⟨rfl,dx,h1,h2,rfl⟩⟩
 refine sF (mH (F.run _ X.stack _ _ ⟨[.ref (hp.objs.size+1),u],[]⟩ [.ref (hp.objs.size+1),u] [.ref (hp.objs.size+1),.int n] _ _ (hr.make C [u] []) (I2.wL.make C [u] []) (hb _ [.ref (hp.objs.size+1),u] I2.bO rfl) (.cons rfl (.cons ru .nil)) hsp) λr s' hq=>?_);cases r with
 |error e=>exact False.elim hq
 |ok fl=>
  cases fl with
  |next=>exact False.elim hq
  |brk=>exact False.elim hq
  |cont=>exact False.elim hq
  |ret v'=>
   obtain⟨v,H',o1,o2,o3,o4,rv,ev,dx,nd,tZ,rfl⟩:=hq;subst ev;have I3:=I2.zX o1 o3 o4 o2 (λb hb=>absurd hb (by simp));have x1:m3 C hp.objs.size dx (hp.objs.size+1) s'.heap:=(I3.hok _ _ au).1;have hdx:upd (upd (upd H (hp.objs.size+1) (.ext (kA C hp.objs.size (hp.objs.size+1)))) dx (.xd [("line",.int n)])) (hp.objs.size+1) (.ext (m3 C hp.objs.size dx (hp.objs.size+1))) dx=some (.xd [("line",.int n)]):=by rw[ay tZ,au]
   obtain⟨mA,n1,n2⟩:=I3.hok _ _ hdx;have n3:∃tk,mA "line"=some (.int n tk):=by
    have z:=n2 "line";have e0:List.lookup ("line" :Str) [(("line" :Str),V.int n)]=some (V.int n):=by rw[oe,beq_self_eq_true]
    rw[e0]at z;obtain⟨u',eu,ru'⟩:=z.some_of;obtain⟨tk',rfl⟩:∃tk',u'=Value.int n tk':=ru';exact⟨tk',eu⟩
   obtain⟨tk',n3⟩:=n3;have I4:=(I3.drop au rfl).drop (a:=dx) (o:=.xd [("line",.int n)]) (by rw[kz tZ];exact hdx) rfl;have eH:rb (rb (upd (upd (upd H (hp.objs.size+1) (.ext (kA C hp.objs.size (hp.objs.size+1)))) dx (.xd [("line",.int n)])) (hp.objs.size+1) (.ext (m3 C hp.objs.size dx (hp.objs.size+1)))) (hp.objs.size+1)) dx=H:=by
    funext b;by_cases q:b=dx
    ·subst q;rw[xg];rw[ay tZ]at nd;exact nd.symm
    ·rw[kz q];by_cases q':b=hp.objs.size+1
     ·subst q';rw[xg];exact(I.hok.fresh (mI _)).symm
     ·rw[kz q',ay q',ay q,ay q']
   rw[eH]at I4;have nod:(jB hp C [u]).get? dx=none:=by
    cases q:(jB hp C [u]).get? dx with
    |none=>rfl
    |some ob=>have z:=o3.free dx ob q nd (by simp);rw[hdx]at z;cases z
   obtain rfl:v'=Value.none:=rv;refine⟨rfl,h (hp.objs.size+1) dx s'.heap.objs.size hp.objs.size s' ⟨I4,⟨⟨_,_,x1,.inl rfl⟩,⟨mA,tk',n1,n3⟩,tZ,mG (a7 x1),mG (let ⟨ob,_,_,z,_⟩:=n1;a7 z)⟩,I.jx (mI _) (I.hok.fresh (mI _)),I2.Io hx nod,(by rw[ay tZ]at nd;exact nd),(λp z q=>by have w:=(I2.pin p z).1;rw[q]at w;exact absurd (w.symm.trans nod) (by simp)),I4.jx (aJ _) (I4.hok.fresh (aJ _)),True.intro⟩ x1⟩
def US(E:XK)(ta:TE):TS:=λ_ σ H=>kn ta km σ H λvs H1=>∃n,vs=[.int n]/\E (.int n 0) none H1
theorem m7(c:XC X.K C N fI)(F:aE X.prog X.w X.K X.mg X.base aM k fI fd ["self","line"] (tY C))(hb:Binds X.K fd ["self","line"] [])(hr:b7 (k+1) X.A)(hex:X.ex=[])(hc:X.calm=true)(hx:X.xe=XI X C E) (hg:Gl X x)(hm:X.mg x=some (.ref C))(ha:PE X arg ta)(hs:starEach [arg] X.env=[(false,eval arg X.env)]:=by rfl)(hdb:(x==("__debug__" :Str))=false:=by decide):PS X (.Raise (some (.Call (.Name x np) [arg] [] cpos)) none pos) (US E ta):=by
 intro pins s σ H D I h;rw[arm_exec_Raise];show wpAny _ _ (do standAt pos;raiseStmt X.env (some (do let v<-eval (.Call (.Name x np) [arg] [] cpos) X.env;standAt pos;pure v)) none) _ _ s;refine ai (vL ?_);unfold raiseStmt;show wpAny _ _ ((do let v<-eval (.Call (.Name x np) [arg] [] cpos) X.env;standAt pos;pure v)>>=_) _ _ s;refine ai (ai (di (Q:=λ(v:Value)(s':Shared)=>∃(a t dx:Addr),v=.ref a/\X.K.In s'.heap/\s'.heap.get? a=some ⟨.ref C,some dx,.fields #[.ref t,.none,.none,.none,.bool false,.none], #[]⟩/\XI X C E (.ref a) s') (E:=X.xe) ?_ (λv s' hv=>ai (vL (aB ?_))) λ_ _ z=>z))
 ·refine qx (ow I hg hm ?_ hdb);refine callWith_K (h₀:=X.base) I.ok.mod.kj c.kp (aG (Q:=AP X pins σ λvs H1=>∃n,vs=[.int n]/\E (.int n 0) none H1) (aa ha ag hs cpos pins s σ H _ I ?_) λus s1 ⟨vs,H1,I1,r,n,ev,q⟩=>⟨I1.bO,?_⟩) hs rfl
  ·exact h
  ·subst ev;obtain⟨u,rfl,ru⟩:=vals1 r;refine UR c F hb hr hex I1 ru λa dx T t s2 Z ga=>?_
   exact⟨a,t,dx,rfl,Z.inv.bO,ga,pins,σ,H1,a,dx,T,n,rfl,Z.inv.c9 _,Z.at_,Z.fa,Z.fd,Z.hd,Z.pd,Z.fT,q⟩
 ·obtain⟨a,t,dx,rfl,kj,ga,q⟩:=hv;obtain⟨nm,qn,bs,sn,sub,ab,col,dd,k0,k1,k2,k3,k5,lc⟩:=c.cls;have hC:=kj _ _ lc;have g3:(Value.ref C::[Value.type "Exception",.type "BaseException",.type "object"]).contains (.type "BaseException")=true:=by simp
  obtain⟨hp,g,d,tk,os⟩:=s'
  repeat (first |(with_reducible refine kg ga ?_) |(with_reducible refine kg hC ?_) |(with_reducible refine Ri hC ?_;rw[g3]) |wp_step)
  refine wpAny_raiseNew_none (I.ok.hd hc) ?_;rw[hx];exact q
end
end L2
namespace L2
open PySem PySem.Spec PyProof.Rows
def rf(C dx a:Addr):Heap->Prop:=λh=>∃vs sl,h.get? a=some ⟨.ref C,some dx,.fields vs,sl⟩
inductive oW(dx:Addr)(n:Int)(h:Heap):Prop
 |mk mA tk:h.Ns1 dx mA->mA "line"=some (.int n tk)->oW dx n h
theorem UT{C dx a:Addr}{P:Program}{w:World}{H:Hp}{h:Heap}(e:rf C dx a h):ck P w H h a (.ext (rf C dx a)):=⟨e,(let ⟨_,_,z⟩:=e;⟨_,z⟩),λh1 h2 ⟨vs,sl,z⟩ k=>⟨vs,sl,k _ z⟩⟩
theorem UU{dx:Addr}{n:Int}{P:Program}{w:World}{H:Hp}{h:Heap}(e:oW dx n h):ck P w H h dx (.ext (oW dx n)):=⟨e,(let ⟨_,_,⟨o,_,_,z,_⟩,_⟩:=e;⟨o,z⟩),λh1 h2 ⟨mA,tk,⟨o,es,ep,z,r⟩,l⟩ k=>⟨mA,tk,⟨o,es,ep,k _ z,r⟩,l⟩⟩
inductive Iv(C:Addr)(Q:VK)(x:V)(H1:Hp):Prop
 |mk a dx n:x=.ref a->H1 a=some (.ext (rf C dx a))->H1 dx=some (.ext (oW dx n))->Q (.int n) H1->Iv C Q x H1
def UW(C:Addr)(ta:TE):TE:=λσ H Q=>ta σ H λx H1=>Iv C Q x H1
section
variable{X:Cx}{e:Expr}{pos:Pos}{ta:TE}{C N fI:Addr}
theorem UX(c:XC X.K C N fI)(he:PE X e ta)(hb:attributeBase e "line" X.env (eval e X.env)=eval e X.env):PE X (.Attribute e "line" pos) (UW C ta):=by intro pins s σ H Q I h;refine GK hb (aG (he pins s σ H _ I h) λu s1 ⟨x,H1,I1,rx,a,dx,n,ex,ea,ed,q⟩=>?_);subst ex;obtain rfl:u=Value.ref a:=rx;obtain⟨nm,qn,bs,sn,sub,ab,col,dd,k0,k1,k2,k3,k5,lc⟩:=c.cls;have hC:=I1.bO _ _ lc;obtain⟨⟨vs,sl,xa⟩,_,_⟩:=I1.hok a _ ea;obtain⟨⟨mA,tk',n1,n3⟩,_,_⟩:=I1.hok dx _ ed;obtain⟨hp,g,d,tk,os⟩:=s1;refine UL hC (c.ns I1.bO) (c.aw I1.bO c.ga) (c.aw I1.bO c.gt) (c.aw I1.bO c.ln) Ir xa n1 n3 (PySem.W.handedOut_of rfl) ?_;exact⟨.int n,H1,I1.tok _,⟨tk',rfl⟩,q⟩
end
theorem Inv.Iw{X:Cx}{pins:η}{σ:St}{H:Hp}{s:Shared}{a:Addr}{o:HO}(I:Inv X pins σ H s)(h0:X.s₀.heap.get? a=none)(hn:H a=none)(hL:a≠X.env.locals)(hx:X.ex=[]) (hc:∀x c,X.env.cells.lookup x=some c->c≠a)(hp:∀p∈X.pn++pins,p.1≠a)(ob:ck X.prog X.w (upd H a o) s.heap a o):Inv X pins σ (upd H a o) s:=by
 have u:=I.base;have ne:∀b u,H b=some u->b≠a:=λb u e=>aH e hn
 refine⟨I.ok,I.os,I.bare,⟨u.keep,u.slot,λb ob e n hb=>?_,u.there,λb xs e=>?_,λb o' u' e=>?_,λb ps e=>?_⟩,I.loc,I.cell,?_,λx c e=>?_,λp z=>?_,λb u' e=>?_,I.len⟩
 ·rw[ay λq=>by rw[q,h0]at e;cases e];exact u.free b ob e n hb
 ·have z:=u.tups b xs e;rw[ay (ne b _ z)];exact z
 ·have z:=u.iR b o' u' e;rw[ay (ne b _ z)];exact z
 ·obtain⟨m,z⟩:=u.jN b ps e;exact⟨m,by rw[ay (ne b _ z)];exact z⟩
 ·rw[ay (cq hL)];exact I.free
 ·rw[ay (hc x c e)];exact I.fC x c e
 ·obtain⟨h1,h2,h3⟩:=I.pin p z;exact⟨h1,by rw[ay (hp p z)];exact h2,h3⟩
 ·by_cases q:b=a
  ·subst q;rw[au]at e;cases e;exact ob
  ·rw[ay q]at e;exact(I.hok b u' e).stay (λ_ _ _ z=>z) (λc z=>by rw[ay (ne c _ z)];exact z) λc xs z=>by rw[ay (ne c _ z)];exact z
abbrev Cx.pin(X:Cx)(P:η):Cx:= {X with pn:=P}
abbrev Cx.in(X:Cx)(P:η)(e:Value):Cx:= {X with pn:=P,A:=X.A.mark (some e),calm:=false,xe:=λ_ _=>False}
theorem Inv.UY{X:Cx}{pins:η}{σ:St}{H:Hp}{s:Shared}(I:Inv X pins σ H s):Inv (X.pin (X.pn++pins)) [] σ H s:=⟨⟨I.ok.mod,I.ok.kind,I.ok.glob,I.ok.blt,I.ok.above,I.ok.inj,I.ok.has,I.ok.lK,I.ok.hd,I.ok.frames,I.ok.stk,I.ok.mP,I.ok.bs,I.ok.iT,I.ok.lL,I.ok.lO,I.ok.fO,I.ok.jO⟩,I.os,I.bare,I.base,I.loc,I.cell,I.free,I.fC,λp hp=>I.pin p (by simpa using hp),I.hok,I.len⟩
theorem Inv.xj{X:Cx}{pins pins':η}{σ:St}{H:Hp}{s:Shared}(I:Inv (X.pin (X.pn++pins)) pins' σ H s):Inv X pins σ H s:=⟨⟨I.ok.mod,I.ok.kind,I.ok.glob,I.ok.blt,I.ok.above,I.ok.inj,I.ok.has,I.ok.lK,I.ok.hd,I.ok.frames,I.ok.stk,I.ok.mP,I.ok.bs,I.ok.iT,I.ok.lL,I.ok.lO,I.ok.fO,I.ok.jO⟩,I.os,I.bare,I.base,I.loc,I.cell,I.free,I.fC,λp hp=>I.pin p (fm _ hp),I.hok,I.len⟩
theorem Inv.UZ{X:Cx}{P pins':η}{σ:St}{H:Hp}{s:Shared}(e:Value)(I:Inv (X.pin P).bZ pins' σ H s):Inv (X.in P e) [] σ H s:=⟨⟨I.ok.mod,I.ok.kind,I.ok.glob,I.ok.blt,I.ok.above,I.ok.inj,I.ok.has,I.ok.lK,(λz=>nomatch z),I.ok.frames,I.ok.stk,I.ok.mP,I.ok.bs,I.ok.iT,I.ok.lL,I.ok.lO,I.ok.fO,I.ok.jO⟩,I.os,I.bare,I.base,I.loc,I.cell,I.free,I.fC,λp hp=>I.pin p (fm _ (by simpa using hp)),I.hok,I.len⟩
theorem Inv.out{X:Cx}{pins:η}{e:Value}{σ:St}{H:Hp}{s:Shared}{h':Heap}{m':τ}{t':Nat}(c:X.calm=true->X.A.handled=none)(I:Inv (X.in (X.pn++pins) e) [] σ H s)(hn:h'.Ns X.env.locals m')(hs:Heap.SameBut X.env.locals s.heap h'):Inv X pins (List.replicate X.N.length none) H {s with heap:=h',toks:=t'}:=by
 have oth:∀b ob,b≠X.env.locals->s.heap.get? b=some ob->h'.get? b=some ob:=λb ob hb z=>(hs.2 b hb).trans z
 have neL:∀b ob,X.s₀.heap.get? b=some ob->b≠X.env.locals:=λb ob z=>bQ (e7 (a7 z) I.ok.above)
 have u:=I.base;refine⟨⟨I.ok.mod,I.ok.kind,I.ok.glob,I.ok.blt,I.ok.above,I.ok.inj,I.ok.has,I.ok.lK,c,I.ok.frames,I.ok.stk,I.ok.mP,I.ok.bs,I.ok.iT,I.ok.lL,I.ok.lO,I.ok.fO,I.ok.jO⟩,I.os,I.bare,⟨λb ob z n hb hx=>oth b ob (neL b ob z) (u.keep b ob z n hb hx),λb ob z n hb hx=>?_,u.free,λb ob z hx=>?_,u.tups,u.iR,u.jN⟩,
  ⟨m',hn,λi x v e1 e2=>?_⟩,λx c' z=>?_,I.free,I.fC,λp hp=>?_,λb w' z=>?_,by simp⟩
 ·obtain⟨sl,q⟩:=u.slot b ob z n hb hx;exact⟨sl,oth b _ (neL b ob z) q⟩
 ·obtain⟨o',q⟩:=u.there b ob z hx;exact⟨o',oth b _ (neL b ob z) q⟩
 ·rw[n8]at e2;split at e2<;>cases e2
 ·obtain⟨v,q⟩:=I.cell x c' z;exact⟨v,q.sameBut hs (I.mQ x c' z)⟩
 ·obtain⟨h1,h2,h3,h4⟩:=I.pin p (by simpa using hp);exact⟨oth _ _ h3 h1,h2,h3,h4⟩
 ·have nl:∀c' u',H c'=some u'->c'≠X.env.locals:=λc' u' q=>aH q I.free
  refine(I.hok b w' z).stay (λc' v hc q=>oth c' v ?_ q) (λ_ q=>q) λ_ _ q=>q
  rcases hc with rfl |hc
  ·exact nl _ _ z
  ·exact nl _ _ hc
def U0(C:Addr)(E:XK)(len i:Nat)(tb th:TS):TS:=λD σ H=>tb D σ H/\∀n H' a dx,E (.int n 0) none H'->H' a=none->H' dx=none->dx≠a->th {nx:=λ_ _=>False,rt:=D.rt} ((List.replicate len none).set i (some (.ref a))) (upd (upd H' dx (.ext (oW dx n))) a (.ext (rf C dx a)))
theorem U1{X:Cx}{C N fI L:Addr}{E:XK}{i:Nat}{x nm:Str}{np hpos pos:Pos}{body suite:List Stmt}{b0:Stmt}{tb th:TS}(c:XC X.K C N fI)(hst:X.stack=X.env::X.outer)(hf:X.env.frame=some L)(hN:X.N.Nodup)(hi:X.N[i]? =some nm) (hl:X.env.scope.names.lookup nm=some .local)(hex:X.ex=[])(hg:Gl X x)(hm:X.mg x=some (.ref C))(hb:∀P,dP ((X.pin P).c9 (XI (X.pin P) C E)) body tb)(hh:∀P e,dP (X.in P e) (b0::suite) th)(hdb:(x==("__debug__" :Str))=false:=by decide):PS X (.Try body [.ExceptHandler (some (.Name x np)) (some nm) (b0::suite) hpos] [] [] pos) (U0 C E X.N.length i tb th):=by
 intro pins s σ H D I ⟨h1,h2⟩;have back:∀{f s1},SP ((X.pin (X.pn++pins)).c9 (XI (X.pin (X.pn++pins)) C E)) [] D f s1->SP X pins D f s1:=λ{f s1} z=>by
  cases f with
  |next=>obtain⟨σ',H',J,q⟩:=z;exact⟨σ',H',J.iV.xj,q⟩
  |brk=>obtain⟨σ',H',J,q⟩:=z;exact⟨σ',H',J.iV.xj,q⟩
  |cont=>obtain⟨σ',H',J,q⟩:=z;exact⟨σ',H',J.iV.xj,q⟩
  |ret u=>obtain⟨v,σ',H',J,q⟩:=z;exact⟨v,σ',H',J.iV.xj,q⟩
 refine wpAny_Try_except (di (hb _ [] s σ H D (I.UY.c9 _) h1) (λf s1 z=>?_) λe s1 z=>?_)
 ·cases f with
  |next=>exact aB (back z)
  |brk=>exact back z
  |cont=>exact back z
  |ret u=>exact back z
 ·refine di (A0 (X:=(X.pin (X.pn++pins)).bZ) (A':=λ_ _=>False) hst hf z) (λ_ s2 z2=>?_) λ_ _ q=>q.elim
  refine di (xf (X:=(X.pin (X.pn++pins)).bZ) (A':=λ_ _=>False) z2) (λ_ s3 z3=>?_) λ_ _ q=>q.elim
  obtain⟨p',σ',H',a,dx,T,n,rfl,Z,tb⟩:=z3;have J:=Z.inv.UZ (.ref a);obtain⟨nm',qn,bs,sn,sub,ab,col,dd,k0,k1,k2,k3,k5,lc⟩:=c.cls;have hC:=J.bO _ _ lc;obtain⟨vs,sl,xa,_⟩:=Z.at_.ob;refine wpAny_handleBy_cons (codeAny_handlers_test (ow (X:=X.in (X.pn++pins) (.ref a)) J hg hm ?_ hdb)) (by intro q;cases q);obtain⟨hp,g,d,tk,os⟩:=s3;refine wpAny_excMatches_sub_self hC xa rfl (by decide) (codeAny_handlers_suite_as ?_);have Zm:oV (X.in (X.pn++pins) (.ref a)) C E (.ref a) ⟨hp,g,d,tk,os⟩:=⟨[],σ',H',a,dx,T,n,rfl,⟨J,Z.at_,⟨Z.fa.1,Z.fa.2.1,Z.fa.2.2.1,Z.fa.2.2.2.1,Z.fa.2.2.2.2.1,λp hp=>Z.fa.2.2.2.2.2 p (fm _ (by simpa using hp))⟩,Z.fd,Z.hd,(λp hp=>Z.pd p (fm _ (by simpa using hp))),
   ⟨Z.fT.1,Z.fT.2.1,Z.fT.2.2.1,Z.fT.2.2.2.1,Z.fT.2.2.2.2.1,λp hp=>Z.fT.2.2.2.2.2 p (fm _ (by simpa using hp))⟩,Z.ew⟩,tb⟩
  refine di (xf (X:=X.in (X.pn++pins) (.ref a)) (A':=λ_ _=>False) Zm) (λ_ s4 z4=>?_) λ_ _ q=>q.elim
  obtain⟨p5,σ5,H5,a5,m8,T5,n5,e5,Z5,_⟩:=z4;cases e5;obtain⟨vs5,sl5,xa5,_⟩:=Z5.at_.ob;obtain⟨mA,tk5,n1,n3⟩:=Z5.at_.dc;have nd5:∀b ob v,s4.heap.get? b=some ob->ob.data=.cell v->b≠m8:=λb ob v z q z'=>by obtain⟨o,es,ep,z2,z3,_⟩:=n1;rw[z',z2]at z;cases z;rw[z3]at q;cases q
  have sz:X.s₀.heap.get? a=none:=Heap.get?_none_of_le (Z5.fa.2.2.2.1.resolve_left (by show a ∉ X.ex;rw[hex];simp));have sL:a≠X.env.locals:=Z5.fa.2.1;have J1:=Z5.inv.Iw (a:=m8) (o:=.ext (oW m8 n5)) Z5.fd.1 Z5.hd Z5.fd.2 hex (λy c' z=>let ⟨v,ob,z1,z2⟩:=Z5.inv.cell y c' z;nd5 c' ob v z1 z2) Z5.pd (UU ⟨mA,tk5,n1,n3⟩);have J2:=J1.Iw (a:=a) (o:=.ext (rf C m8 a)) sz (by rw[ay (cq Z5.at_.na)];exact Z5.fa.1) sL hex (λy c' z=>Z5.fa.2.2.2.2.1 y c' z) Z5.fa.2.2.2.2.2 (UT ⟨vs5,sl5,xa5⟩);have J3:Inv (X.in (X.pn++pins) (.ref a)) [] (List.replicate X.N.length none) (upd (upd H5 m8 (.ext (oW m8 n5))) a (.ext (rf C m8 a))) s4:=(J2.zU (pins':=[]) (λp hp=>by cases hp)).weak (by rw[qy];exact J2.len.symm) λj v q=>by rw[n8]at q;split at q<;>cases q
  refine zW (X:=X.in (X.pn++pins) (.ref a)) (v:=.ref a) J3 hN hi (.inl hl) rfl (λs5 J4=>?_) (.inr hl);refine di (hh _ _ [] s5 _ _ _ J4 (h2 n5 H5 a m8 Z5.ew Z5.fa.1 Z5.hd Z5.at_.na)) (λf s6 z6=>?_) λ_ _ q=>q.elim
  cases f with
  |next=>obtain⟨_,_,_,q⟩:=z6;exact q.elim
  |brk=>obtain⟨_,_,_,q⟩:=z6;exact False.elim q
  |cont=>obtain⟨_,_,_,q⟩:=z6;exact False.elim q
  |ret u=>
   obtain⟨v,σ6,H6,J6,rv,q⟩:=z6;obtain⟨m6,hn6,_⟩:=id J6.loc;have kd:X.env.kindOf nm=some .local:=hl;refine wpAny_nameGoes kd hn6 (by rw[J6.ok.kind];rfl) λh' m' hn' hs'=>?_
   exact⟨v,_,H6,J6.out I.ok.hd hn' hs',rv,q⟩
end L2
namespace L2
open PySem PySem.Spec PyProof.Rows
section
variable{X:Cx}{a b:Expr}{ta tb:TE}{pos p:Pos}
theorem U2:b6 X (binaryOp .FloorDiv) (rI (λ_ j=>0<j/\j<=9223372036854775808) λi j=>.int (i/j)):=sY λi j _ _ _ _ _ hc q=>by have h1:(0:Int)<j:=hc.1;have h2:j<=9223372036854775808:=hc.2;refine floordiv_int (by omega) (by rw[Fv i (by omega)];exact q) (.inl (PyProof.noPylong_of_log2 ?_));have h3:j.natAbs<2^9000:=qI (show j.natAbs<=9223372036854775808 by omega) (by decide+kernel);exact(Nat.log2_lt (by omega)).mpr h3
inductive Iy(i:Nat)(K:ax)(spT:Addr->List V->Hp->VK->Prop)(t:TA)(σ:St)(H:Hp)(Q:VK):Prop
 |mk f:σ[i]? =some (some (.ref f))->keepIn K (.ref f)=true->(t σ H λvs H1=>spT f vs H1 Q)->Iy i K spT t σ H Q
theorem xk{i:Nat}{x:Str}{e:Expr}{es:List Expr}{t:TA}{spT:Addr->List V->Hp->VK->Prop} (hF:∀f vs H Q,spT f vs H Q->∃k fd ps sp,aE X.prog X.w X.K X.mg X.base aM k f fd ps sp/\b7 k X.A/\Binds X.K fd ps []/\sp vs H Q E0) (hN:X.N[i]? =some x)(hv:qO X.env.scope x)(ha:PA X (e::es) t)(he:starEach (e::es) X.env=(false,eval e X.env)::starEach es X.env:=by rfl)(hpl:(backTo pos (starEach es X.env)).any (·.1)=false:=by rfl) (hd:(x==("__debug__" :Str))=false:=by decide)(hcd:(x==("__classdict__" :Str))=false:=by decide):PE X (.Call (.Name x p) (e::es) [] pos) (Iy i X.K spT t):=by
 intro pins s σ H Q I ⟨f,hi,hk,h⟩;refine qx (aG (F7 (pos:=p) hN hv hd hcd pins s σ H (λv H1=>v=.ref f/\H1=H) I ⟨_,hi,rfl,rfl⟩) λu s1 ⟨v,H1,I1,r,ev,eH⟩=>?_);subst ev eH;obtain rfl:u=Value.ref f:=r;refine callWith_K (h₀:=X.base) I1.ok.mod.kj hk (aG (ha pos pins s1 σ _ _ I1 h) λus s2 ⟨vs,H2,I2,r,q⟩=>⟨I2.bO,?_⟩) he hpl;obtain⟨k,fd,ps,sp,F,hr,hb,hs⟩:=hF f vs H2 Q q;exact wM F hr hb .nil dE I2 r (by rw[ie];exact hs)
end
def kw(w:ψ):List Key:=w.map λ(c:Nat)=>Sum.inl (c:Int)
def iw(w:ψ):List V:=w.map λ(c:Nat)=>V.int (c:Int)
theorem rg(w:ψ):(kw w).map kV=iw w:=by unfold kw iw;rw[fu];rfl
theorem A1{a b:ψ}(h:kw a=kw b):a=b:=by unfold kw at h;exact List.map_inj_right (λ(x y:Nat) e=>by simpa[Int.ofNat_inj]using e)|>.mp h
theorem xl{a b:ψ}(h:iw a=iw b):a=b:=by unfold iw at h;exact List.map_inj_right (λ(x y:Nat) e=>by simpa[Int.ofNat_inj]using e)|>.mp h
theorem bJ(w:ψ):(iw w).length=w.length:=aI _
structure zv(P:Program)(w:World)(K:ax)(D:Addr)(xs:List (List Key×Addr×Value)):Prop where
 at_:∀h:Heap,K.In h->h.DictOfH (tupleKind (bU P w)) D xs
 ns:(D==sysModules)=false
section
variable{X:Cx}{a b:Expr}{ta tb:TE}{pos p:Pos}{D:Addr}{xs:List (List Key×Addr×Value)}
inductive Iz(D:Addr)(xs:List (List Key×Addr×Value))(Q:VK)(y:V)(x:V)(H2:Hp):Prop
 |mk b k:x=.ref D->y=.ref b->H2 b=some (.tup (k.map kV))->Q (.bl (atKey xs k).isSome) H2->Iz D xs Q y x H2
def U3(D:Addr)(xs:List (List Key×Addr×Value))(ty td:TE):TE:=λσ H Q=>ty σ H λy H1=>td σ H1 λx H2=>Iz D xs Q y x H2
theorem U4(T:zv X.prog X.w X.K D xs)(hu:X.A.units+1<cLine)(hi:PE X a ta)(ho:PE X b tb):PC X .In a b (U3 D xs ta tb):=by
 intro pins s σ H Q I h;refine aG (hi pins s σ H _ I h) λu s1 ⟨y,H1,I1,ry,q⟩=>aG (ho pins s1 σ H1 _ I1 q) λv s2 ⟨x,H2,I2,rx,c,k,ex,ey,eb,q2⟩=>?_
 subst ex ey;obtain rfl:v=Value.ref D:=rx;obtain rfl:u=Value.ref c:=ry;refine wpAny_in_heap (vT hu) (oQ I2.hok eb) T.ns (T.at_ _ I2.bO) ?_;exact⟨.bl _,H2,I2.tok _,rfl,q2⟩
inductive IB(D:Addr)(xs:List (List Key×Addr×Value))(Q:VK)(x:V)(y:V)(H2:Hp):Prop
 |mk b k q f:x=.ref D->y=.ref b->H2 b=some (.tup (k.map kV))->atKey xs k=some (q,.ref f)->Q (.ref f) H2->IB D xs Q x y H2
def U5(D:Addr)(xs:List (List Key×Addr×Value))(td ty:TE):TE:=λσ H Q=>td σ H λx H1=>ty σ H1 λy H2=>IB D xs Q x y H2
theorem U6(T:zv X.prog X.w X.K D xs)(hu:X.A.units+1<cLine)(ho:PE X a ta)(hi:PE X b tb)(hs:AN b):PE X (.Subscript a b pos) (U5 D xs ta tb):=by intro pins s σ H Q I h;refine HK (T:="dict") F.slot_dict_getitem.lookup hs (aG (ho pins s σ H _ I h) λu s1 ⟨x,H1,I1,rx,q⟩=>aG (hi pins s1 σ H1 _ I1 q) λv s2 ⟨y,H2,I2,ry,c,k,qa,f,ex,ey,eb,ek,q2⟩=>?_);subst ex ey;obtain rfl:u=Value.ref D:=rx;obtain rfl:v=Value.ref c:=ry;have dd:=T.at_ _ I2.bO;refine⟨Heap.DictOfH.typeIs dd,wpAny_getItem_heap (vT hu) (oQ I2.hok eb) dd ek ?_⟩;exact⟨.ref f,H2,I2.tok _,rfl,q2⟩
end
def i7(H:Hp)(ps:θ)(ws:ξ):Prop:=Paired (λp w=>H p=some (.tup (iw w))) ps ws
def iD(w:ψ):List PyData:=w.map λ(c:Nat)=>PyData.int (c:Int)
theorem xm{K:ax}{H:Hp}:∀w:List Nat,jS K H (iw w) (iD w)
 |[]=>.nil
 |c::r=>.cons (.int _) (xm r)
theorem lZ{K:ax}{H:Hp}{p:Addr}{w:ψ}(h:H p=some (.tup (iw w))):Dp K H (.ref p) (.tuple (iD w)):=.tup (aV.of h) (xm w)
theorem A2:∀a b:List Nat,PyData.eqvAll (iD a) (iD b)=decide (a=b)
 |[],[]=>rfl
 |[],_::_=>rfl
 |_::_,[]=>rfl
 |x::a,y::b=>by
  show(((x:Int)==(y:Int))&&PyData.eqvAll (iD a) (iD b))=_;rw[A2 a b];by_cases h1:x=y
  ·subst h1;simp
  ·have h2:¬(x:Int)=(y:Int):=λe=>h1 (Int.ofNat_inj.mp e)
   simp[h1,h2]
theorem rh(a b:ψ):PyData.eqv (.tuple (iD a)) (.tuple (iD b))=decide (a=b):=A2 a b
theorem sA:∀w:List Nat,PyData.canLayAll0 (iD w)=true
 |[]=>rfl
 |_::r=>sA r
theorem t6:∀w:List Nat,PyData.depthAll (iD w)<=1
 |[]=>by decide
 |c::r=>by have:=t6 r;show max (PyData.depth (.int (c:Int))) (PyData.depthAll (iD r))<=1;have e:PyData.depth (.int (c:Int))<=1:=FT (show PyData.depth (.int (c:Int))<2 by unfold PyData.depth;omega);omega
theorem xn(w:ψ):SeqAt.shaped (.tuple (iD w))=true:=by unfold SeqAt.shaped;rw[fM];refine⟨sA w,bj ?_⟩;have:=t6 w;show PyData.depthAll _+1<=64;omega
section
variable{X:Cx}
def t7(H:Hp)(w:ψ):Value->Bool
 | .ref p=>match H p with
  |some (.tup xs)=>decide (xs=iw w)
  |_=>false
 |_=>false
theorem IC{H:Hp}{w:ψ}:∀{ps:θ}{ws:ξ},i7 H ps ws->(ps.map Value.ref).any (t7 H w)=ws.contains w
 |_,_,.nil=>rfl
 |p::ps,v::ws,.cons h r=>by
  rw[bx,sI,IC r,List.contains_cons]
  congr 1
  show(match H p with |some (.tup xs)=>decide (xs=iw w) |_=>false)=(w==v);rw[show H p=some (.tup (iw v)) from h];by_cases e:v=w
  ·subst e;simp
  ·have n1:¬iw v=iw w:=λz=>e (xl z)
   have n2:(w==v)=false:=by rw[nV];exact λz=>e z.symm
   rw[n2];exact aW n1
inductive ID(K:ax)(x:V)(y:V)(H:Hp)(Q:VK):Prop
 |mk p l ps w ws:x=.ref p->y=.ref l->H p=some (.tup (iw w))->aj K H l (ps.map V.ref)->i7 H ps ws->Q (.bl (ws.contains w)) H->ID K x y H Q
theorem U7(hu:X.A.units+64<cLine):b6 X (compareOp .In) (ID X.K):=by
 intro pins s σ H x y v u Q I rx ry h;obtain⟨p,l,ps,w,ws,rfl,rfl,hp,hl,hw,q⟩:=h;obtain rfl:v=Value.ref p:=rx;obtain rfl:u=Value.ref l:=ry;obtain⟨its,r,pl,hz⟩:=I.list hl;obtain rfl:=AS r;refine SeqAt.in_listAt (t7 H w) pl.isList (λy hy=>?_) ⟨.bl _,H,I,rfl,?_⟩
 ·obtain⟨b,hb,rfl⟩:=d_.mp (by simpa using hy);have all:∀{qs:θ}{vs:ξ},i7 H qs vs->b∈qs->∃z,H b=some (.tup (iw z)):=by
   intro qs vs t
   induction t with
   |nil=>intro z;cases z
   |cons h0 _ ih=>
    intro z;rcases aX.mp z with e |e
    ·exact⟨_,by rw[e];exact h0⟩
    ·exact ih e
  obtain⟨z,ez⟩:=all hw hb;obtain⟨as,r1⟩:=Dp.reads I _ (.ref b) (.ref b) (lZ ez) rfl;obtain⟨bs,r2⟩:=Dp.reads I _ (.ref p) (.ref p) (lZ hp) rfl;have e1:t7 H w (.ref b)=decide (z=w):=by
   show(match H b with |some (.tup xs)=>decide (xs=iw w) |_=>false)=_;rw[ez];by_cases e:z=w
   ·subst e;simp
   ·rw[aW e];exact aW λy=>e (xl y)
  rw[e1,<-rh];have hd:=t6 z;refine SeqAt.eqAt_reads _ _ _ s _ _ _ _ r1 r2 (sA z) (sA w) ?_;show X.A.units+1+min (PyData.depthAll _+1) _<cLine;omega
 ·rw[show(ps.map Value.ref).toArray.any (t7 H w)=(ps.map Value.ref).any (t7 H w) by simp,IC hw];exact q
end
def kC(K:ax)(H:Hp)(a:Addr)(ns:δ):Prop:=ns.length<=100000/\(Rd H a (.lst (ns.map V.int))\/∃vs:List Value,K.lookup a=some {cls:=.type "list",data:=.seq vs.toArray}/\Vals (ns.map V.int) vs)
section
variable{X:Cx}
inductive IE(K:ax)(x:V)(y:V)(H:Hp)(Q:VK):Prop
 |mk l b ns zs:x=.ref l->y=.ref b->kC K H l ns->H b=some (.lst zs)->zs.length<=10->(∀p,H p=none->Q (.ref p) (upd H p (.lst (ns.map V.int++zs))))->IE K x y H Q
theorem U8:b6 X (binaryOp .Add) (IE X.K):=by
 intro pins s σ H x y v u Q I rx ry h;obtain⟨l,b,ns,zs,rfl,rfl,⟨hn,hT⟩,hB,hz,q⟩:=h;cases rx;cases ry;have raw:∃(its:ω)(n:Nat),Vals (ns.map V.int) its/\s.heap.get? l=some {cls:=.type "list",data:=.seq its.toArray n}:=by
  rcases hT with hT |⟨vs,e,r⟩
  ·obtain⟨_,its,n,r,e⟩:=hT.ok I.hok;exact⟨its,n,r,e⟩
  ·exact⟨vs,_,r,I.bO _ _ e⟩
 obtain⟨its,n,r,e⟩:=raw;obtain⟨z2,its2,n2,r2,hl2,e2⟩:=I.kr hB;have l1:=r.length;rw[aI]at l1;have l2:=r2.length;refine PySem.P.add_list e e2 ?_ (by rw[cj,cj,aZ];omega);have ea:its.toArray++its2.toArray=(its++its2).toArray:=by simp
 rw[ea];exact⟨.ref _,_,I.Av (t':=s.toks) (r.append r2) (by rw[a8,aI,aZ];omega),rfl,q _ I.fresh⟩
end
section
variable{X:Cx}{CX:jy}{k:Nat}{f C:Addr}{fd:FuncData}{ps ks:γ}{sp:Sp}{E:XK}{x:Str}{p pos:Pos}{e:Expr}{es:List Expr}{kws:List Keyword}{t tk:TA}{g:List Value->List Value->List Value}{gV:List V->List V->List V}
def U9(C:Addr)(sp:Sp)(gV:List V->List V->List V)(E:XK)(t tk:TA):TE:=λσ H Q=>t σ H λvs H1=>tk σ H1 λzs H2=>∀x dx,H2 x=none->H2 dx=none->dx≠x->sp (gV (.ref x::vs) zs) (upd (upd H2 dx (.own x)) x (.ins C dx [])) (λv H3=>v=.aw/\Q (.ref x) H3) E
theorem U_{pins:η}{σ:St}{H:Hp}{s:Shared}{Q:VK}{us ws:ω}{vs zs:ε}(M:Mk X.K C f)(F:aE X.prog X.w X.K X.mg X.base CX k f fd ps sp)(hr:b7 (k+1) X.A)(hb:mX X.K fd ps ks g gV) (hx:kc CX X E)(I:Inv X pins σ H s)(r:Vals vs us)(rz:Vals zs ws) (h:∀x dx,H x=none->H dx=none->dx≠x->sp (gV (.ref x::vs) zs) (upd (upd H dx (.own x)) x (.ins C dx [])) (λv H2=>v=.aw/\Q (.ref x) H2) E):wpAny (model X.prog X.w) X.A (call (.ref C) us (ks.zip ws)) (EP X pins σ Q) X.xe s:=by
 have hq:=h (s.heap.objs.size+1) s.heap.objs.size (I.hok.fresh (mI _)) (I.hok.fresh (aJ _)) (bQ (sE _));have I2:=Inv.made (C:=C) I;have r2:Vals (gV (V.ref (s.heap.objs.size+1)::vs) zs) (g (Value.ref (s.heap.objs.size+1)::us) ws):=hb.rel (.cons rfl r) rz;have hl:(g (Value.ref (s.heap.objs.size+1)::us) ws).length=ps.length:=by rw[<-r2.length];exact F.len _ _ _ _ hq
 refine sF (GG (f:=f) I.bO M.makes M.init (ke.mp M.fn) (mH (F.run _ X.stack _ _ ⟨Value.ref (s.heap.objs.size+1)::us,ks.zip ws⟩ _ _ _ E (hr.make C us (ks.zip ws)) (I2.wL.make C us (ks.zip ws)) (hb.to _ (Value.ref (s.heap.objs.size+1)::us) ws I2.bO hl) r2 hq) λr s' hq'=>?_))
 cases r with
 |error e=>exact hx pins σ _ _ e s' I2 hq'
 |ok fl=>
  cases fl with
  |ret u=>obtain⟨v,H',I3,rv,ev,q3⟩:=I2.after hq';subst ev;exact⟨rv,⟨V.ref (s.heap.objs.size+1),H',I3,rfl,q3⟩⟩
  |next=>exact False.elim hq'
  |brk=>exact False.elim hq'
  |cont=>exact False.elim hq'
theorem l7(M:Mk X.K C f)(F:aE X.prog X.w X.K X.mg X.base CX k f fd ps sp)(hr:b7 (k+1) X.A)(hg:Gl X x)(hm:X.mg x=some (.ref C))(hb:mX X.K fd ps ks g gV)(hx:kc CX X E) (ha:PA X (e::es) t)(hkw:PK X kws tk)(hall:(backToKw pos (keywordEach kws X.env)).all (·.1.isSome)=true:=by rfl)(hks:(backToKw pos (keywordEach kws X.env)).filterMap (·.1)=ks:=by rfl) (hdb:(x==("__debug__" :Str))=false:=by decide)(he:starEach (e::es) X.env=(false,eval e X.env)::starEach es X.env:=by rfl) (hpl:((backTo pos (starEach (e::es) X.env)).any (·.1)||(backToKw pos (keywordEach kws X.env)).any (·.1.isNone))=false:=by rfl):PE X (.Call (.Name x p) (e::es) kws pos) (U9 C sp gV E t tk):=by
 intro pins s σ H Q I h;refine qx (ow I hg hm ?_ hdb);refine PySem.W.callWith_KW (h₀:=X.base) I.ok.mod.kj M.kp hall (aG (ha pos pins s σ H _ I h) λus s1 ⟨vs,H1,I1,r,q⟩=>?_) hpl he;refine aG (hkw pos pins s1 σ H1 _ I1 q) λws s2 ⟨zs,H2,I2,rz,q2⟩=>⟨I2.bO,?_⟩
 rw[hks];exact U_ M F hr hb hx I2 r rz q2
end
end L2
namespace L2
open PySem PySem.Spec PyProof.Rows
def oX(J:It)(H:Hp)(xs:ε):Prop:=(∀i(h:i<xs.length),J.go i H/\∀x H',J.gN i H x H'->H'=H/\x=xs[i])/\J.stop xs.length H
theorem rj{K:ax}{H:Hp}{a:Addr}{xs:ε}(h:aV K H a xs):oX (qT K a) H xs:=⟨λi hi=>⟨⟨xs,xs[i],h,by simp[hi]⟩,λx H' ⟨e,y⟩=>⟨e,by have:=y xs h;rw[aL hi]at this;exact(b_ this).symm⟩⟩,⟨xs,h,aJ _⟩⟩
theorem rl{K:ax}{H:Hp}{a:Addr}{xs:ε}(h:aj K H a xs):oX (qR K a) H xs:=⟨λi hi=>⟨⟨xs,xs[i],h,by simp[hi]⟩,λx H' ⟨e,y⟩=>⟨e,by have:=y xs h;rw[aL hi]at this;exact(b_ this).symm⟩⟩,⟨xs,h,aJ _⟩⟩
theorem IG{lo:Int}{n:Nat}{H:Hp}:oX (oA lo n) H ((List.range n).map λ(i:Nat)=>V.int (lo+i)):=by
 refine⟨λi hi=>?_,?_⟩
 ·have hn:i<n:=by simpa using hi
  exact⟨hn,λx H' ⟨e,y⟩=>⟨e,by rw[y];simp⟩⟩
 ·show n<=_;simp
theorem ae.oY{K:ax}{H H':Hp}{a:Addr}{xs:ε}(e:ae H H')(h:aV K H a xs):aV K H' a xs:=by
 rcases h with (h |⟨o,h⟩) |h
 ·exact .inl (.inl (e _ _ h))
 ·exact .inl (.inr ⟨o,e _ _ h⟩)
 ·exact .inr h
theorem ae.new{H:Hp}{D:Addr}{o:HO}(h:H D=none):ae H (upd H D o):=λb u e=>by rw[ay (aH e h)];exact e
theorem ae.upd{H H':Hp}{D:Addr}{o:HO}(s:ae H H')(h:H D=none):ae H (upd H' D o):=λb u e=>by rw[ay (aH e h)];exact s b u e
theorem Paired.app{α β:Type}{F:α->β->Prop}:∀{a c:List α}{b d:List β},Paired F a b->Paired F c d->Paired F (a++c) (b++d)
 |_,_,_,_,.nil,s=>s
 |_,_,_,_,.cons r t,s=>.cons r (Paired.app t s)
theorem IH{J:It}{xs:ε}{j:Nat}{te:TE}{vs:ψ}{σ:St}{H1:Hp}{Q:Hp->Prop}{D:Addr}(R:V->V->Hp->Prop)(hD:H1 D=none)(hn:xs.length<=sizeLine) (hR:∀x y H H',R x y H->(∀b o,b≠D->H b=some o->H' b=some o)->R x y H') (hJ:∀H,ae H1 H->oX J H xs)(hw:∀x,a_ ((a_ σ vs).set j (some x)) vs=a_ σ vs) (hs:∀(i:Nat) x H,xs[i]? =some x->ae H1 H->(∃acc,H D=some (.lst acc))->∀Q':VK,(∀y H4,ae H H4->R x y H4->Q' y H4)->te ((a_ σ vs).set j (some x)) H Q') (hd:∀ys H,ae H1 H->H D=some (.lst ys)->Paired (λx y=>R x y H) xs ys->Q H):∃W:Nat->Nat->Hp->Prop,(∃m,W 0 m (upd H1 D (.lst [])))/\∀i m H,W i m H->(J.stop i H/\Q H)\/(J.go i H/\∃Nx:Hp->Prop,(∀H',Nx H'->∃m',m'<m/\W (i+1) m' H')/\∀x H',J.gN i H x H'->cW j x (a_ σ vs) H' λσ2 H2=>a_ σ2 vs=a_ σ vs/\wV σ2 H2 λb H3=>if b=true then te σ2 H3 λy H4=>∃acc,H4 D=some (.lst acc)/\acc.length<sizeLine/\Nx (upd H4 D (.lst (acc++[y])))else Nx H3):=by
 let Pv:Nat->Hp->Prop:=λi H=>∃ys,H D=some (.lst ys)/\ae H1 H/\Paired (λx y=>R x y H) (xs.take i) ys
 refine⟨λi m H=>m=xs.length-i/\i<=xs.length/\Pv i H,⟨_,rfl,bS _,[],au,ae.new hD,by rw[List.take_zero];exact .nil⟩,?_⟩
 rintro i m H ⟨rfl,hi,ys,hy,sm,pr⟩
 by_cases hlt:i<xs.length
 ·obtain⟨go,yl⟩:=(hJ H sm).1 i hlt;refine .inr ⟨go,Pv (i+1),λH' p=>⟨xs.length-(i+1),by omega,rfl,hlt,p⟩,λx H' y=>?_⟩;obtain⟨rfl,rfl⟩:=yl x H' y;refine⟨hw _,?_⟩;refine aD (B:=Pv (i+1) H') ?_;refine hs i _ _ (aL hlt) sm ⟨ys,hy⟩ _ λz H4 s4 r4=>?_
  have hl:ys.length=i:=by rw[<-bt pr,vO];omega
  have k4:∀b o,b≠D->H4 b=some o->(upd H4 D (.lst (ys++[z]))) b=some o:=λb o hb e=>by rw[ay hb];exact e
  refine⟨ys,s4 _ _ hy,by omega,ys++[z],au,(sm.trans s4).upd hD,?_⟩;rw[iO,aL hlt];refine Paired.app (Paired.cR pr λa b r=>hR _ _ _ _ (hR _ _ _ _ r λc o _ e=>s4 c o e) k4) (.cons (hR _ _ _ _ r4 k4) .nil)
 ·have e:i=xs.length:=by omega
  subst e;rw[kh]at pr;exact .inl ⟨(hJ H sm).2,hd ys H sm hy pr⟩
theorem l8{J:It}{xs:ε}{j:Nat}{te:TE}{vs:ψ}{σ:St}{H1:Hp}{Q:Hp->Prop}{D:Addr}(f:V->V)(hD:H1 D=none)(hn:xs.length<=sizeLine) (hJ:∀H,ae H1 H->oX J H xs)(hw:∀x,a_ ((a_ σ vs).set j (some x)) vs=a_ σ vs) (hs:∀(i:Nat) x H,xs[i]? =some x->ae H1 H->∀Q':VK,(∀H4,ae H H4->Q' (f x) H4)->te ((a_ σ vs).set j (some x)) H Q') (hd:∀H,ae H1 H->H D=some (.lst (xs.map f))->Q H):∃W:Nat->Nat->Hp->Prop,(∃m,W 0 m (upd H1 D (.lst [])))/\∀i m H,W i m H->(J.stop i H/\Q H)\/(J.go i H/\∃Nx:Hp->Prop,(∀H',Nx H'->∃m',m'<m/\W (i+1) m' H')/\∀x H',J.gN i H x H'->cW j x (a_ σ vs) H' λσ2 H2=>a_ σ2 vs=a_ σ vs/\wV σ2 H2 λb H3=>if b=true then te σ2 H3 λy H4=>∃acc,H4 D=some (.lst acc)/\acc.length<sizeLine/\Nx (upd H4 D (.lst (acc++[y])))else Nx H3):=by
 refine IH (λx y _=>y=f x) hD hn (λ_ _ _ _ r _=>r) hJ hw (λi x H e s _ Q' k=>hs i x H e s Q' λH4 s4=>k _ _ s4 rfl) λys H s e pr=>hd H s ?_
 have:ys=xs.map f:=by
  clear hd e hn hJ hs
  induction pr with
  |nil=>rfl
  |cons r _ ih=>rw[bx,<-ih,r]
 rw[<-this];exact e
theorem d5{t u:TS}{D:Ends}{σ:St}{H:Hp}(h:t {D with nx:=u D} σ H):Ge t u D σ H:=h
theorem xo{tc:TT}{t u:TS}{D:Ends}{σ:St}{H:Hp}(h:tc σ H λb H1=>if b=true then t D σ H1 else u D σ H1):Gg tc t u D σ H:=h
theorem II{c:Bool}{t u:TS}{D:Ends}{σ:St}{H:Hp}(R:St->Hp->Prop)(hA:c=true->(∀σ' H',R σ' H'->D.nx σ' H')->t D σ H)(hB:c=false->(∀σ' H',R σ' H'->D.nx σ' H')->u D σ H) (k:∀σ' H',R σ' H'->D.nx σ' H'):if c=true then t D σ H else u D σ H:=by
 cases c with
 |true=>exact aD (hA rfl k)
 |false=>exact az (hB rfl k)
theorem kC.same{K:ax}{H H':Hp}{a:Addr}{ns:δ}(s:ae H H')(h:kC K H a ns):kC K H' a ns:=by
 obtain⟨h1,h2⟩:=h;refine⟨h1,?_⟩;rcases h2 with (h |⟨o,h⟩) |h
 ·exact .inl (.inl (s _ _ h))
 ·exact .inl (.inr ⟨o,s _ _ h⟩)
 ·exact .inr h
end L2
open Sz43 (Ins ascii bits usesOf knows targets reckon givesOf repeated insOf varsOf folded digit letter isName natOf numberOf wrap sent)
namespace My
open PySem
def aN(z:Int):Prop:= -9223372036854775808<=z/\z<9223372036854775808
theorem m9(z:Int):wrap z=(z+9223372036854775808)%18446744073709551616-9223372036854775808:=rfl
theorem xp(z:Int):bits z=(z%18446744073709551616).toNat:=rfl
theorem m_(z:Int):aN (wrap z):=by unfold aN;rw[m9];omega
theorem A3{z:Int}(h:aN z):wrap z=z:=by unfold aN at h;rw[m9];omega
theorem t8{b:Nat}(h:b<2^64)(i:Nat):((18446744073709551615:Nat)-b).testBit i=(decide (i<64)&& !b.testBit i):=by
 have e:(18446744073709551615:Nat)-b=2^64-(b+1):=by
  have:(2:Nat)^64=18446744073709551616:=by decide
  omega
 rw[e];exact Nat.testBit_two_pow_sub_succ h i
theorem Va{b i:Nat}(h:b<2^64)(hi:¬i<64):b.testBit i=false:=Nat.testBit_lt_two_pow (e7 h (Nat.pow_le_pow_right (by decide) (by omega)))
theorem IJ{u b:Nat}(hu:u<2^64)(hb:b<2^64):(u&&& ((18446744073709551615:Nat)-b))+(u&&& b)=u:=by
 have h:=Bits.AY (u&&& ((18446744073709551615:Nat)-b)) (u&&& b);have e1:(u&&& ((18446744073709551615:Nat)-b))^^^(u&&& b)=u:=by
  apply qJ;intro i;rw[vW,jJ,jJ,t8 hb];by_cases hi:i<64
  ·cases u.testBit i<;>cases b.testBit i<;>simp[hi]
  ·rw[Va hu hi];simp
 have e2:(u&&& ((18446744073709551615:Nat)-b))&&& (u&&& b)=0:=by apply qJ;intro i;rw[jJ,jJ,jJ,t8 hb];cases u.testBit i<;>cases b.testBit i<;>simp
 rw[e1,e2]at h;omega
theorem IK{a b:Nat}(ha:a<2^64)(hb:b<2^64):((18446744073709551615:Nat)-a)&&& ((18446744073709551615:Nat)-b)=(18446744073709551615:Nat)-(a|||b):=by
 apply qJ;intro i;rw[jJ,t8 ha,t8 hb,t8 (zI ha hb),sO];by_cases hi:i<64
 ·cases a.testBit i<;>cases b.testBit i<;>simp[hi]
 ·simp[hi]
theorem Vb(u v:Nat):(u^^^v)+(u&&& v)=u|||v:=by
 have h:=Bits.AY (u^^^v) (u&&& v);have e1:(u^^^v)^^^(u&&& v)=u|||v:=by apply qJ;intro i;rw[vW,vW,jJ,sO];cases u.testBit i<;>cases v.testBit i<;>rfl
 have e2:(u^^^v)&&& (u&&& v)=0:=by apply qJ;intro i;rw[jJ,vW,jJ];cases u.testBit i<;>cases v.testBit i<;>simp
 rw[e1,e2]at h;omega
theorem Vc(u v:Nat):(u^^^v)|||(u&&& v)=u|||v:=by apply qJ;intro i;rw[sO,vW,jJ,sO];cases u.testBit i<;>cases v.testBit i<;>rfl
theorem t9:(2:Nat)^64=18446744073709551616:=by decide
theorem l9:(2:Nat)^63=9223372036854775808:=by decide
theorem rn(x:Int):bits x<2^64:=by rw[xp,t9];omega
theorem rq{x:Int}(h:aN x)(p:0<=x):bits x=x.toNat:=by rw[xp,Int.emod_eq_of_lt p (Int.lt_trans h.2 (by decide))]
theorem bits_neg{x:Int}(h:aN x)(p:¬0<=x):bits x=(18446744073709551615:Nat)-(Builtin.bitNot x).toNat/\(Builtin.bitNot x).toNat<2^63:=by have h1:=h.1;rw[xp,l9,<-Int.add_emod_right,Int.emod_eq_of_lt (by omega) (by omega)];unfold Builtin.bitNot;constructor<;>omega
theorem Fm{x y:Int}(hx:aN x)(hy:aN y):wrap ((bits x&&& bits y:Nat):Int)=Builtin.bitAnd x y:=by
 have l63:∀{n:Nat},n<2^63->n<2^64:=λh=>by rw[l9]at h;rw[t9];omega
 have fS:∀{n:Nat},n<2^63->aN (n:Int):=λh=>by rw[l9]at h;unfold aN;omega
 unfold Builtin.bitAnd;by_cases px:0<=x<;>by_cases py:0<=y
 ·rw[bj px,bj py];show wrap _=((x.toNat&&& y.toNat:Nat):Int);rw[rq hx px,rq hy py];refine A3 (fS (Nat.and_lt_two_pow _ ?_));unfold aN at hy;rw[l9];omega
 ·rw[bj px,aW py];show wrap _=x-((x.toNat&&& (Builtin.bitNot y).toNat:Nat):Int);obtain⟨b1,b2⟩:=bits_neg hy py;have ux:x.toNat<2^63:=by unfold aN at hx;rw[l9];omega
  have e:=IJ (u:=x.toNat) (l63 ux) (l63 b2);rw[rq hx px,b1];rw[A3 (fS (qI Rm ux))];omega
 ·rw[aW px,bj py];show wrap _=y-((y.toNat&&& (Builtin.bitNot x).toNat:Nat):Int);obtain⟨b1,b2⟩:=bits_neg hx px;have uy:y.toNat<2^63:=by unfold aN at hy;rw[l9];omega
  have e:=IJ (u:=y.toNat) (l63 uy) (l63 b2);rw[rq hy py,b1,Nat.and_comm];rw[A3 (fS (qI Rm uy))];omega
 ·rw[aW px,aW py];show wrap _=Builtin.bitNot ((((Builtin.bitNot x).toNat|||(Builtin.bitNot y).toNat:Nat)):Int);obtain⟨a1,a2⟩:=bits_neg hx px;obtain⟨b1,b2⟩:=bits_neg hy py;rw[a1,b1,IK (l63 a2) (l63 b2)];have o:=zI a2 b2;rw[l9]at o;rw[m9];unfold Builtin.bitNot at o ⊢;omega
theorem xq{x:Int}(h:aN x):aN (Builtin.bitNot x):=by unfold aN at h ⊢;unfold Builtin.bitNot;omega
theorem abt(x:Int):Builtin.bitNot (Builtin.bitNot x)=x:=by unfold Builtin.bitNot;omega
theorem IL{x:Int}(h:aN x):bits (Builtin.bitNot x)=(18446744073709551615:Nat)-bits x:=by
 by_cases p:0<=x
 ·rw[rq h p,(bits_neg (xq h) (by unfold Builtin.bitNot;omega)).1,abt]
 ·obtain⟨e,l⟩:=bits_neg h p;rw[l9]at l;rw[e,rq (xq h) (by unfold Builtin.bitNot;omega),Nat.sub_sub_self (by omega)]
theorem QZ{x y:Int}(hx:aN x)(hy:aN y):wrap ((bits x|||bits y:Nat):Int)=Builtin.bitOr x y:=by unfold Builtin.bitOr;rw[<-Fm (xq hx) (xq hy),IL hx,IL hy,IK (rn x) (rn y)];have o:=zI (rn x) (rn y);rw[t9]at o;rw[m9,m9];unfold Builtin.bitNot;omega
theorem abu{x y:Int}(hx:aN x)(hy:aN y):wrap ((bits x^^^bits y:Nat):Int)=Builtin.bitXor x y:=by
 unfold Builtin.bitXor;rw[<-QZ hx hy,<-Fm hx hy];have s:=Vb (bits x) (bits y);have o:=zI (rn x) (rn y);have k:(bits x^^^bits y)<2^63->(bits x&&& bits y)<2^63->(bits x|||bits y)<2^63:=λh1 h2=>by
  have:=zI h1 h2
  rwa [Vc]at this
 rw[l9]at k;rw[t9]at o;rw[m9,m9,m9];generalize (bits x^^^bits y)=a at*;generalize (bits x&&& bits y)=b at*;generalize (bits x|||bits y)=c at*;omega
theorem IM(z:Int):(bits z%64:Nat)=(z%64).toNat:=by rw[xp];omega
def ab(y:Int):Int:=if y<0 then-y else y
theorem Vd(y z:Int)(hz:z≠0):Int.tdiv y z=if (decide (y<0)=decide (z<0))then ab y/ab z else-(ab y/ab z):=by
 unfold ab;by_cases hy:y<0<;>by_cases hw:z<0
 ·rw[ah (by simp[hy,hw]),ah hy,ah hw,<-FU (by omega),Int.neg_tdiv,Int.tdiv_neg,zJ]
 ·rw[af (by simp[hy,hw]),ah hy,af hw,<-FU (by omega),Int.neg_tdiv,zJ]
 ·rw[af (by simp[hy,hw]),af hy,ah hw,<-FU (by omega),Int.tdiv_neg,zJ]
 ·rw[ah (by simp[hy,hw]),af hy,af hw,<-FU (by omega)]
theorem IP(y z:Int):Int.tmod y z=if y<0 then-(ab y%ab z)else ab y%ab z:=by
 unfold ab;by_cases hy:y<0<;>by_cases hw:z<0
 ·rw[ah hy,ah hy,ah hw,<-FV (by omega),Int.neg_tmod,Int.tmod_neg,zJ]
 ·rw[ah hy,ah hy,af hw,<-FV (by omega),Int.neg_tmod,zJ]
 ·rw[af hy,af hy,ah hw,<-FV (by omega),Int.tmod_neg]
 ·rw[af hy,af hy,af hw,<-FV (by omega)]
theorem Ve(f:Int->Int)(y z:Int)(h:wrap=f):reckon 5 y z=f ((bits y&&& bits z:Nat):Int):=by unfold reckon;rw[h];generalize ((bits y&&& bits z:Nat):Int)=q;rfl
theorem IQ(y z:Int):reckon 5 y z=wrap ((bits y&&& bits z:Nat):Int):=Ve _ y z rfl
theorem Vf(f:Int->Int)(y z:Int)(h:wrap=f):reckon 6 y z=f ((bits y|||bits z:Nat):Int):=by unfold reckon;rw[h];generalize ((bits y|||bits z:Nat):Int)=q;rfl
theorem IT(y z:Int):reckon 6 y z=wrap ((bits y|||bits z:Nat):Int):=Vf _ y z rfl
theorem Vg(f:Int->Int)(y z:Int)(h:wrap=f):reckon 7 y z=f ((bits y^^^bits z:Nat):Int):=by unfold reckon;rw[h];generalize ((bits y^^^bits z:Nat):Int)=q;rfl
theorem IU(y z:Int):reckon 7 y z=wrap ((bits y^^^bits z:Nat):Int):=Vg _ y z rfl
end My
namespace My
open PySem L2
noncomputable def top(i:Nat):Stmt:=PySem.Challenge.pw_sameruns_s03_bt_run.main.body.getD i (.Pass ⟨0,0,0,0⟩)
abbrev Vh:Stmt:=top 1
abbrev IV:Stmt:=top 2
abbrev IW:Stmt:=top 3
abbrev Vi:Stmt:=top 5
abbrev Vj:Stmt:=top 6
abbrev IX:Stmt:=top 7
abbrev Vk:Stmt:=top 8
abbrev IY:Stmt:=top 9
abbrev Vl:Stmt:=top 10
abbrev Vm:Stmt:=top 14
abbrev Vn:Stmt:=top 15
abbrev IZ:Stmt:=top 17
abbrev Vo:Stmt:=top 18
abbrev Vp:Stmt:=top 20
abbrev Vq:Stmt:=top 21
abbrev Vr:Stmt:=top 22
abbrev xr:Stmt:=top 23
abbrev Vs:Stmt:=top 28
abbrev Vt:Stmt:=top 29
abbrev Vu:Stmt:=top 30
abbrev Vv:Stmt:=top 31
abbrev Vw:Stmt:=top 32
abbrev Vx:Stmt:=top 33
abbrev Vy:Stmt:=top 34
abbrev Vz:Stmt:=top 35
abbrev VA:Stmt:=top 36
abbrev VB:Stmt:=top 37
abbrev VC:Stmt:=top 38
abbrev VD:Stmt:=top 39
abbrev VE:Stmt:=top 40
abbrev VF:Stmt:=top 42
abbrev VG:Stmt:=top 43
abbrev I0:Stmt:=top 45
abbrev VH:Stmt:=top 46
abbrev VI:Stmt:=top 47
abbrev I_:Stmt:=top 48
abbrev VJ:Stmt:=top 50
abbrev VL:Stmt:=top 51
abbrev VM:Stmt:=top 52
abbrev Ja:Stmt:=top 53
abbrev Jb:Stmt:=top 67
abbrev VN:Stmt:=top 68
abbrev VO:Stmt:=top 69
abbrev VP:Stmt:=top 70
abbrev VQ:Stmt:=top 71
abbrev A4:Stmt:=top 72
abbrev Jc:Stmt:=top 73
abbrev Jd:Stmt:=top 75
abbrev VR:Stmt:=top 76
abbrev A5:Stmt:=top 77
abbrev VS:Stmt:=top 78
abbrev VT:Stmt:=top 79
abbrev VU:Stmt:=top 80
abbrev VW:Stmt:=top 83
abbrev VX:Stmt:=top 84
abbrev VY:Stmt:=top 85
abbrev Je:Stmt:=top 86
abbrev VZ:Stmt:=top 87
abbrev Jf:Stmt:=top 88
abbrev Jg:Stmt:=top 89
abbrev V0:Stmt:=top 90
abbrev Jh:Stmt:=top 91
abbrev V1:Stmt:=top 92
abbrev V2:Stmt:=top 93
abbrev V3:Stmt:=top 99
abbrev V4:Stmt:=top 102
abbrev V5:Stmt:=top 103
abbrev V6:Stmt:=top 111
abbrev V7:Stmt:=top 112
abbrev xt:Stmt:=jm (top 12) 0
abbrev V8:Stmt:=jm (top 13) 0
abbrev V9:Stmt:=jm (top 97) 0
abbrev V_:Stmt:=jm (top 98) 0
abbrev Wa:Stmt:=jm (top 98) 1
abbrev Wb:Stmt:=jm (top 98) 2
abbrev Wc:Stmt:=jm (top 98) 3
abbrev Wd:Stmt:=jm (top 98) 4
abbrev We:Stmt:=jm (top 98) 5
abbrev Wg:Stmt:=jm (top 98) 6
abbrev Wh:Stmt:=jm (top 98) 7
abbrev Wi:Stmt:=jm (top 98) 8
abbrev Wj:Stmt:=jm (top 101) 0
set_option genInjectivity false in
set_option genSizeOf false in
structure Ad where
 (A6 A7 A8 A9 A_ xu xw Ba Bb Bc Bd Be Bf Bg Bh Bi kD Bj oZ o6 o7 o8 o9 o_ pf ph pj pw pz pA Bk Bl Bm xx xy Bn Bo Bp Bq Br Bs Bt Bu Bv Bw Bx Bz BA BB pB BC BD BE BF BG BH kF BI BJ kG BK kH BL BM BN BO BP t_ BQ BR BS BU BV BW BX BZ B0 B1 B2 B3 B4 B5 i8 l_ jC fc nc Wk pD ua xA Ji xB xC xD xE xF xG xH xI xJ xK xM xN:Addr)
 (Jj Jk Jl Jm Jn Jo Jp Jq Jr Js Jt Ju Jv Jw Jx Jy Jz JA JB JC JD JE JF JG JH JI JJ JK JL JM JN JO JP JQ JR JS JT JU JV JW JX JY JZ J0 J5 J7 J8 J9 J_ rA Ka Kc Ke Kf Kg Kh Ki Kj Kk Kl Km Kn Ko Kp Kq Ks Kt B6 Ku ma Kv Kw Kx Ky Kz KA KC KD KE KG KH KI:FuncData)
noncomputable def pE(t:Ad):List (List Key×Addr×Value):=[([Sum.inl 43],t.xB,.ref t.oZ),([Sum.inl 45],t.xC,.ref t.o6),([Sum.inl 42],t.xD,.ref t.o7),([Sum.inl 47],t.xE,.ref t.o8),([Sum.inl 37],t.xF,.ref t.o9),([Sum.inl 38],t.xG,.ref t.o_),([Sum.inl 124],t.xH,.ref t.pf),([Sum.inl 94],t.xI,.ref t.ph),([Sum.inl 60,Sum.inl 60],t.xJ,.ref t.pj),([Sum.inl 62,Sum.inl 62],t.xK,.ref t.pw),([Sum.inl 60],t.xM,.ref t.pz),([Sum.inl 61,Sum.inl 61],t.xN,.ref t.pA)]
structure Txt(K:ax)(mg:τ)(t:Ad):Prop where
 rB:aK K "ways_from" "ways_from" Vh t.A6 t.Jj
 ub:mg "ways_from"=some (.ref t.A6)
 xO:aK K "agreed" "agreed" IV t.A7 t.Jk
 KJ:mg "agreed"=some (.ref t.A7)
 xP:aK K "brought_along" "brought_along" IW t.A8 t.Jl
 B7:mg "brought_along"=some (.ref t.A8)
 B8:aK K "thing_of" "thing_of" Vi t.A9 t.Jm
 KN:mg "thing_of"=some (.ref t.A9)
 xQ:aK K "is_copy_to_itself" "is_copy_to_itself" Vj t.A_ t.Jn
 B9:mg "is_copy_to_itself"=some (.ref t.A_)
 xR:aK K "holds_behind" "holds_behind" IX t.xu t.Jo
 KO:mg "holds_behind"=some (.ref t.xu)
 xS:aK K "holds_ways" "holds_ways" Vk t.xw t.Jp
 KP:mg "holds_ways"=some (.ref t.xw)
 B_:aK K "holds_before" "holds_before" IY t.Ba t.Jq
 KQ:mg "holds_before"=some (.ref t.Ba)
 Ca:aK K "root_of" "root_of" Vl t.Bb t.Jr
 KR:mg "root_of"=some (.ref t.Bb)
 xT:aK K "with_place" "with_place" Vm t.Bc t.Js
 Cb:mg "with_place"=some (.ref t.Bc)
 Cc:aK K "with_used" "with_used" Vn t.Bd t.Jt
 KS:mg "with_used"=some (.ref t.Bd)
 pF:aK K "closed_up" "closed_up" IZ t.Be t.Ju
 rC:mg "closed_up"=some (.ref t.Be)
 Cd:aK K "led_anew" "led_anew" Vo t.Bf t.Jv
 KU:mg "led_anew"=some (.ref t.Bf)
 Ce:aK K "behind_gotos" "behind_gotos" Vp t.Bg t.Jw
 KW:mg "behind_gotos"=some (.ref t.Bg)
 Cf:aK K "led_behind_gotos" "led_behind_gotos" Vq t.Bh t.Jx
 KY:mg "led_behind_gotos"=some (.ref t.Bh)
 Cg:aK K "places_led_to" "places_led_to" Vr t.Bi t.Jy
 KZ:mg "places_led_to"=some (.ref t.Bi)
 xU:aK K "better_by_ways" "better_by_ways" xr t.kD t.Jz
 K1:mg "better_by_ways"=some (.ref t.kD)
 pG:aK K "wrapped" "wrapped" Vs t.Bj t.JA
 rD:mg "wrapped"=some (.ref t.Bj)
 Ci:aK K "plus" "plus" Vt t.oZ t.JB
 Wl:mg "plus"=some (.ref t.oZ)
 Cj:aK K "minus" "minus" Vu t.o6 t.JC
 Wm:mg "minus"=some (.ref t.o6)
 Ck:aK K "times" "times" Vv t.o7 t.JD
 Wn:mg "times"=some (.ref t.o7)
 Cm:aK K "divided" "divided" Vw t.o8 t.JE
 Wo:mg "divided"=some (.ref t.o8)
 Cn:aK K "rest" "rest" Vx t.o9 t.JF
 Wp:mg "rest"=some (.ref t.o9)
 Co:aK K "both_bits" "both_bits" Vy t.o_ t.JG
 Wq:mg "both_bits"=some (.ref t.o_)
 Cp:aK K "either_bits" "either_bits" Vz t.pf t.JH
 Wr:mg "either_bits"=some (.ref t.pf)
 Cq:aK K "differing_bits" "differing_bits" VA t.ph t.JI
 Ws:mg "differing_bits"=some (.ref t.ph)
 Cr:aK K "shifted_up" "shifted_up" VB t.pj t.JJ
 Wt:mg "shifted_up"=some (.ref t.pj)
 Cs:aK K "shifted_down" "shifted_down" VC t.pw t.JK
 Wu:mg "shifted_down"=some (.ref t.pw)
 Ct:aK K "is_less" "is_less" VD t.pz t.JL
 Wv:mg "is_less"=some (.ref t.pz)
 Cu:aK K "is_same" "is_same" VE t.pA t.JM
 Ww:mg "is_same"=some (.ref t.pA)
 Cv:aK K "is_operator" "is_operator" VF t.Bk t.JN
 K2:mg "is_operator"=some (.ref t.Bk)
 xV:aK K "reckoned" "reckoned" VG t.Bl t.JO
 Cw:mg "reckoned"=some (.ref t.Bl)
 xW:aK K "given_number" "given_number" I0 t.Bm t.JP
 Cy:mg "given_number"=some (.ref t.Bm)
 xX:aK K "known_behind" "known_behind" VH t.xx t.JQ
 K3:mg "known_behind"=some (.ref t.xx)
 xY:aK K "known_ways" "known_ways" VI t.xy t.JR
 K4:mg "known_ways"=some (.ref t.xy)
 Cz:aK K "known_before" "known_before" I_ t.Bn t.JS
 K7:mg "known_before"=some (.ref t.Bn)
 uc:aK K "bit_of" "bit_of" VJ t.Bo t.JT
 xZ:mg "bit_of"=some (.ref t.Bo)
 CA:aK K "bits_used" "bits_used" VL t.Bp t.JU
 K8:mg "bits_used"=some (.ref t.Bp)
 CB:aK K "needed_at" "needed_at" VM t.Bq t.JV
 K9:mg "needed_at"=some (.ref t.Bq)
 CC:aK K "needed_before" "needed_before" Ja t.Br t.JW
 K_:mg "needed_before"=some (.ref t.Br)
 eF:aK K "spelled" "spelled" Jb t.Bs t.JX
 fe:mg "spelled"=some (.ref t.Bs)
 CD:aK K "lines_of" "lines_of" VN t.Bt t.JY
 La:mg "lines_of"=some (.ref t.Bt)
 x4:aK K "is_letter" "is_letter" VO t.Bu t.JZ
 CF:mg "is_letter"=some (.ref t.Bu)
 x5:aK K "is_digit" "is_digit" VP t.Bv t.J0
 CG:mg "is_digit"=some (.ref t.Bv)
 CH:aK K "is_name_sign" "is_name_sign" VQ t.Bw t.J5
 Lb:mg "is_name_sign"=some (.ref t.Bw)
 ud:aK K "is_name" "is_name" A4 t.Bx t.J7
 x6:mg "is_name"=some (.ref t.Bx)
 CI:aK K "number_of" "number_of" Jc t.Bz t.J8
 Lc:mg "number_of"=some (.ref t.Bz)
 x8:aK K "words_of" "words_of" Jd t.BA t.J9
 Ld:mg "words_of"=some (.ref t.BA)
 CJ:aK K "words_given" "words_given" VR t.BB t.J_
 Le:mg "words_given"=some (.ref t.BB)
 x9:aK K "labels_of" "labels_of" A5 t.pB t.rA
 Lf:mg "labels_of"=some (.ref t.pB)
 CK:aK K "lines_told" "lines_told" VS t.BC t.Ka
 Lg:mg "lines_told"=some (.ref t.BC)
 CL:aK K "line_told" "line_told" VT t.BD t.Kc
 Lh:mg "line_told"=some (.ref t.BD)
 x_:aK K "told" "told" VU t.BE t.Ke
 CM:mg "told"=some (.ref t.BE)
 CN:aK K "if_by_known" "if_by_known" VW t.BF t.Kf
 Li:mg "if_by_known"=some (.ref t.BF)
 CO:aK K "giving_by_known" "giving_by_known" VX t.BG t.Kg
 Lj:mg "giving_by_known"=some (.ref t.BG)
 CP:aK K "by_known" "by_known" VY t.BH t.Kh
 Lk:mg "by_known"=some (.ref t.BH)
 ya:aK K "better_by_known" "better_by_known" Je t.kF t.Ki
 Ll:mg "better_by_known"=some (.ref t.kF)
 CQ:aK K "giving_by_held" "giving_by_held" VZ t.BI t.Kj
 Lm:mg "giving_by_held"=some (.ref t.BI)
 CS:aK K "by_held" "by_held" Jf t.BJ t.Kk
 Lo:mg "by_held"=some (.ref t.BJ)
 yb:aK K "better_by_held" "better_by_held" Jg t.kG t.Kl
 Lp:mg "better_by_held"=some (.ref t.kG)
 CT:aK K "by_needed" "by_needed" V0 t.BK t.Km
 Lq:mg "by_needed"=some (.ref t.BK)
 yc:aK K "better_by_needed" "better_by_needed" Jh t.kH t.Kn
 Lr:mg "better_by_needed"=some (.ref t.kH)
 CU:aK K "better_once" "better_once" V1 t.BL t.Ko
 Ls:mg "better_once"=some (.ref t.BL)
 CV:aK K "made_better" "made_better" V2 t.BM t.Kp
 Lu:mg "made_better"=some (.ref t.BM)
 yd:aK K "read_program" "read_program" V3 t.BN t.Kq
 Lv:mg "read_program"=some (.ref t.BN)
 CW:aK K "number_given" "number_given" V4 t.BO t.Ks
 Lw:mg "number_given"=some (.ref t.BO)
 CY:aK K "run" "run" V5 t.BP t.Kt
 Lx:mg "run"=some (.ref t.BP)
 CZ:aK K "bt_run" "bt_run" V6 t.t_ t.B6
 Ly:mg "bt_run"=some (.ref t.t_)
 C0:aK K "are_in_range" "are_in_range" V7 t.BQ t.Ku
 Lz:mg "are_in_range"=some (.ref t.BQ)
 ye:aK K "__init__" "Program.__init__" V8 t.BS t.Kv
 kI:aK K "__init__" "WrongLine.__init__" V9 t.BU t.Kw
 C1:aK K "__init__" "Reading.__init__" V_ t.BV t.Kx
 C2:aK K "take_line" "Reading.take_line" Wa t.BW t.Ky
 LB:kb K t.fc "take_line" t.BW
 C3:aK K "take_label" "Reading.take_label" Wb t.BX t.Kz
 LC:kb K t.fc "take_label" t.BX
 C4:aK K "take_instruction" "Reading.take_instruction" Wc t.BZ t.KA
 LD:kb K t.fc "take_instruction" t.BZ
 C5:aK K "instruction_of" "Reading.instruction_of" Wd t.B0 t.KC
 LF:kb K t.fc "instruction_of" t.B0
 C6:aK K "giving_of" "Reading.giving_of" We t.B1 t.KD
 LG:kb K t.fc "giving_of" t.B1
 ng:aK K "variable_of" "Reading.variable_of" Wg t.B2 t.KE
 pH:kb K t.fc "variable_of" t.B2
 yf:aK K "jump_to" "Reading.jump_to" Wh t.B3 t.KG
 C7:kb K t.fc "jump_to" t.B3
 C8:aK K "find_places" "Reading.find_places" Wi t.B4 t.KH
 LH:kb K t.fc "find_places" t.B4
 C9:aK K "__init__" "Run.__init__" Wj t.B5 t.KI
 nh:∃(oc:Value)(od:Option Addr)(kV doc pm:Value)(an:Option Addr)(cdv ct:Value)(osl:Array (Option Value)),t.ma=fnOf "__init__" "Instruction.__init__" (gU xt) (fb xt) (bp xt) (.ref t.Ji) kV doc pm an cdv ct/\K.lookup t.BR=some ⟨oc,od,.func t.ma,osl⟩/\codeIn K cdv "Instruction.__init__"=true
 pI:∃(o:Obj)(n:Nat),K.lookup t.Ji=some o/\o.data=.seq #[.none,.none,.none,.none] n
 gX:mg "Instruction"=some (.ref t.i8)
 cI:iX K t.i8
 gZ:Mk K t.i8 t.BR
 be:dQ K t.i8 "kind"
 dR:dQ K t.i8 "used"
 cA:dQ K t.i8 "given"
 ue:dQ K t.i8 "number"
 me:dQ K t.i8 "operator"
 eJ:dQ K t.i8 "place"
 C_:mg "Program"=some (.ref t.l_)
 eK:iX K t.l_
 Dc:Mk K t.l_ t.BS
 jU:dQ K t.l_ "instructions"
 kJ:dQ K t.l_ "names"
 kK:mg "WrongLine"=some (.ref t.jC)
 LJ:mg "Reading"=some (.ref t.fc)
 bA:iX K t.fc
 LK:Mk K t.fc t.BV
 i9:dQ K t.fc "line"
 rE:dQ K t.fc "instructions"
 mf:dQ K t.fc "variables"
 rF:dQ K t.fc "labels"
 yg:dQ K t.fc "jumps"
 LM:mg "Run"=some (.ref t.nc)
 pJ:iX K t.nc
 LO:Mk K t.nc t.B5
 uf:dQ K t.nc "printed"
 Dd:dQ K t.nc "steps"
 xc:XC K t.jC t.Wk t.BU
 LP:∃tk,mg "ALL_NUMBERS"=some (.int (18446744073709551616) tk)
 ug:∃tk,mg "NUMBERS_BELOW_ZERO"=some (.int (9223372036854775808) tk)
 De:∃tk,mg "SHIFT_BITS"=some (.int (63) tk)
 Df:mg "OPERATORS"=some (.ref t.pD)
 uh:∃tk,mg "NEWLINE"=some (.int (10) tk)
 LQ:∃tk,mg "SPACE"=some (.int (32) tk)
 LR:mg "BLANKS"=some (.ref t.ua)
 Dg:∃tk,mg "DIGIT_ZERO"=some (.int (48) tk)
 LS:∃tk,mg "DIGIT_NINE"=some (.int (57) tk)
 LU:∃tk,mg "LETTER_A"=some (.int (97) tk)
 LV:∃tk,mg "LETTER_Z"=some (.int (122) tk)
 LW:∃tk,mg "UNDERSCORE"=some (.int (95) tk)
 LX:∃tk,mg "MINUS"=some (.int (45) tk)
 LY:mg "NOT_NAMES"=some (.ref t.xA)
 LZ:∃tk,mg "LONGEST_NAME"=some (.int (16) tk)
 L5:∃tk,mg "MOST_DIGITS"=some (.int (19) tk)
 L6:∃tk,mg "TIMES"=some (.int (64) tk)
 L7:∃tk,mg "MOST_INSTRUCTIONS"=some (.int (256) tk)
 L8:∃tk,mg "MOST_VARIABLES"=some (.int (64) tk)
 L9:∃tk,mg "WRONG_LINE"=some (.int (-100) tk)
 L_:∃tk,mg "NOT_AT_END"=some (.int (-5) tk)
 Ma:∃tk,mg "NOT_IN_RANGE"=some (.int (-2) tk)
 Mb:∃tk,mg "TOO_MANY"=some (.int (-1) tk)
 Mc:∃tk,mg "HIGHEST_MOST"=some (.int (65536) tk)
 Md:∃tk,mg "HIGHEST_STEPS"=some (.int (1000000) tk)
 Me:∀H:Hp,aV K H t.ua [.int 32,.int 9,.int 13]
 Dh:∀H:Hp,aV K H t.xA [.str "label",.str "goto",.str "if",.str "print",.str "read",.str "end"]
 tab:∀(P:Program)(w:World),zv P w K t.pD (pE t)
 Mf:keepIn K (.ref t.oZ)=true/\keepIn K (.ref t.o6)=true/\keepIn K (.ref t.o7)=true/\keepIn K (.ref t.o8)=true/\keepIn K (.ref t.o9)=true/\keepIn K (.ref t.o_)=true/\keepIn K (.ref t.pf)=true/\keepIn K (.ref t.ph)=true/\keepIn K (.ref t.pj)=true/\keepIn K (.ref t.pw)=true/\keepIn K (.ref t.pz)=true/\keepIn K (.ref t.pA)=true
 yh:mg "list"=none
 yi:mg "tuple"=none
 Di:mg "all"=none
 Mg:mg "sorted"=none
 Mh:mg "dict"=none
 rG:mg "range"=none
 cS:mg "len"=none
 uj:mg "abs"=none
 Mi:mg "set"=none
 uk:mg "zip"=none
 Mj:mg "ord"=none
 yj:mg "enumerate"=none
 Ml:mg "str"=none
section
variable{K:ax}{mg:τ}{t:Ad}
theorem um{α:Type}{l:List α}{n:Nat}(h:l.length=n+1):∃a r,l=a::r/\r.length=n:=by
 cases l with
 |nil=>cases h
 |cons a r=>exact⟨a,r,rfl,Nat.succ.inj h⟩
theorem uo{α:Type}{l:List α}(h:l.length=1):∃a,l=[a]:=by obtain⟨a,r,rfl,h'⟩:=um h;cases abB h';exact⟨a,rfl⟩
theorem uq{α:Type}{l:List α}(h:l.length=2):∃a b,l=[a,b]:=by obtain⟨a,r,rfl,h'⟩:=um h;obtain⟨b,rfl⟩:=uo h';exact⟨a,b,rfl⟩
theorem rH{α:Type}{l:List α}(h:l.length=3):∃a b c,l=[a,b,c]:=by obtain⟨a,r,rfl,h'⟩:=um h;obtain⟨b,c,rfl⟩:=uq h';exact⟨a,b,c,rfl⟩
theorem Dj{α:Type}{l:List α}(h:l.length=4):∃a b c d,l=[a,b,c,d]:=by obtain⟨a,r,rfl,h'⟩:=um h;obtain⟨b,c,d,rfl⟩:=rH h';exact⟨a,b,c,d,rfl⟩
theorem Wx{α:Type}{l:List α}(h:l.length=5):∃a b c d e,l=[a,b,c,d,e]:=by obtain⟨a,r,rfl,h'⟩:=um h;obtain⟨b,c,d,e,rfl⟩:=Dj h';exact⟨a,b,c,d,e,rfl⟩
theorem ni{x q:Str}{st:Stmt}{f:Addr}{d:FuncData}{p0:Str}(F:aK K x q st f d)(h:∀(k c m:Value)(n:Option Addr)(v e u0:Value),bindArgs (fnOf x q (gU st) (fb st) (bp st) .none k c m n v e) ⟨[u0],[]⟩=pure [(p0,u0)]:=by intros;rfl):Binds K d [p0] []:=F.binds λk c m n v e us hl=>by obtain⟨u0,rfl⟩:=uo hl;exact h k c m n v e u0
theorem cb{x q:Str}{st:Stmt}{f:Addr}{d:FuncData}{p0 p1:Str}(F:aK K x q st f d)(h:∀(k c m:Value)(n:Option Addr)(v e u0 u1:Value),bindArgs (fnOf x q (gU st) (fb st) (bp st) .none k c m n v e) ⟨[u0,u1],[]⟩=pure [(p0,u0),(p1,u1)]:=by intros;rfl):Binds K d [p0,p1] []:=F.binds λk c m n v e us hl=>by obtain⟨u0,u1,rfl⟩:=uq hl;exact h k c m n v e u0 u1
theorem ny{x q:Str}{st:Stmt}{f:Addr}{d:FuncData}{p0 p1 p2:Str}(F:aK K x q st f d)(h:∀(k c m:Value)(n:Option Addr)(v e u0 u1 u2:Value),bindArgs (fnOf x q (gU st) (fb st) (bp st) .none k c m n v e) ⟨[u0,u1,u2],[]⟩=pure [(p0,u0),(p1,u1),(p2,u2)]:=by intros;rfl):Binds K d [p0,p1,p2] []:=F.binds λk c m n v e us hl=>by obtain⟨u0,u1,u2,rfl⟩:=rH hl;exact h k c m n v e u0 u1 u2
theorem bd4{x q:Str}{st:Stmt}{f:Addr}{d:FuncData}{p0 p1 p2 p3:Str}(F:aK K x q st f d)(h:∀(k c m:Value)(n:Option Addr)(v e u0 u1 u2 u3:Value),bindArgs (fnOf x q (gU st) (fb st) (bp st) .none k c m n v e) ⟨[u0,u1,u2,u3],[]⟩=pure [(p0,u0),(p1,u1),(p2,u2),(p3,u3)]:=by intros;rfl):Binds K d [p0,p1,p2,p3] []:=F.binds λk c m n v e us hl=>by obtain⟨u0,u1,u2,u3,rfl⟩:=Dj hl;exact h k c m n v e u0 u1 u2 u3
theorem Wy{x q:Str}{st:Stmt}{f:Addr}{d:FuncData}{p0 p1 p2 p3 p4:Str}(F:aK K x q st f d)(h:∀(k c m:Value)(n:Option Addr)(v e u0 u1 u2 u3 u4:Value),bindArgs (fnOf x q (gU st) (fb st) (bp st) .none k c m n v e) ⟨[u0,u1,u2,u3,u4],[]⟩=pure [(p0,u0),(p1,u1),(p2,u2),(p3,u3),(p4,u4)]:=by intros;rfl):Binds K d [p0,p1,p2,p3,p4] []:=F.binds λk c m n v e us hl=>by obtain⟨u0,u1,u2,u3,u4,rfl⟩:=Wx hl;exact h k c m n v e u0 u1 u2 u3 u4
theorem Wz(T:Txt K mg t):Binds K t.B6 ["made","steps","most","text","inputs"] []:=Wy T.CZ
end
theorem Dk{N P:γ}{sc:Scope}(a:sc.kind=.function:=by rfl)(b:sc.isCoroutine=false:=by rfl)(c:sc.isGenerator=false:=by rfl)(d:N.Nodup:=by decide+kernel)(e:N.take P.length=P:=by rfl)(f:∀x∈P,sc.names.lookup x=some .local\/sc.names.lookup x=some .cell:=by decide+kernel)(g:∀y∈sc.names,y.2≠ .free:=by decide+kernel):mY N P sc:=⟨a,b,c,d,e,f,g⟩
theorem bk{N:γ}{sc scope:Scope}{own:List (Str×Nat)}(a:scope.kind=.function:=by rfl)(b:∀y∈scope.names,scope.names.lookup y.1=some y.2:=by decide+kernel)(c:∀p∈own,N[p.2]? =some p.1:=by decide+kernel)(d:∀y∈scope.names,y.2=.free->sc.names.lookup y.1=some .cell\/sc.names.lookup y.1=some .free:=by decide+kernel)(e:∀y∈scope.names,y.2=.local\/y.2=.cell->y.1∈own.map (·.1)\/y.1 ∉ N:=by decide+kernel):cX N sc scope own:=⟨a,b,c,d,e⟩
theorem z0:0<=sizeLine:=by decide
theorem z1:1<=sizeLine:=by decide
theorem z2:2<=sizeLine:=by decide
theorem z3:3<=sizeLine:=by decide
theorem z4:4<=sizeLine:=by decide
theorem z6:6<=sizeLine:=by decide
theorem pC{X:Cx}{k:Nat}{f:Addr}{fd:FuncData}{ps:γ}{sp:Sp}{x nm q:Str}{st:Stmt}{p pos:Pos}{e:Expr}{es:List Expr}{t:TA}(F:aE X.prog X.w X.K X.mg X.base aM k f fd ps sp)(hr:b7 k X.A)(hm:X.mg x=some (.ref f))(G:aK X.K nm q st f fd)(ha:PA X (e::es) t) (h:∀(kV doc pm:Value)(an:Option Addr)(cdv ct:Value)(us:ω),us.length=ps.length->bindArgs (fnOf nm q (gU st) (fb st) (bp st) .none kV doc pm an cdv ct) ⟨us,[]⟩=pure (ps.zip us):=by intro _ _ _ _ _ _ us hl;first |(obtain⟨_,rfl⟩:=uo hl;rfl) |(obtain⟨_,_,rfl⟩:=uq hl;rfl) |(obtain⟨_,_,_,rfl⟩:=rH hl;rfl) |(obtain⟨_,_,_,_,rfl⟩:=Dj hl;rfl))(hg:Gl X x:=by rfl) (hdb:(x==("__debug__" :Str))=false:=by decide)(he:starEach (e::es) X.env=(false,eval e X.env)::starEach es X.env:=by rfl)(hpl:(backTo pos (starEach es X.env)).any (·.1)=false:=by rfl):PE X (.Call (.Name x p) (e::es) [] pos) (qX sp [] E0 t):=tm F hr hg hm G.kp (G.binds h) .nil dE ha hdb he hpl
end My
namespace L2
open PySem PySem.Spec PyProof.Rows
theorem aK.ko{P:Program}{w:World}{K:ax}{mg:τ}{base:Heap}{x qual:Str}{st:Stmt}{f:Addr}{fd:FuncData}{ps:γ}{k:Nat}{sp:Sp}(F:aK K x qual st f fd)(N:γ)(hb:∀{cdv:Value}{A:Around}{outer:List Env}{s:Shared}{vs:ε}{E:XK}(H:Hp)(Q:VK),b7 k (A.deeper (PyProof.Rows.envOfC qual (bp st) s.heap.objs.size f cdv))->sp vs H Q E->N.Nodup->∃t,dP (bI aM P w K mg base N qual (bp st) f cdv A outer s H E).bZ (fb st) t/\t {nx:=λ_ H'=>Q .aw H',rt:=Q} (start N vs) H)(S:mY N ps (bp st):=by exact My.Dk)(len:∀vs H Q E,sp vs H Q E->vs.length=ps.length:=by intro _ _ _ _ h;cases h;subst_vars;rfl):aE P w K mg base aM (k+1) f fd ps sp:=F.ok S (λ_ _ _ _ H _ Q _ r h=>hb H Q r h S.nd) len
theorem aK.mh{C:Addr}{P:Program}{w:World}{K:ax}{mg:τ}{base:Heap}{x qual:Str}{st:Stmt}{f:Addr}{fd:FuncData}{ps:γ}{k:Nat}{sp:Sp}(F:aK K x qual st f fd)(N:γ)(hb:∀{cdv:Value}{A:Around}{outer:List Env}{s:Shared}{vs:ε}{E:XK}(H:Hp)(Q:VK),b7 k (A.deeper (PyProof.Rows.envOfC qual (bp st) s.heap.objs.size f cdv))->sp vs H Q E->N.Nodup->∃t,dP ((bI (dZ P w C) P w K mg base N qual (bp st) f cdv A outer s H E).c9 (XI (bI (dZ P w C) P w K mg base N qual (bp st) f cdv A outer s H E) C E)) (fb st) t/\t {nx:=λ_ H'=>Q .aw H',rt:=Q} (start N vs) H)(S:mY N ps (bp st):=by exact My.Dk)(len:∀vs H Q E,sp vs H Q E->vs.length=ps.length:=by intro _ _ _ _ h;cases h;subst_vars;rfl):aE P w K mg base (dZ P w C) (k+1) f fd ps sp:=F.UB S (λ_ _ _ _ H _ Q _ r h=>hb H Q r h S.nd) len
end L2
namespace My
open PySem L2
theorem cJ{X:Cx}{x:Str}{n:Int}{pos:Pos}(h:∃tk,X.mg x=some (.int n tk))(hg:Gl X x)(hd:(x==("__debug__" :Str))=false:=by decide):PE X (.Name x pos) (tC (.int n)):=let ⟨tk,e⟩:=h
 iU hg e ⟨tk,rfl⟩ hd
end My
set_option maxHeartbeats 1000000
namespace My
open PySem L2
inductive iz(k:Nat)(vs:ε)(H:Hp)(Q:VK)(e0:XK):Prop
 |mk y z:vs=[.int y,.int z]->aN y->aN z->Q (.int (reckon k y z)) H->iz k vs H Q e0
inductive Mm(vs:ε)(H:Hp)(Q:VK)(e0:XK):Prop
 |mk n:vs=[.int n]->Q (.int (wrap n)) H->Mm vs H Q e0
variable{P:Program}{w:World}{K:ax}{mg:τ}{base:Heap}{t:Ad}
theorem ur(T:Txt K mg t):aE P w K mg base aM 1 t.Bj t.JA ["number"] Mm:=by
 refine T.pG.ko ["number"] λH Q hr h nd=>?_
 obtain⟨n,rfl,k⟩:=h;refine⟨_,aq (aC (bG s_ (bG Gr (bG iq (pv 0) (cJ T.ug rfl)) (cJ T.LP rfl)) (cJ T.ug rfl))),?_⟩;refine⟨_,rfl,_,_,rfl,rfl,_,_,rfl,rfl,?_,_,_,rfl,rfl,?_⟩
 ·show(0:Int)<18446744073709551616
  decide
 ·exact k
theorem WA(T:Txt K mg t):aE P w K mg base aM 2 t.oZ t.JB ["y","z"] (iz 0):=by
 refine T.Ci.ko ["y","z"] λH Q hr h nd=>?_
 obtain⟨y,z,rfl,hy,hz,k⟩:=h;refine⟨_,aq (aC (pC (ur T) hr T.rD T.pG (aa (bG iq (pv 0) (pv 1)) ag))),?_⟩;exact⟨_,rfl,_,rfl,_,_,rfl,rfl,_,rfl,k⟩
theorem WB(T:Txt K mg t):aE P w K mg base aM 2 t.o6 t.JC ["y","z"] (iz 1):=by
 refine T.Cj.ko ["y","z"] λH Q hr h nd=>?_
 obtain⟨y,z,rfl,hy,hz,k⟩:=h;refine⟨_,aq (aC (pC (ur T) hr T.rD T.pG (aa (bG s_ (pv 0) (pv 1)) ag))),?_⟩;exact⟨_,rfl,_,rfl,_,_,rfl,rfl,_,rfl,k⟩
theorem WC(T:Txt K mg t):aE P w K mg base aM 2 t.o7 t.JD ["y","z"] (iz 2):=by
 refine T.Ck.ko ["y","z"] λH Q hr h nd=>?_
 obtain⟨y,z,rfl,hy,hz,k⟩:=h;refine⟨_,aq (aC (pC (ur T) hr T.rD T.pG (aa (bG Gq (pv 0) (pv 1)) ag))),?_⟩;have:=hy.1;have:=hy.2;exact⟨_,rfl,_,rfl,_,_,rfl,rfl,.inl ⟨by omega,by omega⟩,_,rfl,k⟩
theorem WD(T:Txt K mg t):aE P w K mg base aM 2 t.o8 t.JE ["y","z"] (iz 3):=by
 refine T.Cm.ko ["y","z","size"] λH Q hr h nd=>?_
 obtain⟨y,z,rfl,hy,hz,k⟩:=h;refine⟨_,ak (aP (aQ bB (pv 1) aF) (aq (aC aF)) aR) (ak (aS 2 nd (bG U2 (b8 wK rfl T.uj rfl (aa (pv 0) ag)) (b8 wK rfl T.uj rfl (aa (pv 1) ag)))) (aq (aC (pC (ur T) hr T.rD T.pG (aa (gM (aQ bB (qW oE (pv 0) aF) (qW oE (pv 1) aF)) (pv 2) (mV oC (pv 2))) ag))))),?_⟩
 refine⟨_,rfl,rfl,_,rfl,?_⟩;refine cN (λc=>?_) (λc=>?_)
 ·have e:z=0:=by simpa using c
  have e2:reckon 3 y z=0:=ah e;rw[e2]at k;exact k
 ·have e:z≠0:=by simpa using c
  have b1:=hz.1;have b2:=hz.2;refine⟨_,rfl,_,rfl,_,rfl,_,rfl,_,_,rfl,rfl,?_,?_⟩
  ·show 0<(if z<0 then-z else z)/\(if z<0 then-z else z)<=9223372036854775808;split<;>omega
  ·have e2:reckon 3 y z=wrap (Int.tdiv y z):=af e;rw[e2,Vd y z e]at k;refine⟨_,rfl,_,_,rfl,rfl,_,rfl,_,_,rfl,rfl,rfl,_,rfl,?_⟩;refine cN (λc=>?_) (λc=>?_)
   ·rw[ah (by simpa using c)]at k;exact⟨_,rfl,_,rfl,k⟩
   ·rw[af (by simpa using c)]at k;exact⟨_,rfl,_,rfl,_,rfl,k⟩
theorem WE(T:Txt K mg t):aE P w K mg base aM 1 t.o9 t.JF ["y","z"] (iz 4):=by
 refine T.Cn.ko ["y","z","size"] λH Q hr h nd=>?_
 obtain⟨y,z,rfl,hy,hz,k⟩:=h;refine⟨_,ak (aP (aQ bB (pv 1) aF) (aq (aC (pv 0))) aR) (ak (aS 2 nd (bG Gr (b8 wK rfl T.uj rfl (aa (pv 0) ag)) (b8 wK rfl T.uj rfl (aa (pv 1) ag)))) (aq (aC (gM (aQ oE (pv 0) aF) (mV oC (pv 2)) (pv 2))))),?_⟩
 refine⟨_,rfl,rfl,_,rfl,?_⟩;refine cN (λc=>?_) (λc=>?_)
 ·have e:z=0:=by simpa using c
  have e2:reckon 4 y z=y:=ah e;rw[e2]at k;exact⟨_,rfl,k⟩
 ·have e:z≠0:=by simpa using c
  refine⟨_,rfl,_,rfl,_,rfl,_,rfl,_,_,rfl,rfl,?_,?_⟩
  ·show 0<(if z<0 then-z else z);split<;>omega
  ·have e2:reckon 4 y z=Int.tmod y z:=af e;rw[e2,IP y z]at k;refine⟨_,rfl,_,_,rfl,rfl,_,rfl,?_⟩;refine cN (λc=>?_) (λc=>?_)
   ·rw[ah (by simpa using c)]at k;exact⟨_,rfl,_,rfl,k⟩
   ·rw[af (by simpa using c)]at k;exact⟨_,rfl,k⟩
theorem WG(T:Txt K mg t):aE P w K mg base aM 1 t.o_ t.JG ["y","z"] (iz 5):=by
 refine T.Co.ko ["y","z"] λH Q hr h nd=>?_
 obtain⟨y,z,rfl,hy,hz,k⟩:=h;refine⟨_,aq (aC (bG tf (pv 0) (pv 1))),?_⟩;refine⟨_,rfl,_,rfl,_,_,rfl,rfl,?_⟩;show Q (.int (Builtin.bitAnd y z)) H;rw[<-Fm hy hz,<-IQ];exact k
theorem WH(T:Txt K mg t):aE P w K mg base aM 1 t.pf t.JH ["y","z"] (iz 6):=by
 refine T.Cp.ko ["y","z"] λH Q hr h nd=>?_
 obtain⟨y,z,rfl,hy,hz,k⟩:=h;refine⟨_,aq (aC (bG wH (pv 0) (pv 1))),?_⟩;refine⟨_,rfl,_,rfl,_,_,rfl,rfl,?_⟩;show Q (.int (Builtin.bitOr y z)) H;rw[<-QZ hy hz,<-IT];exact k
theorem WJ(T:Txt K mg t):aE P w K mg base aM 1 t.ph t.JI ["y","z"] (iz 7):=by
 refine T.Cq.ko ["y","z"] λH Q hr h nd=>?_
 obtain⟨y,z,rfl,hy,hz,k⟩:=h;refine⟨_,aq (aC (bG Sz (pv 0) (pv 1))),?_⟩;refine⟨_,rfl,_,rfl,_,_,rfl,rfl,?_⟩;show Q (.int (Builtin.bitXor y z)) H;rw[<-abu hy hz,<-IU];exact k
theorem WK(T:Txt K mg t):aE P w K mg base aM 2 t.pj t.JJ ["y","z"] (iz 8):=by
 refine T.Cr.ko ["y","z"] λH Q hr h nd=>?_
 obtain⟨y,z,rfl,hy,hz,k⟩:=h;refine⟨_,aq (aC (pC (ur T) hr T.rD T.pG (aa (bG Gs (pv 0) (bG tf (pv 1) (cJ T.De rfl))) ag))),?_⟩;have e:Builtin.bitAnd z 63=z%64:=PyProof.Rows.bitAnd_m6 z;have b1:=hy.1;have b2:=hy.2;refine⟨_,rfl,_,rfl,_,_,rfl,rfl,_,_,rfl,rfl,?_,_,rfl,?_⟩
 ·show 0<=Builtin.bitAnd z 63/\Builtin.bitAnd z 63<=1000000/\y.natAbs<2^64;rw[e,t9];omega
 ·show Q (.int (wrap (y*2^(Builtin.bitAnd z 63).toNat))) H;rw[e,<-IM];exact k
theorem WL(T:Txt K mg t):aE P w K mg base aM 1 t.pw t.JK ["y","z"] (iz 9):=by
 refine T.Cs.ko ["y","z"] λH Q hr h nd=>?_
 obtain⟨y,z,rfl,hy,hz,k⟩:=h;refine⟨_,aq (aC (bG Sy (pv 0) (bG tf (pv 1) (cJ T.De rfl)))),?_⟩;have e:Builtin.bitAnd z 63=z%64:=PyProof.Rows.bitAnd_m6 z;refine⟨_,rfl,_,rfl,_,_,rfl,rfl,_,_,rfl,rfl,?_,?_⟩
 ·show 0<=Builtin.bitAnd z 63;rw[e];omega
 ·show Q (.int (y/2^(Builtin.bitAnd z 63).toNat)) H;rw[e,<-IM];have e2:reckon 9 y z=Int.fdiv y (2^(bits z%64)):=rfl;rw[e2,Fv y (Af _)]at k;exact k
theorem WM(T:Txt K mg t):aE P w K mg base aM 1 t.pz t.JL ["y","z"] (iz 10):=by
 refine T.Ct.ko ["y","z"] λH Q hr h nd=>?_
 obtain⟨y,z,rfl,hy,hz,k⟩:=h;refine⟨_,aq (aC (gM (aQ oE (pv 0) (pv 1)) aF aF)),?_⟩;refine⟨_,rfl,_,rfl,_,_,rfl,rfl,_,rfl,?_⟩;have e2:reckon 10 y z=if decide (y<z)=true then 1 else 0:=rfl
 rw[e2]at k;refine cN (λc=>?_) (λc=>?_)
 ·rw[ah c]at k;exact k
 ·rw[af c]at k;exact k
theorem WN(T:Txt K mg t):aE P w K mg base aM 1 t.pA t.JM ["y","z"] (iz 11):=by
 refine T.Cu.ko ["y","z"] λH Q hr h nd=>?_
 obtain⟨y,z,rfl,hy,hz,k⟩:=h;refine⟨_,aq (aC (gM (aQ bB (pv 0) (pv 1)) aF aF)),?_⟩;refine⟨_,rfl,_,rfl,rfl,_,rfl,?_⟩;have e2:reckon 11 y z=if (y==z)=true then 1 else 0:=rfl
 rw[e2]at k;refine cN (λc=>?_) (λc=>?_)
 ·rw[ah (by simpa using c)]at k;exact k
 ·rw[af (by simpa using c)]at k;exact k
inductive yk(f:Nat->Bool)(vs:ε)(H:Hp)(Q:VK)(e0:XK):Prop
 |mk (c:Nat):vs=[.int (c:Int)]->Q (.bl (f c)) H->yk f vs H Q e0
def uv(c:Nat):Bool:=letter c||(digit c||c==95)
theorem Mn(T:Txt K mg t):aE P w K mg base aM 1 t.Bu t.JZ ["sign"] (yk letter):=by
 refine T.x4.ko ["sign"] λH Q hr h nd=>?_
 obtain⟨c,rfl,k⟩:=h;refine⟨_,aq (aC (tj iW iW (cJ T.LU rfl) (pv 0) (cJ T.LV rfl))),?_⟩;refine⟨_,rfl,_,_,rfl,rfl,_,rfl,?_⟩;refine cN (λc1=>?_) (λc1=>?_)
 ·refine⟨_,_,rfl,rfl,?_⟩;have c2:(97:Int)<=c:=by simpa using c1
  have e:letter c=decide ((c:Int)<=122):=by unfold letter;rw[bj (show 97<=c by omega),FW];exact mL.mpr (by omega)
  rw[e]at k;exact k
 ·have c2:¬(97:Int)<=c:=by simpa using c1
  have e:letter c=false:=by unfold letter;rw[aW (show ¬97<=c by omega),zz]
  rw[e]at k;exact k
theorem Mo(T:Txt K mg t):aE P w K mg base aM 1 t.Bv t.J0 ["sign"] (yk digit):=by
 refine T.x5.ko ["sign"] λH Q hr h nd=>?_
 obtain⟨c,rfl,k⟩:=h;refine⟨_,aq (aC (tj iW iW (cJ T.Dg rfl) (pv 0) (cJ T.LS rfl))),?_⟩;refine⟨_,rfl,_,_,rfl,rfl,_,rfl,?_⟩;refine cN (λc1=>?_) (λc1=>?_)
 ·refine⟨_,_,rfl,rfl,?_⟩;have c2:(48:Int)<=c:=by simpa using c1
  have e:digit c=decide ((c:Int)<=57):=by unfold digit;rw[bj (show 48<=c by omega),FW];exact mL.mpr (by omega)
  rw[e]at k;exact k
 ·have c2:¬(48:Int)<=c:=by simpa using c1
  have e:digit c=false:=by unfold digit;rw[aW (show ¬48<=c by omega),zz]
  rw[e]at k;exact k
theorem WO(T:Txt K mg t):aE P w K mg base aM 2 t.Bw t.J5 ["sign"] (yk uv):=by
 refine T.CH.ko ["sign"] λH Q hr h nd=>?_
 obtain⟨c,rfl,k⟩:=h;refine⟨_,aq (aC (Gd (pC (Mn T) hr T.CF T.x4 (aa (pv 0) ag)) (Gd (pC (Mo T) hr T.CG T.x5 (aa (pv 0) ag)) (zZ (qW bB (pv 0) (cJ T.LW rfl)))))),?_⟩
 refine⟨_,rfl,c,rfl,_,rfl,?_⟩;unfold uv at k;refine cN (λc1=>?_) (λc1=>?_)
 ·rw[c1,Bool.true_or]at k;exact k
 ·rw[oh]at c1;rw[c1,Bool.false_or]at k;refine⟨_,rfl,c,rfl,_,rfl,?_⟩;refine cN (λc1=>?_) (λc1=>?_)
  ·rw[c1,Bool.true_or]at k;exact k
  ·rw[oh]at c1;rw[c1,Bool.false_or]at k;refine⟨_,rfl,rfl,?_⟩;have e:(c==95)=decide (V.int (c:Int)=V.int 95):=by
    rw[gj];simp;omega
   rw[e]at k;exact k
inductive ym(vs:ε)(H:Hp)(Q:VK)(e0:XK):Prop
 |mk (x:Str):vs=[.str x]->x.cps.size<=100->(∀p H',ae H H'->H p=none->H' p=some (.tup (iw x.cps.toList))->Q (.ref p) H')->ym vs H Q e0
theorem WQ{x:Str}{H:Hp}:oX (AW x) H (x.cps.toList.map λ(c:Nat)=>V.str ⟨#[c]⟩):=by
 refine⟨λi hi=>?_,?_⟩
 ·have hn:i<x.cps.size:=by simpa using hi
  refine⟨hn,λy H' ⟨e,c,ec,ev⟩=>⟨e,?_⟩⟩;rw[ev,List.getElem_map,Array.getElem_toList];rw[jq hn]at ec;rw[b_ ec]
 ·show x.cps.size<=_;simp
theorem fF(T:Txt K mg t):aE P w K mg base aM 1 t.Bs t.JX ["text"] ym:=by
 refine T.eF.ko ["text","sign"] λH Q hr h nd=>?_
 obtain⟨x,rfl,hx,k⟩:=h;refine⟨_,aq (aC (lW As rfl T.yi rfl (aa (iy (own:=[("sign",1)]) rfl nd (Uo (pv 0)) ?b (λs H C cl fp=>bD 1 nd) (λs H C cl fp=>eE) (λs H C cl fp=>b8 SG rfl T.Mj rfl (aa (pv 1) ag))) ag))),?_⟩
 ·show cX ["text","sign"] (bp Jb) _ _;exact bk
 ·refine⟨_,rfl,x,rfl,λD hD=>?_⟩;refine l8 (xs:=x.cps.toList.map λ(c:Nat)=>V.str ⟨#[c]⟩) (λv=>match v with | .str z=>.int ((z.cps.getD 0 0:Nat):Int) |v=>v) hD (by rw[aI,gI,aZ];omega) (λH _=>WQ) (λy=>rfl) ?_ ?_
  ·intro i y H1 hy sm Q' k';rw[bC]at hy;obtain⟨c,hc,rfl⟩:=cF.mp hy;refine⟨_,rfl,_,rfl,rfl,?_⟩;exact k' H1 (ae.refl _)
  ·intro H1 sm hL;refine⟨D,_,rfl,.inl ⟨aj.of hL,λp hp=>?_⟩⟩;refine k p _ (λb o e=>?_) (sm.free hp) ?_
   ·rw[ay (aH (sm b o e) hp)];exact sm b o e
   ·rw[au,fu];rfl
theorem Mp{H:Hp}{D:Addr}:∀{zs:γ}{ys:ε},Paired (λx y=>∃z p,x=V.str z/\y=V.ref p/\p≠D/\H p=some (.tup (iw z.cps.toList))) (zs.map V.str) ys->∃ps,ys=ps.map V.ref/\i7 H ps (zs.map λz=>z.cps.toList)
 |[],_,.nil=>⟨[],rfl,.nil⟩
 |z::zs,_,.cons ⟨z',p,e1,e2,_,hp⟩ r=>by cases e1;obtain⟨ps,e,h⟩:=Mp r;exact⟨p::ps,by rw[e2,e];rfl,.cons hp h⟩
def Dl:List Str:=["label","goto","if","print","read","end"]
theorem abv:Dl.map (λz=>z.cps.toList)=Sz43.kept:=by decide+kernel
inductive Mq(vs:ε)(H:Hp)(Q:VK)(e0:XK):Prop
 |mk (p:Addr) (w:ψ):vs=[.ref p]->H p=some (.tup (iw w))->w≠[]->(∀H',ae H H'->Q (.bl (isName w)) H')->Mq vs H Q e0
theorem kL{w:ψ}{i:Nat}{x:V}(h:(iw w)[i]? =some x):∃c:Nat,w[i]? =some c/\x=.int (c:Int):=by unfold iw at h;rw[bC]at h;obtain⟨c,hc,rfl⟩:=cF.mp h;exact⟨c,hc,rfl⟩
theorem Mr{w:ψ}{c:Nat}{r:ψ}(h:w=c::r):oK (iw w) 0=some (.int (c:Int)):=by subst h;exact aY (j:=0) (xs:=iw (c::r)) rfl
theorem Dm(T:Txt K mg t):aE P w K mg base aM 3 t.Bx t.J7 ["word"] Mq:=by
 refine T.ud.ko ["word","text","sign"] λH Q hr h nd=>?_
 obtain⟨p,u,rfl,hp,hn,k⟩:=h;have hr1:=hr.mono (show 1<=2 by decide);refine⟨_,ak (aP (PW.pt (lR (aQ qV (b8 c_ rfl T.cS c8 (aa (pv 0) ag)) (cJ T.LZ rfl)) (lQ (ox (jv (pC (Mn T) hr1 T.CF T.x4 (aa (aU gR (pv 0) aF) ag))))))) (aq (aC mS)) aR)
  (ak (aP (aQ (U7 hr.units) (pv 0) (iy (own:=[("text",1)]) rfl nd (lT (iU (v:=.ref t.xA) rfl T.LY rfl)) ?b1 (λs H C cl fp=>bD 1 nd) (λs H C cl fp=>eE) (λs H C cl fp=>pC (fF T) hr1 T.fe T.eF (aa (pv 1) ag))) (by with_unfolding_all rfl)) (aq (aC mS)) aR)
  (aq (aC (b8 (Hy rfl) rfl T.Di rfl (aa (iy (own:=[("sign",2)]) rfl nd (lT (pv 0)) ?b2 (λs H C cl fp=>bD 2 nd) (λs H C cl fp=>eE) (λs H C cl fp=>pC (WO T) hr T.Lb T.CH (aa (pv 2) ag))) ag))))),?_⟩
 ·show cX ["word","text","sign"] (bp A4) _ _;exact bk
 ·show cX ["word","text","sign"] (bp A4) _ _;exact bk
 ·obtain⟨c,r,rfl⟩:∃c r,u=c::r:=by
   cases u with
   |nil=>exact absurd rfl hn
   |cons c r=>exact⟨c,r,rfl⟩
  have hT:aV K H p (iw (c::r)):=aV.of hp;unfold isName at k;refine⟨_,rfl,p,_,rfl,.inr hT,_,_,rfl,rfl,_,rfl,?_⟩;refine cN (λc1=>?_) (λc1=>?_)
  ·have e:¬(c::r).length<=16:=by
    have c1:=jr c1;rw[bJ]at c1;omega
   rw[aW e,zz]at k;exact aD (k H (ae.refl H))
  have l16:(c::r).length<=16:=by have c1:=ki ((oh _).mp c1);rw[bJ]at c1;omega
  refine⟨_,rfl,p,_,_,_,rfl,rfl,hT,Mr rfl,c,rfl,_,rfl,?_⟩;refine cN (λc1=>?_) (λc1=>?_)
  ·have e:letter c=false:=by simpa using c1
   have e2:(c::r).head?.any letter=false:=e;rw[e2,zz,FA]at k;exact k H (ae.refl H)
  have e:letter c=true:=by simpa using c1
  have e2:(c::r).head?.any letter=true:=e;rw[e2,FW,bj l16,FW]at k;refine⟨_,rfl,t.xA,rfl,⟨_,T.Dh H⟩,λD hD=>?_⟩;refine IH (xs:=Dl.map V.str) (λx y H=>∃z p,x=V.str z/\y=V.ref p/\p≠D/\H p=some (.tup (iw z.cps.toList))) hD (by decide) ?_ (λH1 _=>rj (T.Dh H1)) (λy=>rfl) ?_ ?_
  ·rintro x y H1 H2 ⟨z,q,e1,e2,e3,e4⟩ hh
   exact⟨z,q,e1,e2,e3,hh _ _ e3 e4⟩
  ·intro i y H1 hy sm ⟨acc,hacc⟩ Q' k';rw[bC]at hy;obtain⟨z,hz,rfl⟩:=cF.mp hy;have hm:∀z∈Dl,z.cps.size<=100:=by decide+kernel
   refine⟨_,rfl,z,rfl,hm z (br hz),λq H2 s2 f2 e2=>?_⟩;exact k' _ _ s2 ⟨z,q,rfl,rfl,(aH hacc f2).symm,e2⟩
  ·intro ys H1 sm hL pr;obtain⟨ps,rfl,hw⟩:=Mp pr;rw[abv]at hw;refine⟨p,D,ps,_,_,rfl,rfl,sm _ _ hp,aj.of hL,hw,_,rfl,?_⟩;refine cN (λc1=>?_) (λc1=>?_)
   ·rw[c1,Bool.not_true,FA]at k;exact k H1 sm
   rw[(oh _).mp c1,Bool.not_false,FX]at k;refine⟨_,rfl,p,rfl,⟨_,sm.oY hT⟩,λD2 uw=>?_⟩;refine l8 (xs:=iw (c::r)) (λv=>match v with | .int z=>.bl (uv z.toNat) |v=>v) uw (by rw[bJ,aZ];omega) (λH2 s2=>rj ((sm.trans s2).oY hT)) (λy=>rfl) ?_ ?_
   ·intro i y H2 hy s2 Q' k';obtain⟨d,hd,rfl⟩:=kL hy;exact⟨_,rfl,d,rfl,k' H2 (ae.refl _)⟩
   ·intro H2 s2 hL2;refine⟨D2,(c::r).map uv,rfl,?_,?_⟩
    ·refine aj.of (hL2.trans ?_);unfold iw;rw[fu,fu];rfl
    ·have e3:((c::r).map uv).all id=(c::r).all (λ(c:Nat)=>letter c||(digit c||c==95)):=by
      rw[List.all_map];rfl
     rw[e3];exact k H2 (sm.trans s2)
def da:Option Int->V
 |some z=>.int z
 |none=>.aw
def i_(ds:ψ):Nat:=ds.foldl (λ(n c:Nat)=>10*n+(c-48)) 0
def nA(neg:Bool)(ds:ψ):Option Int:=(natOf ds).bind λn=>let z:Int:=if neg=true then-(n:Int)else n
 if-9223372036854775808<=z/\z<9223372036854775808 then some z else none
theorem WR(r:ψ):numberOf (45::r)=nA true r:=by
 unfold nA;show(natOf r).bind _=_;cases natOf r with
 |none=>rfl
 |some n=>
  show(if n<=2^63 then some (-(n:Int))else none)=(if-9223372036854775808<= -(n:Int)/\ -(n:Int)<9223372036854775808 then some (-(n:Int))else none);have e:(2:Nat)^63=9223372036854775808:=by decide
  rw[e];by_cases h:n<=9223372036854775808
  ·rw[ah h,ah (by omega)]
  ·rw[af h,af (by omega)]
theorem WS(w:ψ)(h:∀r,w≠45::r):numberOf w=nA false w:=by
 have e0:numberOf w=(natOf w).bind λn=>if n<2^63 then some (n:Int)else none:=by
  unfold numberOf;split
  ·exact absurd rfl (h _)
  ·rfl
 rw[e0];unfold nA;cases natOf w with
 |none=>rw[jK,jK]
 |some n=>
  rw[e9,e9];show(if n<2^63 then some (n:Int)else none)=(if-9223372036854775808<=(n:Int)/\(n:Int)<9223372036854775808 then some (n:Int)else none);have e:(2:Nat)^63=9223372036854775808:=by decide
  rw[e];by_cases h:n<9223372036854775808
  ·rw[ah h,ah (by omega)]
  ·rw[af h,af (by omega)]
theorem WT(ds:ψ)(c:Nat):i_ (ds++[c])=10*i_ ds+(c-48):=by unfold i_;rw[zK];rfl
inductive Ms(vs:ε)(H:Hp)(Q:VK)(e0:XK):Prop
 |mk (p:Addr) (w:ψ):vs=[.ref p]->H p=some (.tup (iw w))->w≠[]->(∀H',ae H H'->Q (da (numberOf w)) H')->Ms vs H Q e0
theorem WU(w:ψ)(h:w≠[]):iZ (iw w) (some 1) none=iw (w.drop 1):=by
 unfold iZ HT.ba;cases w with
 |nil=>exact absurd rfl h
 |cons c r=>
  have e:min (Int.toNat 1) (iw (c::r)).length=1:=by rw[bJ,bT];show min 1 _=1;omega
  simp only[show ¬((1:Int)<0) by decide,kf];rw[e,List.drop_one];show List.take _ (iw r)=iw r;rw[Rn];rw[bJ,bJ,bT];omega
theorem Mt{c:Bool}{A B:VK->Prop}{Qk:VK}(R:Addr->Hp->Prop)(hA:c=true->(∀dp H1,R dp H1->Qk (.ref dp) H1)->A Qk)(hB:c=false->(∀dp H1,R dp H1->Qk (.ref dp) H1)->B Qk)(k:∀dp H1,R dp H1->Qk (.ref dp) H1):if c=true then A Qk else B Qk:=by
 cases c with
 |true=>exact aD (hA rfl k)
 |false=>exact az (hB rfl k)
theorem WV{c:Bool}{A B:VK->Prop}{Qk:VK}{H:Hp}{z:Int}(hA:c=true->Qk (.int z) H->A Qk)(hB:c=false->Qk (.int z) H->B Qk)(k:Qk (.int z) H):if c=true then A Qk else B Qk:=by
 cases c with
 |true=>exact aD (hA rfl k)
 |false=>exact az (hB rfl k)
theorem WW(T:Txt K mg t):aE P w K mg base aM 2 t.Bz t.J8 ["word"] Ms:=by
 refine T.CI.ko ["word","below_zero","digits","size","sign","number"] λH Q hr h nd=>?_
 obtain⟨p,u,rfl,hp,hn,k⟩:=h;refine⟨_,ak (aS 1 nd (qW bB (aU gR (pv 0) aF) (cJ T.LX rfl))) (ak (aS 2 nd (gM (jv (pv 1)) (G_ Td (pv 0) (G9 aF) G8) (pv 0))) (ak (aP (ox (GF iW iW aF (b8 c_ rfl T.cS c8 (aa (pv 2) ag)) (cJ T.L5 rfl))) (aq (aC e_)) aR) (ak (aP (ox (jv (b8 (Hy rfl) rfl T.Di rfl (aa (iy (own:=[("sign",4)]) rfl nd (lT (pv 2)) ?b1 (λs H C cl fp=>bD 4 nd) (λs H C cl fp=>eE) (λs H C cl fp=>pC (Mo T) hr T.CG T.x5 (aa (pv 4) ag))) ag)))) (aq (aC e_)) aR) (ak (aS 3 nd aF) (ak (gP gn rfl (lT (pv 2)) (bD 4 nd) (aq (aS 3 nd (bG s_ (bG iq (bG Gq (pv 3) aF) (pv 4)) (cJ T.Dg rfl))))) (ak (aS 5 nd (gM (jv (pv 1)) (mV oC (pv 3)) (pv 3))) (ak (aP (GF iW oE (mV oC (cJ T.ug rfl)) (pv 5) (cJ T.ug rfl)) (aq (aC (pv 5))) aR) (aq (aC e_))))))))),?_⟩
 ·show cX ["word","below_zero","digits","size","sign","number"] (bp Jc) _ _;exact bk
 ·dsimp only[bI,Cx.bZ];obtain⟨c,r,rfl⟩:∃c r,u=c::r:=by
   cases u with
   |nil=>exact absurd rfl hn
   |cons c r=>exact⟨c,r,rfl⟩
  have hT:aV K H p (iw (c::r)):=aV.of hp;obtain⟨neg,en⟩:∃neg,neg=decide (V.int (c:Int)=V.int 45):=⟨_,rfl⟩;obtain⟨ds,ed⟩:∃ds,ds=if neg=true then r else c::r:=⟨_,rfl⟩
  have eN:numberOf (c::r)=nA neg ds:=by
   cases neg with
   |true=>
    have e:c=45:=by
     have:=jr en.symm;injection this with this
     omega
    rw[ed,ah rfl,e];exact WR r
   |false=>
    have e:c≠45:=λz=>ki en.symm (by rw[z];rfl)
    rw[ed,af cM];exact WS _ λq z=>e (sP z).1
  rw[eN]at k;refine⟨_,rfl,p,_,_,_,rfl,rfl,hT,Mr rfl,rfl,?_⟩;rw[<-en];refine⟨_,rfl,_,rfl,?_⟩;refine Mt (λdp H1=>ae H H1/\aV K H1 dp (iw ds)) (λcn kk=>?_) (λcn kk=>?_) ?_
  ·refine⟨_,rfl,_,rfl,p,_,rfl,hT,?_,λq hq=>?_⟩
   ·intro⟨z,_⟩;have z':min 1 (iw (c::r)).length=0:=z;rw[bJ,bT]at z';omega
   ·refine kk q _ ⟨ae.new hq,?_⟩;rw[ed,ah cn];refine aV.of (au.trans ?_);rw[WU _ hn];rfl
  ·refine⟨_,rfl,kk p H ⟨ae.refl H,?_⟩⟩;rw[ed,cn,af cM];exact hT
  ·rintro dp H1 ⟨s1,hd⟩
   have none_of:(ds=[]\/19<ds.length\/ds.all digit=false)->nA neg ds=none:=λh=>by unfold nA natOf;rw[ah h,jK]
   refine⟨_,rfl,dp,_,rfl,.inr hd,_,_,rfl,rfl,_,rfl,?_⟩;refine cN (λc1=>?_) (λc1=>?_)
   ·refine⟨_,_,rfl,rfl,_,rfl,?_⟩;have c1:=jr c1;rw[bJ]at c1;refine cN (λc2=>?_) (λc2=>?_)
    ·have e:19<ds.length:=by
      rw[bJ]at c2;have:=ki (Bool.not_eq_true' _▸c2);omega
     rw[none_of (.inr (.inl e))]at k;exact k H1 s1
    ·have l19:ds.length<=19:=by
      rw[bJ]at c2;have:¬ ¬((ds.length:Int)<=19):=λz=>c2 (by rw[aW z];rfl)
      omega
     refine⟨_,rfl,dp,rfl,⟨_,hd⟩,λD hD=>?_⟩;refine l8 (xs:=iw ds) (λv=>match v with | .int z=>.bl (digit z.toNat) |v=>v) hD (by rw[bJ,aZ];omega) (λH2 s2=>rj (s2.oY hd)) (λy=>rfl) ?_ ?_
     ·intro i y H2 hy s2 Q' k';obtain⟨d,hd,rfl⟩:=kL hy;exact⟨_,rfl,d,rfl,k' H2 (ae.refl _)⟩
     ·intro H2 s2 hL2;refine⟨D,ds.map digit,rfl,?_,?_⟩
      ·refine aj.of (hL2.trans ?_);unfold iw;rw[fu,fu];rfl
      have e3:(ds.map digit).all id=ds.all digit:=by rw[List.all_map];rfl
      rw[e3];refine⟨_,rfl,?_⟩;refine cN (λc3=>?_) (λc3=>?_)
      ·rw[none_of (.inr (.inr (by simpa using c3)))]at k;exact k H2 (s1.trans s2)
      have dg:ds.all digit=true:=by simpa using c3
      have eS:natOf ds=some (i_ ds):=by
       unfold natOf;rw[af]
       ·rfl
       ·rintro(h |h |h)
        ·rw[h]at c1;simp at c1
        ·omega
        ·rw[dg]at h;cases h
      have hd2:=s2.oY hd;refine⟨_,rfl,dp,rfl,⟨_,hd2⟩,Ab (K:=K) (a:=dp) (xs:=iw ds) (λi σ H3=>∃v,σ=[χ p,some (.bl neg),χ dp,some (.int (i_ (ds.take i):Nat)),v,none]/\H3=H2) ⟨_,rfl,rfl⟩ (λi σ H3 _ ⟨_,_,e⟩=>by rw[e];exact hd2) ?_ ?_⟩
      ·rintro i y σ H3 hy ⟨v,rfl,rfl⟩
       obtain⟨d,hdd,rfl⟩:=kL hy;refine⟨_,rfl,_,_,rfl,rfl,.inr ⟨by decide,by decide⟩,_,rfl,_,_,rfl,rfl,_,_,rfl,rfl,?_⟩;have g48:48<=d:=by have:=zL.mp dg d (br hdd);unfold digit at this;simp at this;omega
       have e4:i_ (ds.take (i+1))=10*i_ (ds.take i)+(d-48):=by rw[iO,hdd];exact WT _ _
       have e5:((i_ (ds.take i):Nat):Int)*10+d-48=((i_ (ds.take (i+1)):Nat):Int):=by rw[e4];omega
       exact⟨some (.int d),c7 (λq=>[some (V.ref p),some (V.bl neg),some (V.ref dp),some (V.int q),some (V.int d),none]) e5,rfl⟩
      ·rintro σ H3 ⟨v,rfl,rfl⟩
       rw[bJ,kh];unfold nA at k;rw[eS,e9]at k;refine⟨_,rfl,_,rfl,?_⟩;refine WV (z:=if neg=true then-((i_ ds:Nat):Int)else ((i_ ds:Nat):Int)) (λcn kk=>⟨_,rfl,_,rfl,by rw[ah cn]at kk;exact kk⟩) (λcn kk=>⟨_,rfl,by rw[af (by rw[cn];exact cM)]at kk;exact kk⟩) ?_;generalize (if neg=true then-((i_ ds:Nat):Int)else ((i_ ds:Nat):Int))=z at k;refine⟨_,rfl,_,rfl,_,_,rfl,rfl,_,rfl,?_⟩;refine cN (λc4=>?_) (λc4=>?_)
       ·have c4:=jr c4;refine⟨_,_,rfl,rfl,_,rfl,?_⟩;refine cN (λc5=>?_) (λc5=>?_)
        ·have c5:=jr c5;simp only[ah (show-9223372036854775808<=z/\z<9223372036854775808 from ⟨c4,c5⟩)]at k;exact⟨_,rfl,k H3 (s1.trans s2)⟩
        ·have c5:¬z<9223372036854775808:=by simpa using c5
         simp only[af (show ¬(-9223372036854775808<=z/\z<9223372036854775808) from λq=>c5 q.2)]at k;exact k H3 (s1.trans s2)
       ·have c4:¬ -9223372036854775808<=z:=by simpa using c4
        simp only[af (show ¬(-9223372036854775808<=z/\z<9223372036854775808) from λq=>c4 q.1)]at k;refine⟨_,rfl,?_⟩;exact az (k H3 (s1.trans s2))
   ·have c1:¬(1:Int)<=(iw ds).length:=by simpa using c1
    rw[bJ]at c1;have e:ds=[]:=by
     cases ds with
     |nil=>rfl
     |cons a b=>rw[bT]at c1;omega
    rw[none_of (.inl e)]at k;refine⟨_,rfl,?_⟩;exact aD (k H1 s1)
theorem Q0{a d:Int}(h:0<=a)(hd:0<d):a%d<=a:=by have h1:=Int.emod_add_mul_ediv a d;have h2:=Int.mul_nonneg (show 0<=d by omega) (Int.ediv_nonneg h (show 0<=d by omega));omega
theorem Mu{k:Nat}{y z:Int}(hy:aN y)(hz:aN z):aN (reckon k y z):=by
 have tr:∀b,aN (Sz43.truth b):=λb=>by unfold Sz43.truth aN;split<;>omega
 match k with
 |0=>exact m_ _
 |1=>exact m_ _
 |2=>exact m_ _
 |3=>
  show aN (if z=0 then 0 else wrap (Int.tdiv y z));split
  ·unfold aN;omega
  ·exact m_ _
 |4=>
  show aN (if z=0 then y else Int.tmod y z);split
  ·exact hy
  ·rename_i h
   have e:=IP y z;unfold aN at*;unfold ab at e;rw[e];have h2:(if z<0 then-z else z)>0:=by split<;>omega
   generalize (if z<0 then-z else z)=d at*;split
   ·rename_i hn
    have:=Int.emod_nonneg (-y) (show d≠0 by omega);have h3:=Q0 (show 0<= -y by omega) (show 0<d by omega);omega
   ·have:=Int.emod_nonneg y (show d≠0 by omega);have h3:=Q0 (show 0<=y by omega) (show 0<d by omega);omega
 |5=>rw[IQ];exact m_ _
 |6=>rw[IT];exact m_ _
 |7=>rw[IU];exact m_ _
 |8=>exact m_ _
 |9=>
  show aN (Int.fdiv y (2^(bits z%64)));rw[Fv y (Af _)];have hp:(0:Int)<2^(bits z%64):=Int.pow_pos (by decide);unfold aN at*;generalize (2:Int)^(bits z%64)=d at*;by_cases h:0<=y
  ·have h1:=Int.ediv_nonneg h (show 0<=d by omega);have h2:=Int.ediv_le_self d h;omega
  ·have h1:=Int.ediv_neg_of_neg_of_pos (show y<0 by omega) hp;have h2:y<=y/d:=(Int.le_ediv_iff_mul_le hp).mpr (by
    have:=Int.mul_le_mul_of_nonpos_left (show y<=0 by omega) (show 1<=d by omega);omega)
   omega
 |10=>exact tr _
 |n+11=>exact tr _
def nB(t:Ad):List Addr:=[t.oZ,t.o6,t.o7,t.o8,t.o9,t.o_,t.pf,t.ph,t.pj,t.pw,t.pz,t.pA]
def rJ(t:Ad):List Addr:=[t.xB,t.xC,t.xD,t.xE,t.xF,t.xG,t.xH,t.xI,t.xJ,t.xK,t.xM,t.xN]
theorem abw(t:Ad):pE t=(Sz43.ops.zip ((rJ t).zip (nB t))).map λx=>(kw x.1,x.2.1,Value.ref x.2.2):=by
 have e:Sz43.ops=[[43],[45],[42],[47],[37],[38],[124],[94],[60,60],[62,62],[60],[61,61]]:=by decide+kernel
 rw[e];rfl
theorem Mv(w:ψ):∀(os:ξ)(ps fs:θ),ps.length=os.length->fs.length=os.length->atKey ((os.zip (ps.zip fs)).map λx=>(kw x.1,x.2.1,Value.ref x.2.2)) (kw w)=(os.findIdx? λx=>x==w).bind λi=>(ps[i]?).bind λp=>(fs[i]?).map λf=>(p,Value.ref f)
 |[],_,_,_,_=>rfl
 |o::os,p::ps,f::fs,h1,h2=>by
  have ih:=Mv w os ps fs (by simpa using h1) (by simpa using h2);unfold atKey at ih ⊢;rw[List.zip_cons_cons,List.zip_cons_cons,bx,lE,FY];by_cases e:o=w
  ·subst e;simp
  ·have e1:¬kw o=kw w:=λz=>e (A1 z)
   have e2:(o==w)=false:=by simpa using e
   rw[aW e1,e2,ih];simp only[qD,kf,Option.bind_map]
   congr 1
theorem Mw(t:Ad)(w:ψ):atKey (pE t) (kw w)=(Sz43.ops.findIdx? λx=>x==w).bind λi=>((rJ t)[i]?).bind λp=>((nB t)[i]?).map λf=>(p,Value.ref f):=by
 rw[abw];have e:Sz43.ops.length=12:=by decide+kernel
 exact Mv w _ _ _ (by rw[e];rfl) (by rw[e];rfl)
theorem Mx{w:ψ}{i:Nat}(h:(Sz43.ops.findIdx? λx=>x==w)=some i):i<12/\Sz43.ops.getD i []=w:=by
 have e:Sz43.ops.length=12:=by decide+kernel
 obtain⟨h1,h2,_⟩:=mM.mp h;refine⟨by omega,?_⟩;rw[dy,aL h1];simpa using h2
theorem WX{i:Nat}(h:i<12):(Sz43.ops.findIdx? λx=>x==Sz43.ops.getD i [])=some i:=by
 have:∀i,i<12->(Sz43.ops.findIdx? λx=>x==Sz43.ops.getD i [])=some i:=by decide+kernel
 exact this i h
inductive Mz(vs:ε)(H:Hp)(Q:VK)(e0:XK):Prop
 |mk (p:Addr) (w:ψ):vs=[.ref p]->H p=some (.tup (iw w))->(Q (.bl (Sz43.ops.findIdx? λx=>x==w).isSome) H)->Mz vs H Q e0
inductive MA(vs:ε)(H:Hp)(Q:VK)(e0:XK):Prop
 |mk (p:Addr) (k:Nat) (y z:Int):vs=[.ref p,.int y,.int z]->k<12->H p=some (.tup (iw (Sz43.ops.getD k [])))->aN y->aN z->Q (.int (reckon k y z)) H->MA vs H Q e0
def MB(t:Ad)(f:Addr)(vs:ε)(H:Hp)(Q:VK):Prop:=∃k,(nB t)[k]? =some f/\iz k vs H Q E0
theorem WY(T:Txt K mg t):aE P w K mg base aM 1 t.Bk t.JN ["word"] Mz:=by
 refine T.Cv.ko ["word"] λH Q hr h nd=>?_
 obtain⟨p,u,rfl,hp,k⟩:=h;refine⟨_,aq (aC (R9 (U4 (T.tab P w) (ky hr) (pv 0) (iU (v:=.ref t.pD) rfl T.Df rfl)))),?_⟩;refine⟨_,rfl,p,kw u,rfl,rfl,by rw[rg];exact hp,?_⟩;have e:(atKey (pE t) (kw u)).isSome=(Sz43.ops.findIdx? λx=>x==u).isSome:=by
  rw[Mw];cases q:(Sz43.ops.findIdx? λx=>x==u)with
  |none=>rfl
  |some i=>obtain⟨h1,_⟩:=Mx q;have e1:∃p,(rJ t)[i]? =some p:=⟨_,aL (show i<(rJ t).length from h1)⟩;have e2:∃p,(nB t)[i]? =some p:=⟨_,aL (show i<(nB t).length from h1)⟩;obtain⟨a,e1⟩:=e1;obtain⟨b,e2⟩:=e2;rw[e9,e1,e9,e2];rfl
 rw[e];exact k
theorem WZ(T:Txt K mg t){f:Addr}{vs:ε}{H:Hp}{Q:VK}(h:MB t f vs H Q):∃k fd ps sp,k<=2/\aE P w K mg base aM k f fd ps sp/\Binds K fd ps []/\sp vs H Q E0:=by
 obtain⟨k,hk,h⟩:=h;have hl:k<12:=(bN.mp hk).1;have hc:=(by decide:∀k,k<12->k=0\/k=1\/k=2\/k=3\/k=4\/k=5\/k=6\/k=7\/k=8\/k=9\/k=10\/k=11) k hl;rcases hc with rfl |rfl |rfl |rfl |rfl |rfl |rfl |rfl |rfl |rfl |rfl |rfl
 ·cases hk;exact⟨2,_,_,_,by decide,WA T,cb T.Ci,h⟩
 ·cases hk;exact⟨2,_,_,_,by decide,WB T,cb T.Cj,h⟩
 ·cases hk;exact⟨2,_,_,_,by decide,WC T,cb T.Ck,h⟩
 ·cases hk;exact⟨2,_,_,_,by decide,WD T,cb T.Cm,h⟩
 ·cases hk;exact⟨1,_,_,_,by decide,WE T,cb T.Cn,h⟩
 ·cases hk;exact⟨1,_,_,_,by decide,WG T,cb T.Co,h⟩
 ·cases hk;exact⟨1,_,_,_,by decide,WH T,cb T.Cp,h⟩
 ·cases hk;exact⟨1,_,_,_,by decide,WJ T,cb T.Cq,h⟩
 ·cases hk;exact⟨2,_,_,_,by decide,WK T,cb T.Cr,h⟩
 ·cases hk;exact⟨1,_,_,_,by decide,WL T,cb T.Cs,h⟩
 ·cases hk;exact⟨1,_,_,_,by decide,WM T,cb T.Ct,h⟩
 ·cases hk;exact⟨1,_,_,_,by decide,WN T,cb T.Cu,h⟩
theorem W0(T:Txt K mg t){k:Nat}{f:Addr}(h:(nB t)[k]? =some f):keepIn K (.ref f)=true:=by
 obtain⟨h0,h1,h2,h3,h4,h5,h6,h7,h8,h9,h10,h11⟩:=T.Mf;have hl:k<12:=(bN.mp h).1;have hc:=(by decide:∀k,k<12->k=0\/k=1\/k=2\/k=3\/k=4\/k=5\/k=6\/k=7\/k=8\/k=9\/k=10\/k=11) k hl;rcases hc with rfl |rfl |rfl |rfl |rfl |rfl |rfl |rfl |rfl |rfl |rfl |rfl
 ·cases h;exact h0
 ·cases h;exact h1
 ·cases h;exact h2
 ·cases h;exact h3
 ·cases h;exact h4
 ·cases h;exact h5
 ·cases h;exact h6
 ·cases h;exact h7
 ·cases h;exact h8
 ·cases h;exact h9
 ·cases h;exact h10
 ·cases h;exact h11
theorem MC(T:Txt K mg t):aE P w K mg base aM 3 t.Bl t.JO ["operator","y","z"] MA:=by
 refine T.xV.ko ["operator","y","z","reckon"] λH Q hr h nd=>?_
 obtain⟨p,n,y,z,rfl,hn,hp,hy,hz,k⟩:=h;refine⟨_,ak (aS 3 nd (U6 (T.tab P w) (ky hr) (iU (v:=.ref t.pD) rfl T.Df rfl) (pv 0) (λ_ _=>rfl))) (aq (aC (xk (i:=3) (spT:=MB t) (λf vs H Q h=>?f) rfl (Or.inl rfl) (aa (pv 1) (aa (pv 2) ag))))),?_⟩
 ·obtain⟨k,fd,ps,sp,h1,h2,h3,h4⟩:=WZ (P:=P) (w:=w) (base:=base) T h;exact⟨k,fd,ps,sp,h2,hr.mono h1,h3,h4⟩
 ·obtain⟨f,hf⟩:∃f,(nB t)[n]? =some f:=⟨_,aL (show n<(nB t).length from hn)⟩;obtain⟨q,hq⟩:∃f,(rJ t)[n]? =some f:=⟨_,aL (show n<(rJ t).length from hn)⟩;refine⟨_,rfl,p,kw _,q,f,rfl,rfl,by rw[rg];exact hp,?_,?_⟩
  ·rw[Mw,WX hn,e9,hq,e9,hf];rfl
  ·refine⟨f,rfl,W0 T hf,_,rfl,_,rfl,?_⟩;exact⟨n,hf,y,z,rfl,hy,hz,k⟩
end My
namespace My
open Sz43
def d9(c:Nat):Bool:=c==32||c==9||c==13
structure nE where
 ls:List (List Bytes)
 ws:List Bytes
 wd:Bytes
def gA(ws:ζ)(wd:Bytes):List Bytes:=if wd=[]then ws else ws++[wd]
noncomputable def d6(s:nE)(c:Nat):nE:=if c≠10/\d9 c=false then ⟨s.ls,s.ws,s.wd++[c]⟩ else if c=10 then ⟨s.ls++[gA s.ws s.wd],[],[]⟩else ⟨s.ls,gA s.ws s.wd,[]⟩
theorem pK(f:Nat->Bool):∀t,∃l m,parted f t=l::m
 |[]=>⟨[],[],rfl⟩
 |c::r=>by
  obtain⟨l,m,e⟩:=pK f r;show ∃l' m',(match parted f r with |l::m=>if f c=true then []::l::m else (c::l)::m |[]=>[[c]])=l'::m';rw[e];by_cases h:f c=true
  ·exact⟨_,_,ah h⟩
  ·exact⟨_,_,af h⟩
theorem Dq{f:Nat->Bool}{c:Nat}{r:Bytes}(h:f c=true):parted f (c::r)=[]::parted f r:=by obtain⟨l,m,e⟩:=pK f r;show(match parted f r with |l::m=>if f c=true then []::l::m else (c::l)::m |[]=>[[c]])=_;rw[e];exact ah h
theorem Dr{f:Nat->Bool}{c:Nat}{r l:Bytes}{m:ζ}(h:f c=false)(e:parted f r=l::m):parted f (c::r)=(c::l)::m:=by show(match parted f r with |l::m=>if f c=true then []::l::m else (c::l)::m |[]=>[[c]])=_;rw[e];exact af (by rw[h];decide)
def vJ(wd:Bytes):List Bytes->List Bytes
 |p::m=>(wd++p)::m
 |[]=>[wd]
def ne(w:Bytes):Bool:=w !=[]
def mi(ws:ζ)(wd:Bytes)(t:Bytes):List (List Bytes):=match parted (λ(c:Nat)=>c==10) t with
 |l::m=>(ws++(vJ wd (parted d9 l)).filter ne)::m.map words
 |[]=>[]
theorem abx(l:Bytes):words l=(parted d9 l).filter ne:=rfl
theorem MD(l:Bytes):vJ [] (parted d9 l)=parted d9 l:=by obtain⟨p,m,e⟩:=pK d9 l;rw[e];rfl
theorem Fo(ws:ζ)(wd:Bytes)(r:ζ):ws++(wd::r).filter ne=gA ws wd++r.filter ne:=by
 unfold gA ne;by_cases h:wd=[]
 ·subst h;simp
 ·have e:(wd !=[])=true:=by simpa using h
  rw[af h,qK,e];simp
theorem ME(t:Bytes):mi [] [] t=(parted (λ(c:Nat)=>c==10) t).map words:=by obtain⟨l,m,e⟩:=pK (λ(c:Nat)=>c==10) t;unfold mi;rw[e];show([]++(vJ [] (parted d9 l)).filter ne)::m.map words=words l::m.map words;rw[MD,FD,abx]
theorem MF:∀(t:Bytes)(s:nE),((t++[10]).foldl d6 s).ls=s.ls++mi s.ws s.wd t
 |[],s=>by show s.ls++[gA s.ws s.wd]=s.ls++[s.ws++[s.wd++[]].filter ne];rw[ie,Fo];simp
 |c::r,s=>by
  rw[Rc,qA,MF r];by_cases h10:c=10
  ·have e1:d6 s c=⟨s.ls++[gA s.ws s.wd],[],[]⟩:=by
    unfold d6;rw[af (λz=>z.1 h10),ah h10]
   have e2:mi s.ws s.wd (c::r)=gA s.ws s.wd::(parted (λ(c:Nat)=>c==10) r).map words:=by unfold mi;rw[Dq (by simpa using h10)];show(s.ws++[s.wd++[]].filter ne)::_=_;rw[ie,Fo];simp
   rw[e1,e2,ME];simp
  ·obtain⟨l,m,e⟩:=pK (λ(c:Nat)=>c==10) r;have e0:=Dr (c:=c) (by simpa using h10) e;have er:∀ws wd,mi ws wd r=(ws++(vJ wd (parted d9 l)).filter ne)::m.map words:=λws wd=>by
    unfold mi;rw[e]
   have ec:mi s.ws s.wd (c::r)=(s.ws++(vJ s.wd (parted d9 (c::l))).filter ne)::m.map words:=by unfold mi;rw[e0]
   rw[ec,er];by_cases hb:d9 c=true
   ·have e1:d6 s c=⟨s.ls,gA s.ws s.wd,[]⟩:=by
     unfold d6;rw[af (λz=>by rw[hb]at z;exact absurd z.2 (by decide)),af h10]
    rw[e1,Dq hb,MD];show s.ls++(gA s.ws s.wd++_)::_=s.ls++(s.ws++((s.wd++[])::parted d9 l).filter ne)::_;rw[ie,Fo]
   ·have hb:d9 c=false:=by simpa using hb
    have e1:d6 s c=⟨s.ls,s.ws,s.wd++[c]⟩:=by unfold d6;rw[ah ⟨h10,hb⟩]
    obtain⟨p,q,e2⟩:=pK d9 l;rw[e1,Dr hb e2,e2];show _++(_++((s.wd++[c]++p)::q).filter ne)::_=_++(_++((s.wd++c::p)::q).filter ne)::_;rw[mJ];rfl
theorem W1(t:Bytes):((t++[10]).foldl d6 ⟨[],[],[]⟩).ls=(parted (λ(c:Nat)=>c==10) t).map words:=by rw[MF,ME];rfl
theorem W2{t:Bytes}{l:ζ}{w:Bytes}(h:l∈(parted (λ(c:Nat)=>c==10) t).map words)(hw:w∈l):w≠[]:=by obtain⟨x,_,rfl⟩:=d_.mp h;have:=(fk.mp hw).2;simpa using this
end My
namespace My
open PySem L2
def b9(H:Hp)(q:Addr)(ws:ξ):Prop:=∃rs:List Addr,H q=some (.lst (rs.map V.ref))/\i7 H rs ws
theorem MG{H H':Hp}{rs:θ}{ws:ξ}(h:i7 H rs ws)(k:∀b xs,H b=some (.tup xs)->H' b=some (.tup xs)):i7 H' rs ws:=Paired.cR h λa b e=>k _ _ e
theorem b9.mono{H H':Hp}{q:Addr}{ws:ξ}(h:b9 H q ws)(k:∀b xs,H b=some (.tup xs)->H' b=some (.tup xs))(kq:∀xs,H q=some (.lst xs)->H' q=some (.lst xs)):b9 H' q ws:=let ⟨rs,h1,h2⟩:=h;⟨rs,kq _ h1,MG h2 k⟩
def Own(H:Hp)(x:Addr):Prop:=H x=none\/∃xs,H x=some (.lst xs)
theorem Own.tup{H:Hp}{x b:Addr}{xs:ε}{o:HO}(h:Own H x)(e:H b=some (.tup xs)):upd H x o b=some (.tup xs):=by
 rw[ay]
 ·exact e
 ·rintro rfl
  rcases h with h |⟨_,h⟩
  ·rw[h]at e;cases e
  ·rw[h]at e;cases e
theorem b9.upd{H:Hp}{q x:Addr}{ws:ξ}{o:HO}(h:b9 H q ws)(hx:Own H x)(n:q≠x):b9 (upd H x o) q ws:=h.mono (λb xs e=>hx.tup e) λxs e=>by rw[ay n];exact e
theorem W3{w:ψ}{i:Nat}{x:V}(h:(iw w)[i]? =some x):∃c:Nat,w[i]? =some c/\x=.int (c:Int):=by unfold iw at h;rw[bC]at h;obtain⟨c,hc,rfl⟩:=cF.mp h;exact⟨c,hc,rfl⟩
structure jV(H0 H:Hp)(p l wa wo:Addr)(ps:θ)(st:nE):Prop where
 same:ae H0 H
 fp:H0 p=none
 fl:H0 l=none
 fa:H0 wa=none
 fo:H0 wo=none
 lst:H l=some (.lst (ps.map V.ref))
 pL:Paired (λq ws=>b9 H q ws) ps st.ls
 yn:b9 H wa st.ws
 pM:H wo=some (.lst (iw st.wd))
 pl:p≠l
 pa:p≠wa
 po:p≠wo
 la:l≠wa
 lo:l≠wo
 ao:wa≠wo
 nl:∀q∈ps,q≠l/\q≠wa/\q≠wo
 fq:∀q∈ps,H0 q=none
theorem Paired.mapM{α β:Type}{F G:α->β->Prop}:∀{l₁:List α}{l₂:List β},Paired F l₁ l₂->(∀a b,a∈l₁->F a b->G a b)->Paired G l₁ l₂
 |_,_,.nil,_=>.nil
 |_,_,.cons r t,f=>.cons (f _ _ (by simp) r) (Paired.mapM t λa b m=>f a b (by simp[m]))
theorem yo{α β:Type}{F:α->β->Prop}{a:α}:∀{l₁:List α}{l₂:List β},Paired F l₁ l₂->a∈l₁->∃b,F a b
 |_,_,.cons (a:=x) (b:=y) r t,h=>by
  rcases aX.mp h with e |e
  ·subst e;exact⟨_,r⟩
  ·exact yo t e
theorem MH(w:ψ)(c:Nat):iw (w++[c])=iw w++[.int (c:Int)]:=by unfold iw;rw[dA];rfl
theorem jV.app{H0 H:Hp}{p l wa wo:Addr}{ps:θ}{st:nE}{c:Nat}(L:jV H0 H p l wa wo ps st):jV H0 (upd H wo (.lst (iw st.wd++[.int (c:Int)]))) p l wa wo ps ⟨st.ls,st.ws,st.wd++[c]⟩:=by have own:Own H wo:=.inr ⟨_,L.pM⟩;exact⟨L.same.upd L.fo,L.fp,L.fl,L.fa,L.fo,by rw[ay L.lo];exact L.lst,Paired.mapM L.pL λq ws hq h=>h.upd own (L.nl q hq).2.2,L.yn.upd own L.ao,by rw[au,MH],L.pl,L.pa,L.po,L.la,L.lo,L.ao,L.nl,L.fq⟩
theorem jV.word{H0 H:Hp}{p l wa wo g7 q:Addr}{ps rs:θ}{st:nE}{xs:ε}(L:jV H0 H p l wa wo ps st)(hP:H p=some (.lst xs))(hwa:H wa=some (.lst (rs.map V.ref)))(hw:i7 H rs st.ws)(hq:H q=none) (ho:(upd (upd H q (.tup (iw st.wd))) wa (.lst (rs.map V.ref++[.ref q]))) g7=none):jV H0 (upd (upd (upd H q (.tup (iw st.wd))) wa (.lst (rs.map V.ref++[.ref q]))) g7 (.lst [])) p l wa g7 ps ⟨st.ls,st.ws++[st.wd],[]⟩/\ (upd (upd (upd H q (.tup (iw st.wd))) wa (.lst (rs.map V.ref++[.ref q]))) g7 (.lst [])) p=some (.lst xs):=by
 have k2:∀b o,H b=some o->b≠wa->(upd (upd H q (.tup (iw st.wd))) wa (.lst (rs.map V.ref++[.ref q]))) b=some o:=λb o e n=>by rw[ay n,ay (aH e hq)];exact e
 have k3:∀b o,H b=some o->b≠wa->(upd (upd (upd H q (.tup (iw st.wd))) wa (.lst (rs.map V.ref++[.ref q]))) g7 (.lst [])) b=some o:=λb o e n=>by rw[ay (aH (k2 b o e n) ho)];exact k2 b o e n
 have nt:∀b ys,H b=some (.tup ys)->b≠wa:=λb ys e=>bg e hwa
 have qa:q≠wa:=(aH hwa hq).symm;have ao:wa≠g7:=aH au ho;have s2:ae H0 (upd (upd H q (.tup (iw st.wd))) wa (.lst (rs.map V.ref++[.ref q]))):=λb o e=>k2 b o (L.same b o e) (aH e L.fa)
 have qo:q≠g7:=aH (o:=.tup (iw st.wd)) (by rw[ay qa];exact au) ho;refine⟨⟨λb o e=>k3 b o (L.same b o e) (aH e L.fa),L.fp,L.fl,L.fa,s2.free ho,k3 _ _ L.lst L.la,Paired.mapM L.pL λr ws hr h=>h.mono (λb ys e=>k3 b _ e (nt b ys e)) λys e=>k3 r _ e (L.nl r hr).2.1,?_,au,L.pl,L.pa,aH (k2 _ _ hP L.pa) ho,L.la,aH (k2 _ _ L.lst L.la) ho,ao,λr hr=>?_,L.fq⟩,k3 _ _ hP L.pa⟩
 ·refine⟨rs++[q],?_,Paired.app (MG hw λb ys e=>k3 b _ e (nt b ys e)) (.cons ?_ .nil)⟩
  ·rw[ay ao,au,dA];rfl
  ·rw[ay qo,ay qa];exact au
 ·obtain⟨ws,zs,h1,_⟩:=yo L.pL hr;exact⟨(L.nl r hr).1,(L.nl r hr).2.1,aH (k2 _ _ h1 (L.nl r hr).2.1) ho⟩
theorem jV.line{H0 H:Hp}{p l wa wo nF:Addr}{ps:θ}{ls:List (List (List Nat))}{ws:ξ}{xs:ε}(L:jV H0 H p l wa wo ps ⟨ls,ws,[]⟩)(hP:H p=some (.lst xs)) (ho:(upd H l (.lst (ps.map V.ref++[.ref wa]))) nF=none):jV H0 (upd (upd H l (.lst (ps.map V.ref++[.ref wa]))) nF (.lst [])) p l nF wo (ps++[wa]) ⟨ls++[ws],[],[]⟩/\(upd (upd H l (.lst (ps.map V.ref++[.ref wa]))) nF (.lst [])) p=some (.lst xs):=by
 have k2:∀b o,H b=some o->b≠l->(upd H l (.lst (ps.map V.ref++[.ref wa]))) b=some o:=λb o e n=>by rw[ay n];exact e
 have k3:∀b o,H b=some o->b≠l->(upd (upd H l (.lst (ps.map V.ref++[.ref wa]))) nF (.lst [])) b=some o:=λb o e n=>by rw[ay (aH (k2 b o e n) ho)];exact k2 b o e n
 have nt:∀b ys,H b=some (.tup ys)->b≠l:=λb ys e=>bg e L.lst
 have la:l≠nF:=aH au ho;have s2:ae H0 (upd H l (.lst (ps.map V.ref++[.ref wa]))):=L.same.upd L.fl;obtain⟨rs,hwa,hw⟩:=id L.yn;refine⟨⟨λb o e=>k3 b o (L.same b o e) (aH e L.fl),L.fp,L.fl,s2.free ho,L.fo,?_,Paired.app (Paired.mapM L.pL λr ws hr h=>h.mono (λb ys e=>k3 b _ e (nt b ys e)) λys e=>k3 r _ e (L.nl r hr).1) (.cons (L.yn.mono (λb ys e=>k3 b _ e (nt b ys e)) λys e=>k3 _ _ e L.la.symm) .nil),⟨[],au,.nil⟩,k3 _ _ L.pM L.lo.symm,
  L.pl,aH (k2 _ _ hP L.pl) ho,L.po,la,L.lo,(aH (k2 _ _ L.pM L.lo.symm) ho).symm,λr hr=>?_,λr hr=>?_⟩,k3 _ _ hP L.pl⟩
 ·rw[ay la,au,dA];rfl
 ·rcases bL.mp hr with hr |hr
  ·obtain⟨ws,zs,h1,_⟩:=yo L.pL hr;exact⟨(L.nl r hr).1,aH (k2 _ _ h1 (L.nl r hr).1) ho,(L.nl r hr).2.2⟩
  ·have e:r=wa:=by simpa using hr
   subst e;exact⟨L.la.symm,aH (k2 _ _ hwa L.la.symm) ho,L.ao⟩
 ·rcases bL.mp hr with hr |hr
  ·exact L.fq r hr
  ·have e:r=wa:=by simpa using hr
   rw[e];exact L.fa
theorem W4(c:Nat):inV (V.int (c:Int)) [.int 32,.int 9,.int 13]=d9 c:=by unfold inV d9;simp only[sI,List.any_nil,lX,Bool.or_false];rw[gj];simp;omega
theorem W5{st:nE}{i c:Nat}(h:st.ls.length<=i/\st.ws.length<=i/\st.wd.length<=i):(d6 st c).ls.length<=i+1/\(d6 st c).ws.length<=i+1/\(d6 st c).wd.length<=i+1:=by
 have e:(gA st.ws st.wd).length<=i+1:=by
  unfold gA;split
  ·omega
  ·rw[a8,cE];omega
 unfold d6;split
 ·simp only[a8,cE];omega
 ·split
  ·simp only[a8,cE,qE];omega
  ·simp only[qE];omega
inductive MI(K:ax)(vs:ε)(H:Hp)(Q:VK)(e0:XK):Prop
 |mk (a:Addr) (t:ψ):vs=[.ref a]->(kC K H a (t.map λ(c:Nat)=>(c:Int)))->(∀l ps H',ae H H'->H l=none->(∀q∈ps,H q=none)->H' l=some (.lst (ps.map V.ref))->Paired (λq ws=>b9 H' q ws) ps ((Sz43.parted (λ(c:Nat)=>c==10) t).map Sz43.words)->Q (.ref l) H')->MI K vs H Q e0
variable{P:Program}{w:World}{K:ax}{mg:τ}{base:Heap}{t:Ad}
theorem W6(T:Txt K mg t):aE P w K mg base aM 1 t.Bt t.JY ["text"] (MI K):=by
 refine T.CD.ko ["text","lines","words","word","sign"] λH Q hr h nd=>?_
 obtain⟨a,tx,rfl,hT,k⟩:=h;refine⟨_,ak (aS 1 nd (bV ag)) (ak (aS 2 nd (bV ag)) (ak (aS 3 nd (bV ag)) (ak (gP gn rfl (gO (bG U8 (pv 0) (bV (aa (cJ T.uh rfl) ag)))) (bD 4 nd) (ak (aP (PW.pt (jw (aQ qU (pv 4) (cJ T.uh rfl)) (jP (aQ Hk (pv 4) (iU (v:=.ref t.ua) rfl T.LR rfl) (by with_unfolding_all rfl))))) (ak (eA (gq fv jL jM i6 (pv 3) (aa (pv 4) ag))) (aq z8)) aR) (ak (aP (aQ qV (b8 c_ rfl T.cS c8 (aa (pv 3) ag)) aF) (ak (eA (gq fv jL jM i6 (pv 2) (aa (lW As rfl T.yi rfl (aa (pv 3) ag)) ag))) (aq (aS 3 nd (bV ag)))) aR) (aq (aP (aQ bB (pv 4) (cJ T.uh rfl)) (ak (eA (gq fv jL jM i6 (pv 1) (aa (pv 2) ag))) (aq (aS 2 nd (bV ag)))) aR))))) (aq (aC (pv 1)))))),?_⟩
 dsimp only[bI,Cx.bZ];refine⟨bS _,λl hl=>⟨bS _,λwa ha=>⟨bS _,λwo ho=>?_⟩⟩⟩;have s1:=ae.new (o:=.lst []) hl;have s2:=ae.new (o:=.lst []) ha;have s3:=ae.new (o:=.lst []) ho;refine⟨_,rfl,z1,λb hb=>?_⟩;have s4:=ae.new (o:=.lst [.int 10]) hb;have s14:=((s1.trans s2).trans s3).trans s4;refine⟨a,b,_,_,rfl,rfl,kC.same s14 hT,au,(by show 1<=10;decide),λp hp=>?_⟩;have eT:(tx.map λ(c:Nat)=>(c:Int)).map V.int++[V.int 10]=iw (tx++[10]):=by unfold iw;rw[dA,fu];rfl
 rw[eT];have tl:(tx++[10]).length<=100001:=by have:=hT.1;rw[aI]at this;rw[a8,cE];omega
 have s5:=ae.new (o:=.lst (iw (tx++[10]))) hp;have n1:l≠wa:=aH au ha;have n2:wa≠wo:=aH au ho;have n3:l≠wo:=aH (s2 _ _ au) ho;have f1:H wa=none:=s1.free ha;have f2:H wo=none:=(s1.trans s2).free ho;have f3:H p=none:=s14.free hp;have n4:l≠p:=aH (s4 _ _ (s3 _ _ (s2 _ _ au))) hp;have n5:wa≠p:=aH (s4 _ _ (s3 _ _ au)) hp;have n6:wo≠p:=aH (s4 _ _ au) hp;refine⟨p,rfl,⟨_,aj.of au⟩,lU (K:=K) (a:=p) (xs:=iw (tx++[10])) (λi σ Hh=>∃(wa wo:Addr)(v:Option V)(ps:θ)(st:nE),st=((tx++[10]).take i).foldl d6 ⟨[],[],[]⟩/\σ=[χ a,χ l,χ wa,χ wo,v]/\
  jV H Hh p l wa wo ps st/\(st.ls.length<=i/\st.ws.length<=i/\st.wd.length<=i)/\Hh p=some (.lst (iw (tx++[10])))) ?_ (λi σ Hh _ ⟨_,_,_,_,_,_,_,_,_,e⟩=>aj.of e) ?_ ?_⟩
 ·refine⟨wa,wo,none,[],⟨[],[],[]⟩,rfl,rfl,⟨s14.trans s5,f3,hl,f1,f2,s5 _ _ (s4 _ _ (s3 _ _ (s2 _ _ au))),.nil,⟨[],s5 _ _ (s4 _ _ (s3 _ _ au)),.nil⟩,s5 _ _ (s4 _ _ au),n4.symm,n5.symm,n6.symm,n1,n3,n2,λq hq=>absurd hq (by simp),λq hq=>absurd hq (by simp)⟩,⟨aJ _,aJ _,aJ _⟩,au⟩
 ·rintro i x σ Hh hx ⟨wa,wo,v,ps,st,rK,rfl,L,ln,hP⟩
  obtain⟨c,hc,rfl⟩:=W3 hx;have il:i<100001:=by have:=(bN.mp hc).1;omega
  have rL:d6 st c=((tx++[10]).take (i+1)).foldl d6 ⟨[],[],[]⟩:=by rw[iO,hc,zK,<-rK];rfl
  have ln':=W5 (c:=c) ln;unfold cW;refine d5 (xo ?_);have tst:∀Qb:Bool->Hp->Prop,Qb (decide (c≠10/\d9 c=false)) Hh->zY (oF (gQ Gv (dX 4) (tC (.int 10)))) (oF (gQ (tE K true) (dX 4) (tC (.ref t.ua)))) [χ a,χ l,χ wa,χ wo,υ c] Hh Qb:=by
   intro Qb hq;refine⟨_,rfl,rfl,_,rfl,?_⟩;by_cases h10:c=10
   ·have e:(!decide (V.int (c:Int)=V.int 10))=false:=by simp[h10]
    have e2:decide (c≠10/\d9 c=false)=false:=by simp[h10]
    rw[e2]at hq;rw[e];exact az hq
   ·have e:(!decide (V.int (c:Int)=V.int 10))=true:=by
     simp;omega
    rw[e];refine aD ⟨_,rfl,t.ua,_,rfl,.inr (T.Me Hh),rfl,rfl,_,rfl,?_⟩;have e2:decide (c≠10/\d9 c=false)= !d9 c:=by cases d9 c<;>simp[h10]
    rw[e2]at hq;rw[W4];exact hq
  refine tst _ ?_;by_cases hcb:c≠10/\d9 c=false
  ·rw[bj hcb];refine aD ⟨_,rfl,.inl ⟨rfl,_,aj.of L.pM⟩,_,rfl,wo,_,_,rfl,rfl,L.pM,(by rw[bJ,aZ];omega),?_⟩;have e:d6 st c=⟨st.ls,st.ws,st.wd++[c]⟩:=by
    unfold d6;rw[ah hcb]
   rw[e]at rL ln';exact⟨wa,wo,_,ps,_,rL,rfl,L.app,ln',by rw[ay L.po];exact hP⟩
  ·rw[aW hcb];refine az ?_;dsimp only[wz];refine d5 (xo ?_);refine⟨_,rfl,wo,_,rfl,.inl (aj.of L.pM),_,_,rfl,rfl,_,rfl,?_⟩;refine II (λσ' Hx=>∃g7,σ'=[χ a,χ l,χ wa,χ g7,υ c]/\jV H Hx p l wa g7 ps ⟨st.ls,gA st.ws st.wd,[]⟩/\Hx p=some (.lst (iw (tx++[10])))) (λc1 kk=>?_) (λc1 kk=>?_) ?_
   ·obtain⟨rs,hwa,hw⟩:=id L.yn;have lw:rs.length=st.ws.length:=bt hw;have ne:st.wd≠[]:=by
     rintro e
     rw[e]at c1;cases c1
    refine⟨_,rfl,.inl ⟨rfl,_,aj.of hwa⟩,_,rfl,wo,_,rfl,.inl ⟨aj.of L.pM,λq hq=>?_⟩⟩;refine⟨wa,_,_,rfl,rfl,(by rw[ay (aH hwa hq)];exact hwa),(by rw[aI,aZ];omega),⟨bS _,λg7 ho'=>?_⟩⟩;have z:=L.word hP hwa hw hq ho';refine kk _ _ ⟨g7,rfl,?_,z.2⟩;unfold gA;rw[af ne];exact z.1
   ·have e:st.wd=[]:=by
     cases q:st.wd with
     |nil=>rfl
     |cons x y=>rw[q]at c1;have:=ki c1;rw[bJ,bT]at this;omega
    refine kk _ _ ⟨wo,rfl,?_,hP⟩;unfold gA;rw[ah e,<-e];exact L
   ·rintro σ' Hx ⟨g7,rfl,L',hP'⟩
    dsimp only;refine xo ?_;refine⟨_,rfl,rfl,_,rfl,?_⟩;by_cases h10:c=10
    ·have e:decide (V.int (c:Int)=V.int 10)=true:=by simp[h10]
     rw[e];refine aD ?_;have lp:ps.length=st.ls.length:=bt L.pL;refine⟨_,rfl,.inl ⟨rfl,_,aj.of L'.lst⟩,_,rfl,l,_,_,rfl,rfl,L'.lst,(by rw[aI,aZ];omega),⟨bS _,λnF ha'=>?_⟩⟩;have e:d6 st c=⟨st.ls++[gA st.ws st.wd],[],[]⟩:=by unfold d6;rw[af hcb,ah h10]
     rw[e]at rL ln';have z:=L'.line hP' ha';exact⟨nF,g7,_,_,_,rL,rfl,z.1,ln',z.2⟩
    ·have e:decide (V.int (c:Int)=V.int 10)=false:=by
      simp;omega
     rw[e];refine az ?_;have e:d6 st c=⟨st.ls,gA st.ws st.wd,[]⟩:=by unfold d6;rw[af hcb,af h10]
     rw[e]at rL ln';exact⟨wa,g7,_,_,_,rL,rfl,L',ln',hP'⟩
 ·rintro σ Hh ⟨wa,wo,v,ps,st,rK,rfl,L,ln,hP⟩
  rw[bJ,kh,]at rK;have e:=W1 tx;rw[<-rK]at e;refine⟨_,rfl,k l ps Hh L.same L.fl L.fq L.lst ?_⟩;rw[<-e];exact L.pL
end My
namespace My
open Sz43
def aO(l:ζ)(n:Bytes):List Bytes:=if l.contains n=true then l else l++[n]
def bF(vars:ζ)(w:Bytes):Option (Nat×List Bytes):=if isName w=false then none else match vars.findIdx? (λx=>x==w)with
  |some i=>some (i,vars)
  |none=>if vars.length=64 then none else some (vars.length,vars++[w])
noncomputable def ja(vars:ζ)(ws:ζ):Option (Ins×List Bytes):=(bF vars (ws.getD 0 [])).bind λd=>
  if ws.length=5/\(ops.findIdx? λx=>x==ws.getD 3 []).isSome=true then
   (bF d.2 (ws.getD 2 [])).bind λa=>(bF a.2 (ws.getD 4 [])).bind λb=>some (.op ((ops.findIdx? λx=>x==ws.getD 3 []).getD 0) d.1 a.1 b.1,b.2)
  else if ws.length≠3 then none
  else if ws.getD 2 []=ascii "read" then some (.read d.1,d.2)
  else match numberOf (ws.getD 2 [])with
   |some z=>some (.num d.1 z,d.2)
   |none=>(bF d.2 (ws.getD 2 [])).bind λa=>some (.copy d.1 a.1,a.2)
noncomputable def jb(vars:ζ)(ws:ζ):Option (Ins×List Bytes×Option Bytes):=if 3<=ws.length/\ws.getD 1 []=ascii "=" then (ja vars ws).bind λx=>some (x.1,x.2,none) else if ws.length=2/\ws.getD 0 []=ascii "print" then (bF vars (ws.getD 1 [])).bind λa=>some (.print a.1,a.2,none) else if ws.length=2/\ws.getD 0 []=ascii "goto" then (if isName (ws.getD 1 [])=false then none else some (.goto 0,vars,some (ws.getD 1 []))) else if ws.length=4/\ws.getD 0 []=ascii "if" /\ws.getD 2 []=ascii "goto" then (bF vars (ws.getD 1 [])).bind λa=>(if isName (ws.getD 3 [])=false then none else some (.cond a.1 0,a.2,some (ws.getD 3 []))) else if ws.length=1/\ws.getD 0 []=ascii "end" then some (.stop,vars,none) else none
theorem uz(l:ζ)(w:Bytes):w∈aO l w:=by
 unfold aO;split
 ·rename_i h
  exact zM.mp h
 ·simp
theorem W7(l:ζ)(w:Bytes):∃m,aO l w=l++m:=by
 unfold aO;split
 ·exact⟨[],by simp⟩
 ·exact⟨[w],rfl⟩
theorem yp(ns:ζ):∀l:List Bytes,∃m,ns.foldl aO l=l++m:=by
 induction ns with
 |nil=>exact λl=>⟨[],by simp⟩
 |cons n r ih=>intro l;obtain⟨m,e⟩:=W7 l n;obtain⟨m2,e2⟩:=ih (aO l n);exact⟨m++m2,by rw[qA,e2,e,mJ]⟩
theorem kM{v m:ζ}{w:Bytes}(h:w∈v):seek (v++m) w=seek v w:=by
 unfold seek;rw[Ro];have:(v.findIdx? λx=>x==w).isSome=true:=by rw[zN,mO];exact⟨w,h,by simp⟩
 obtain⟨i,e⟩:=sG.mp this;rw[e];rfl
theorem yq{l:ζ}{ns:ζ}{w:Bytes}(h:w∈l):w∈ns.foldl aO l:=by obtain⟨m,e⟩:=yp ns l;rw[e];exact fm _ h
theorem W8{l:ζ}{ns:ζ}{w:Bytes}(h:w∈l):seek (ns.foldl aO l) w=seek l w:=by obtain⟨m,e⟩:=yp ns l;rw[e];exact kM h
theorem W9(l:ζ)(ns:ζ):l.length<=(ns.foldl aO l).length:=by obtain⟨m,e⟩:=yp ns l;rw[e,a8];omega
theorem Ds{vars:ζ}(hv:vars.length<=64)(w:Bytes):bF vars w=if isName w=true/\(aO vars w).length<=64 then some (seek (aO vars w) w,aO vars w)else none:=by
 unfold bF;cases hn:isName w with
 |false=>rw[ah rfl,af (λz=>by cases z.1)]
 |true=>
  rw[af (by decide)];cases hf:vars.findIdx? (λx=>x==w)with
  |some i=>
   have hc:vars.contains w=true:=by
    have:(vars.findIdx? λx=>x==w).isSome=true:=by rw[hf];rfl
    rw[zN,mO]at this;obtain⟨x,hx,e⟩:=this;have e:x=w:=by simpa using e
    rw[<-e];exact zM.mpr hx
   have ea:aO vars w=vars:=ah hc;rw[ea];show some (i,vars)=_;rw[ah ⟨rfl,hv⟩];unfold seek;rw[hf];rfl
  |none=>
   have hc:¬vars.contains w=true:=λz=>by
    have:(vars.findIdx? λx=>x==w).isSome=true:=by rw[zN,mO];exact⟨w,zM.mp z,by simp⟩
    rw[hf]at this;cases this
   have ea:aO vars w=vars++[w]:=af hc;rw[ea,a8,cE];by_cases h:vars.length=64
   ·show(if vars.length=64 then none else _)=_;rw[ah h,af (by omega)]
   ·show(if vars.length=64 then none else _)=_;rw[af h,ah ⟨rfl,by omega⟩];unfold seek;rw[Ro,hf];simp
theorem yr{l:ζ}{w x:Bytes}(h:w∈l):seek (aO l x) w=seek l w:=W8 (ns:=[x]) h
theorem W_{l:ζ}{w x:Bytes}(h:w∈l):w∈aO l x:=yq (ns:=[x]) h
theorem Xa(l:ζ)(x:Bytes):l.length<=(aO l x).length:=W9 l [x]
theorem uA{α β:Type}(x:Option α):(x.bind λ_=>(none:Option β))=none:=by cases x<;>rfl
def dS:Line->Option Bytes
 | .goto n=>some n
 | .cond _ n=>some n
 |_=>none
def pN(vars:ζ)(ws:ζ):Option (Ins×List Bytes×Option Bytes):=match lineOf ws with
 |none=>none
 |some x=>if 64<((varsOf x).foldl aO vars).length then none else some (insOf ⟨[],[],(varsOf x).foldl aO vars⟩ x,(varsOf x).foldl aO vars,dS x)
theorem Xb:ascii "print" ≠ascii "goto" /\ascii "label" ≠ascii "goto" /\ascii "label" ≠ascii "print":=by decide+kernel
theorem fU{vars ws:ζ}(h:lineOf ws=none):pN vars ws=none:=by unfold pN;rw[h]
theorem kO{vars ws:ζ}{x:Line}(h:lineOf ws=some x):pN vars ws=if 64<((varsOf x).foldl aO vars).length then none else some (insOf ⟨[],[],(varsOf x).foldl aO vars⟩ x,(varsOf x).foldl aO vars,dS x):=by unfold pN;rw[h]
theorem pO{vars:ζ}{w:Bytes}(h:isName w=false):bF vars w=none:=ah h
theorem pP{vars:ζ}{w:Bytes}(hv:vars.length<=64)(h:isName w=true)(l:¬64<(aO vars w).length):bF vars w=some (seek (aO vars w) w,aO vars w):=(Ds hv w).trans (ah ⟨h,FZ l⟩)
theorem pQ{vars:ζ}{w:Bytes}(hv:vars.length<=64)(l:64<(aO vars w).length):bF vars w=none:=(Ds hv w).trans (af λq=>Nat.not_le_of_lt l q.2)
theorem yt{vars:ζ}{w:Bytes}(l:64<vars.length):64<(aO vars w).length:=e7 l (Xa _ _)
theorem Xc{vars:ζ}(hv:vars.length<=64)(ws:ζ)(h:¬(ws.length=2/\ws.getD 0 []=ascii "label")):jb vars ws=pN vars ws:=by
 have hv':¬64<vars.length:=Nat.not_lt_of_le hv
 match ws,h with
 |[],_=>rfl
 |[a],_=>
  by_cases h:a=ascii "end"
  ·subst h;exact(af hv':(if 64<vars.length then none else some (Ins.stop,vars,(none:Option Bytes)))=_).symm
  ·have eI:jb vars [a]=if 1=1/\a=ascii "end" then some (.stop,vars,none)else none:=rfl
   rw[eI,af (λq=>h q.2),fU (ws:=[a]) (af h)]
 |[a,b],h=>
  have hl:¬a=ascii "label":=λz=>h ⟨rfl,z⟩
  have eI:jb vars [a,b]=if 2=2/\a=ascii "print" then (bF vars b).bind λy=>some (.print y.1,y.2,none)else if 2=2/\a=ascii "goto" then (if isName b=false then none else some (.goto 0,vars,some b))else none:=rfl
  have eL:lineOf [a,b]=if isName b=false then none else if a=ascii "label" then some (.label b)else if a=ascii "goto" then some (.goto b)else if a=ascii "print" then some (.print b)else none:=rfl
  rw[af hl]at eL;rw[eI];obtain⟨k1,k2,k3⟩:=Xb;cases hn:isName b with
  |false=>rw[ah hn]at eL;rw[fU eL,pO hn,jK,ah rfl,ite_self,ite_self]
  |true=>
   rw[af (by rw[hn];decide)]at eL;by_cases hp:a=ascii "print"
   ·rw[af (λq=>k1 (hp.symm.trans q)),ah hp]at eL;rw[ah ⟨rfl,hp⟩,kO eL];by_cases l1:64<(aO vars b).length
    ·rw[pQ hv l1];exact(ah l1).symm
    ·rw[pP hv hn l1];exact(af l1).symm
   ·rw[af (λq=>hp q.2)];by_cases hg:a=ascii "goto"
    ·rw[ah hg]at eL;rw[ah ⟨rfl,hg⟩,af (by decide),kO eL];exact(af hv').symm
    ·rw[af hg,af hp]at eL;rw[af (λq=>hg q.2),fU eL]
 |[d,e,a],_=>
  have eI:jb vars [d,e,a]=if 3<=3/\e=ascii "=" then (ja vars [d,e,a]).bind λx=>some (x.1,x.2,none)else none:=rfl
  rw[eI];by_cases he:e=ascii "="
  ·rw[ah ⟨aJ 3,he⟩];subst he;have eG:ja vars [d,ascii "=",a]=(bF vars d).bind λy=>if a=ascii "read" then some (.read y.1,y.2)else match numberOf a with
    |some z=>some (.num y.1 z,y.2)
    |none=>(bF y.2 a).bind λb=>some (.copy y.1 b.1,b.2):=rfl
   rw[eG];cases hd:isName d with
   |false=>rw[pO hd,fU (ws:=[d,ascii "=",a]) (ah (.inl hd))];rfl
   |true=>
    have eL:lineOf [d,ascii "=",a]=if a=ascii "read" then some (.read d)else match numberOf a with
     |some z=>some (.num d z)
     |none=>if isName a=true then some (.copy d a)else none:=af (by rw[hd];decide)
    by_cases l1:64<(aO vars d).length
    ·rw[pQ hv l1];show none=_;by_cases hr:a=ascii "read"
     ·rw[ah hr]at eL;rw[kO eL];exact(ah l1).symm
     ·rw[af hr]at eL;cases hz:numberOf a with
      |some z=>rw[hz]at eL;rw[kO eL];exact(ah l1).symm
      |none=>
       rw[hz]at eL;by_cases ha:isName a=true
       ·rw[kO (eL.trans (ah ha))];exact(ah (yt l1)).symm
       ·rw[fU (eL.trans (af ha))]
    ·rw[pP hv hd l1];have hv1:=FZ l1;by_cases hr:a=ascii "read"
     ·rw[ah hr]at eL;rw[kO eL,e9,ah hr];exact(af l1).symm
     ·rw[af hr]at eL;rw[e9,af hr];cases hz:numberOf a with
      |some z=>rw[hz]at eL;rw[kO eL];exact(af l1).symm
      |none=>
       rw[hz]at eL;cases ha:isName a with
       |false=>rw[fU (eL.trans (af (by rw[ha];decide)))];show((bF (aO vars d) a).bind _).bind _=none;rw[pO ha];rfl
       |true=>
        rw[kO (eL.trans (ah ha))];show((bF (aO vars d) a).bind _).bind _=_;by_cases l3:64<(aO (aO vars d) a).length
        ·rw[pQ hv1 l3];exact(ah l3).symm
        ·rw[pP hv1 ha l3];have es:seek (aO (aO vars d) a) d=seek (aO vars d) d:=yr (uz _ _);refine((af l3).trans ?_).symm;show some (Ins.copy (seek (aO (aO vars d) a) d) _,_,_)=_;rw[es];rfl
  ·rw[af (λq=>he q.2),fU (ws:=[d,e,a]) (ah (.inr he))]
 |[i,a,g,n],_=>
  have hn0:isName (ascii "=")=false:=by decide+kernel
  have eI:jb vars [i,a,g,n]=if 3<=4/\a=ascii "=" then (ja vars [i,a,g,n]).bind λx=>some (x.1,x.2,none)else if 4=4/\i=ascii "if" /\g=ascii "goto" then (bF vars a).bind λy=>(if isName n=false then none else some (.cond y.1 0,y.2,some n))else none:=rfl
  have eL:lineOf [i,a,g,n]=if i=ascii "if" /\isName a=true/\g=ascii "goto" /\isName n=true then some (.cond a n)else none:=rfl
  rw[eI];by_cases he:a=ascii "="
  ·have eG:ja vars [i,a,g,n]=(bF vars i).bind λ_=>none:=rfl
   rw[ah ⟨by decide,he⟩,eG,uA,fU (eL.trans (af λq=>by rw[he,hn0]at q;exact absurd q.2.1 (by decide)))];rfl
  ·rw[af (λq=>he q.2)];by_cases hc:i=ascii "if" /\g=ascii "goto"
   ·rw[ah ⟨rfl,hc⟩];cases ha:isName a with
    |false=>rw[pO ha,fU (eL.trans (af λq=>by rw[ha]at q;exact absurd q.2.1 (by decide)))];rfl
    |true=>
     cases hn:isName n with
     |false=>show((bF vars a).bind λ_=>none)=_;rw[uA,fU (eL.trans (af λq=>by rw[hn]at q;exact absurd q.2.2.2 (by decide)))]
     |true=>
      show((bF vars a).bind λy=>some (Ins.cond y.1 0,y.2,some n))=_;rw[kO (eL.trans (ah ⟨hc.1,ha,hc.2,hn⟩))];by_cases l1:64<(aO vars a).length
      ·rw[pQ hv l1];exact(ah l1).symm
      ·rw[pP hv ha l1];exact(af l1).symm
   ·rw[af (λq=>hc q.2),fU (eL.trans (af λq=>hc ⟨q.1,q.2.2.1⟩))]
 |[d,e,a,o,b],_=>
  have eI:jb vars [d,e,a,o,b]=if 3<=5/\e=ascii "=" then (ja vars [d,e,a,o,b]).bind λx=>some (x.1,x.2,none)else none:=rfl
  have eL:lineOf [d,e,a,o,b]=if isName d=false\/e≠ascii "=" \/isName a=false\/isName b=false then none else (ops.findIdx? λx=>x==o).map λk=>.op k d a b:=rfl
  rw[eI];by_cases he:e=ascii "="
  ·have eG:ja vars [d,e,a,o,b]=(bF vars d).bind λy=>if 5=5/\(ops.findIdx? λx=>x==o).isSome=true then (bF y.2 a).bind λp=>(bF p.2 b).bind λq=>some (.op ((ops.findIdx? λx=>x==o).getD 0) y.1 p.1 q.1,q.2)else none:=rfl
   rw[ah ⟨by decide,he⟩,eG];cases hk:ops.findIdx? (λx=>x==o)with
   |none=>have no:(if isName d=false\/e≠ascii "=" \/isName a=false\/isName b=false then none else (none:Option Nat).map λk=>Line.op k d a b)=none:=ite_self _;rw[hk]at eL;rw[fU (eL.trans no)];show((bF vars d).bind λ_=>none).bind _=none;rw[uA];rfl
   |some k=>
    rw[hk]at eL;show((bF vars d).bind λy=>(bF y.2 a).bind λp=>(bF p.2 b).bind λq=>some (Ins.op k y.1 p.1 q.1,q.2)).bind _=_;cases hd:isName d with
    |false=>rw[pO hd,fU (eL.trans (ah (.inl hd)))];rfl
    |true=>
     cases ha:isName a with
     |false=>
      rw[fU (eL.trans (ah (.inr (.inr (.inl ha)))))];have no:∀v,bF v a=none:=λv=>pO ha
      simp only[no,jK,uA]
     |true=>
      cases hb:isName b with
      |false=>
       rw[fU (eL.trans (ah (.inr (.inr (.inr hb)))))];have no:∀v,bF v b=none:=λv=>pO hb
       simp only[no,jK,uA]
      |true=>
       have eL:=eL.trans (af (by rw[hd,ha,hb];exact λq=>q.elim (by decide) λq=>q.elim (λq=>q he) (by decide)));rw[kO (x:=.op k d a b) eL];by_cases l1:64<(aO vars d).length
       ·rw[pQ hv l1];exact(ah (yt (yt l1))).symm
       ·rw[pP hv hd l1,e9];have hv1:=FZ l1;show((bF (aO vars d) a).bind _).bind _=_;by_cases l3:64<(aO (aO vars d) a).length
        ·rw[pQ hv1 l3];exact(ah (yt l3)).symm
        ·rw[pP hv1 ha l3,e9];have hv3:=FZ l3;show((bF (aO (aO vars d) a) b).bind _).bind _=_;by_cases l5:64<(aO (aO (aO vars d) a) b).length
         ·rw[pQ hv3 l5];exact(ah l5).symm
         ·rw[pP hv3 hb l5];have es:seek (aO (aO (aO vars d) a) b) d=seek (aO vars d) d:=(yr (W_ (uz _ _))).trans (yr (uz _ _));have yu:seek (aO (aO (aO vars d) a) b) a=seek (aO (aO vars d) a) a:=yr (uz _ _);refine((af l5).trans ?_).symm;show some (Ins.op k (seek (aO (aO (aO vars d) a) b) d) (seek (aO (aO (aO vars d) a) b) a) _,_,_)=_;rw[es,yu];rfl
  ·rw[af (λq=>he q.2),fU (eL.trans (ah (.inr (.inl he))))]
 |a::b::c::d::e::f::r,_=>
  have eL:lineOf (a::b::c::d::e::f::r)=none:=rfl;rw[fU eL];have eG:ja vars (a::b::c::d::e::f::r)=none:=by
   unfold ja;cases bF vars ((a::b::c::d::e::f::r).getD 0 [])with
   |none=>rfl
   |some y=>rw[e9,af (λq=>absurd q.1 (by simp)),ah (by simp)]
  unfold jb;rw[eG,af (c:=_=2/\_=ascii "print") (λq=>absurd q.1 (by simp)),af (c:=_=2/\_=ascii "goto") (λq=>absurd q.1 (by simp)),af (c:=_=4/\_) (λq=>absurd q.1 (by simp)),af (c:=_=1/\_) (λq=>absurd q.1 (by simp))];exact ite_self _
end My
namespace My
open PySem L2
def ff(kd:Str)(us gv nu op pl:V):List (Str×V):=bz "place" pl (bz "operator" op (bz "number" nu (bz "given" gv (bz "used" us (bz "kind" (.str kd) [])))))
section
variable{kd:Str}{us gv nu op pl:V}
theorem fX:(ff kd us gv nu op pl).lookup ("place" :Str)=some pl:=by unfold ff;rw[dD,ah rfl]
theorem pR:(ff kd us gv nu op pl).lookup ("operator" :Str)=some op:=by unfold ff;rw[dD,af (by decide+kernel),dD,ah rfl]
theorem Dt:(ff kd us gv nu op pl).lookup ("number" :Str)=some nu:=by unfold ff;rw[dD,af (by decide+kernel),dD,af (by decide+kernel),dD,ah rfl]
theorem cO:(ff kd us gv nu op pl).lookup ("given" :Str)=some gv:=by unfold ff;rw[dD,af (by decide+kernel),dD,af (by decide+kernel),dD,af (by decide+kernel),dD,ah rfl]
theorem eO:(ff kd us gv nu op pl).lookup ("used" :Str)=some us:=by unfold ff;rw[dD,af (by decide+kernel),dD,af (by decide+kernel),dD,af (by decide+kernel),dD,af (by decide+kernel),dD,ah rfl]
theorem bo:(ff kd us gv nu op pl).lookup ("kind" :Str)=some (.str kd):=by unfold ff;rw[dD,af (by decide+kernel),dD,af (by decide+kernel),dD,af (by decide+kernel),dD,af (by decide+kernel),dD,af (by decide+kernel),dD,ah rfl]
end
theorem MJ(f:Str)(u v:V):∀fs:List (Str×V),bz f v (bz f u fs)=bz f v fs
 |[]=>by show(if f=f then [(f,v)]else _)=[(f,v)];rw[ah rfl]
 |(g,x)::r=>by
  show bz f v (if g=f then (g,u)::r else (g,x)::bz f u r)=(if g=f then (g,v)::r else (g,x)::bz f v r);by_cases h:g=f
  ·rw[ah h,ah h];show(if g=f then (g,v)::r else _)=_;rw[ah h]
  ·rw[af h,af h];show(if g=f then _ else (g,x)::bz f v (bz f u r))=_;rw[af h,MJ f u v r]
theorem fY(f:Str)(v:V):∀fs:List (Str×V),(bz f v fs).length<=fs.length+1
 |[]=>aJ _
 |(g,x)::r=>by show(if g=f then (g,v)::r else (g,x)::bz f v r).length<=_;have:=fY f v r;split<;>simp only[bT]<;>omega
theorem Xd(kd:Str)(us gv nu op pl:V):(ff kd us gv nu op pl).length<=6:=by
 unfold ff;have h:=λf v fs=>fY f v fs
 refine bE (h _ _ _) (iP (bE (h _ _ _) (iP (bE (h _ _ _) (iP (bE (h _ _ _) (iP (bE (h _ _ _) (iP (bE (h _ _ _) ?_))))))))))
 decide
theorem Xe(kd:Str)(us gv nu op pl pl':V):bz "place" pl' (ff kd us gv nu op pl)=ff kd us gv nu op pl':=MJ _ _ _ _
def fZ(ln li va la ju:V):List (Str×V):=[("line",ln),("instructions",li),("variables",va),("labels",la),("jumps",ju)]
section
variable{ln li va la ju ln':V}
theorem kP:(fZ ln li va la ju).lookup ("line" :Str)=some ln:=rfl
theorem yw:(fZ ln li va la ju).lookup ("instructions" :Str)=some li:=rfl
theorem pS:(fZ ln li va la ju).lookup ("variables" :Str)=some va:=rfl
theorem yx:(fZ ln li va la ju).lookup ("labels" :Str)=some la:=rfl
theorem MK:(fZ ln li va la ju).lookup ("jumps" :Str)=some ju:=rfl
theorem Xf:bz "line" ln' (fZ ln li va la ju)=fZ ln' li va la ju:=rfl
theorem Xg:(fZ ln li va la ju).lookup ("take_line" :Str)=none:=rfl
theorem Xh:(fZ ln li va la ju).lookup ("take_label" :Str)=none:=rfl
theorem Xi:(fZ ln li va la ju).lookup ("take_instruction" :Str)=none:=rfl
theorem Xj:(fZ ln li va la ju).lookup ("instruction_of" :Str)=none:=rfl
theorem Xk:(fZ ln li va la ju).lookup ("giving_of" :Str)=none:=rfl
theorem rM:(fZ ln li va la ju).lookup ("variable_of" :Str)=none:=rfl
theorem ML:(fZ ln li va la ju).lookup ("jump_to" :Str)=none:=rfl
theorem Xl:(fZ ln li va la ju).lookup ("find_places" :Str)=none:=rfl
end
variable{P:Program}{w:World}{K:ax}{mg:τ}{base:Heap}{t:Ad}
theorem nG(T:Txt K mg t):aE P w K mg base aM 1 t.BU t.Kw ["self","line"] (tY t.jC):=by
 refine T.kI.ko ["self","line"] λH Q hr h nd=>?_
 obtain⟨a,x,n,rfl,ha,k⟩:=h;refine⟨_,aq (UP T.xc (pv 0) (pv 1) rfl),?_⟩;exact⟨_,rfl,_,rfl,a,x,n,rfl,rfl,ha,k⟩
def Q3:Ins->Str
 | .num _ _=>"number"
 | .copy _ _=>"copy"
 | .op _ _ _ _=>"operator"
 | .read _=>"read"
 | .print _=>"print"
 | .goto _=>"goto"
 | .cond _ _=>"if"
 | .stop=>"end"
def df(i:Ins):V:=match givesOf i with
 |some d=>.int (d:Int)
 |none=>.aw
def MM:Ins->V
 | .num _ z=>.int z
 |_=>.aw
def Xm(i:Ins):List V:=iw (usesOf i)
def yy(H:Hp)(op:V):Ins->Prop
 | .op k _ _ _=>k<12/\∃q,op=.ref q/\H q=some (.tup (iw (Sz43.ops.getD k [])))
 |_=>op=.aw
def dF(t:Ad)(H:Hp)(a:Addr)(i:Ins)(pl:V):Prop:=∃(dx u:Addr)(op:V),H a=some (.ins t.i8 dx (ff (Q3 i) (.ref u) (df i) (MM i) op pl))/\H u=some (.tup (Xm i))/\yy H op i
theorem yy.mono{H H':Hp}{op:V}{i:Ins}(h:yy H op i)(k:∀b xs,H b=some (.tup xs)->H' b=some (.tup xs)):yy H' op i:=by
 cases i with
 |op n d a b=>obtain⟨h1,q,h2,h3⟩:=h;exact⟨h1,q,h2,k _ _ h3⟩
 |_=>exact h
theorem dF.mono{t:Ad}{H H':Hp}{a:Addr}{i:Ins}{pl:V}(h:dF t H a i pl)(k:∀b xs,H b=some (.tup xs)->H' b=some (.tup xs))(ka:∀C dx fs,H a=some (.ins C dx fs)->H' a=some (.ins C dx fs)):dF t H' a i pl:=by obtain⟨dx,u,op,h1,h2,h3⟩:=h;exact⟨dx,u,op,ka _ _ _ h1,k _ _ h2,h3.mono k⟩
structure RA where
 dx:Addr
 li:Addr
 va:Addr
 la:Addr
 ju:Addr
def jW(vars:ξ):List (List Key×V):=vars.zipIdx.map λx=>(kw x.1,.int (x.2:Int))
def kQ(labs:List (List Nat×Nat)):List (List Key×V):=labs.map λx=>(kw x.1,.int (x.2:Int))
structure Raw(t:Ad)(H:Hp)(r:Addr)(A:RA)(ln:Nat)(is:θ)(vars:ξ)(labs:List (List Nat×Nat))(js:θ):Prop where
 ob:H r=some (.ins t.fc A.dx (fZ (.int (ln:Int)) (.ref A.li) (.ref A.va) (.ref A.la) (.ref A.ju)))
 lst:H A.li=some (.lst (is.map V.ref))
 var:H A.va=some (.dT (jW vars))
 cU:H A.la=some (.dT (kQ labs))
 dG:H A.ju=some (.lst (js.map V.ref))
 mj:A.li≠A.ju
 ml:A.va≠A.la
def a6(r:Addr)(A:RA)(H H':Hp):Prop:=∀b o,H b=some o->b≠r->b≠A.li->b≠A.va->b≠A.la->b≠A.ju->H' b=some o
theorem a6.trans{r:Addr}{A:RA}{H H1 H2:Hp}(a:a6 r A H H1)(b:a6 r A H1 H2):a6 r A H H2:=λc o e h1 h2 h3 h4 h5=>b c o (a c o e h1 h2 h3 h4 h5) h1 h2 h3 h4 h5
theorem a6.same{r:Addr}{A:RA}{H H1:Hp}(a:ae H H1):a6 r A H H1:=λc o e _ _ _ _ _=>a c o e
section
variable{t:Ad}{H H':Hp}{r:Addr}{A:RA}{ln:Nat}{is js:θ}{vars:ξ}{labs:List (List Nat×Nat)}
theorem Raw.same(R:Raw t H r A ln is vars labs js)(s:ae H H'):Raw t H' r A ln is vars labs js:=⟨s _ _ R.ob,s _ _ R.lst,s _ _ R.var,s _ _ R.cU,s _ _ R.dG,R.mj,R.ml⟩
theorem Raw.jD(R:Raw t H r A ln is vars labs js)(k:a6 r A H H'){b:Addr}{xs:ε}(e:H b=some (.tup xs)):H' b=some (.tup xs):=k b _ e (bg e R.ob) (bg e R.lst) (bg e R.var) (bg e R.cU) (bg e R.dG)
theorem Raw.MN(R:Raw t H r A ln is vars labs js)(k:a6 r A H H'){b:Addr}{xs:ε}(e:H b=some (.lst xs))(n1:b≠A.li)(n2:b≠A.ju):H' b=some (.lst xs):=k b _ e (bg e R.ob) n1 (bg e R.var) (bg e R.cU) n2
theorem Raw.g8(R:Raw t H r A ln is vars labs js)(k:a6 r A H H'){q:Addr}{ws:ξ}(h:b9 H q ws)(n1:q≠A.li)(n2:q≠A.ju):b9 H' q ws:=h.mono (λ_ _ e=>R.jD k e) λ_ e=>R.MN k e n1 n2
theorem Raw.Du(R:Raw t H r A ln is vars labs js)(k:a6 r A H H'){b C dx:Addr}{fs:List (Str×V)}(e:H b=some (.ins C dx fs))(n:b≠r):H' b=some (.ins C dx fs):=k b _ e n (bg e R.lst) (bg e R.var) (bg e R.cU) (bg e R.dG)
end
theorem MO(w:ψ):∀(vars:ξ)(n:Nat),bR ((vars.zipIdx n).map λx=>(kw x.1,V.int (x.2:Int))) (kw w)=(vars.findIdx? λx=>x==w).map λi=>V.int ((n+i:Nat):Int)
 |[],_=>rfl
 |v::r,n=>by
  rw[List.zipIdx_cons,bx,FY];by_cases e:v=w
  ·subst e;rw[gr rfl];simp
  ·have e1:¬kw v=kw w:=λz=>e (A1 z)
   have e2:(v==w)=false:=by simpa using e
   rw[gu e1,MO w r (n+1),e2];simp only[qD,kf,Option.map_map]
   congr 1
   funext i;show V.int ((n+1+i:Nat):Int)=V.int ((n+(i+1):Nat):Int);rw[Nat.add_assoc,FC 1 i]
theorem yz(vars:ξ)(w:ψ):bR (jW vars) (kw w)=(vars.findIdx? λx=>x==w).map λ(i:Nat)=>V.int (i:Int):=by have:=MO w vars 0;simp only[og]at this;exact this
theorem uB(w:ψ):∀labs:List (List Nat×Nat),bR (kQ labs) (kw w)=(Sz43.place labs w).map λ(n:Nat)=>V.int (n:Int)
 |[]=>rfl
 |(v,n)::r=>by
  have ih:=uB w r;unfold kQ Sz43.place at ih ⊢;rw[bx,lE];by_cases e:v=w
  ·subst e;rw[gr rfl];simp
  ·have e1:¬kw v=kw w:=λz=>e (A1 z)
   have e2:(v==w)=false:=by simpa using e
   rw[gu e1,ih,e2]
theorem MP{kvs:List (List Key×V)}{k:List Key}{v:V}(h:bR kvs k=none):dM kvs k v=kvs++[(k,v)]:=by unfold dM;rw[af];rw[qZ,h];simp
theorem Xn(vars:ξ)(w:ψ):jW (vars++[w])=jW vars++[(kw w,.int (vars.length:Int))]:=by unfold jW;rw[List.zipIdx_append,dA];simp
theorem Xo(labs:List (List Nat×Nat))(w:ψ)(n:Nat):kQ (labs++[(w,n)])=kQ labs++[(kw w,.int (n:Int))]:=by unfold kQ;rw[dA];rfl
theorem Dv(vars:ξ):(jW vars).length=vars.length:=by unfold jW;rw[aI,List.length_zipIdx]
theorem Xp(labs:List (List Nat×Nat)):(kQ labs).length=labs.length:=aI _
section
variable{prog:Program}{w:World}{A:Around}{E:ρ}{s:Shared}
theorem Xq{d:Addr}{n:Nat}(hd:(d==sysModules)=false):MeetsIn prog w (Builtin.«dict.__len__» ⟨[.ref d],[]⟩) (λ_ R s=>(∃o es ep,s.heap.get? d=some o/\o.data=.dict es ep/\es.size=n)/\R (.ok (.ret (.int (n:Int) s.toks))) {s with toks:=s.toks+1}):=.of_wp λA R s ⟨⟨o,es,ep,ho,hdat,hn⟩,h⟩=>by show wpAny _ _ (dictSize d>>=_) _ _ s;unfold dictSize;refine ai (ai (FI ho hdat (aB ?_)));show wpAny _ _ (Builtin.Dict.pendingCount d>>=_) _ _ s;refine ai (wpAny_pendingCount_other hd ?_);refine wpAny_ret_mkInt ?_;rw[Nat.add_zero,hn];exact h
theorem Xr{d:Addr}{n:Nat}{Q:ρ}(hd:(d==sysModules)=false)(hm:∃o es ep,s.heap.get? d=some o/\o.ExactDict/\o.data=.dict es ep/\es.size=n)(hfit:(n:Int)<2^63) (h:Q (.int n (s.toks+1)) {s with toks:=s.toks+1+1}):wpAny (model prog w) A (call (.builtin "len") [.ref d]) Q E s:=by
 obtain⟨o,es,ep,ho,hx,hdat,hn⟩:=hm;have ty:s.TypeIs (.ref d) "dict":=⟨o,ho,hx.1⟩;refine Calls.call_function_entry kind_len plain_len entry_len (args_len1 _) ?_;unfold Builtin.«len»;refine ai (m:=oneArg "len" _) (aB ?_);refine ai (m:=callSpecial? (.ref d) (Str.ofString "__len__")) (vQ (name:=Str.ofString "__len__") ty F.slot_dict_len
  (call_meetsIn F.slot_dict_len ty F.entry_dict_len (F.args_dict_len_1 _) (Xq (n:=n) hd) ⟨⟨o,es,ep,ho,hdat,hn⟩,?_⟩))
 show wpAny _ _ _ _ _ {s with toks:=s.toks+1};refine ai (jn (aB ?_));refine ai (wpAny_letGo ?_);show wpAny _ _ (if ((n:Nat):Int)<0 then _ else _) _ _ _;rw[af (by omega)];show wpAny _ _ (if ((n:Nat):Int)>=2^63 then _ else _) _ _ _;rw[af (by omega)];exact ai (wpAny_mkInt (aB ⟨_,rfl,h⟩))
end
section
variable{X:Cx}
theorem MQ:ij X (.builtin "len") (λxs H Q=>∃a kvs,xs=[V.ref a]/\H a=some (.dT kvs)/\Q (.int kvs.length) H):=by
 intro pins s σ H xs us Q I r h;obtain⟨a,kvs,rfl,ha,q⟩:=h;obtain⟨u,rfl,ru⟩:=vals1 r;cases ru;obtain⟨z,hd,xs,rel,o,es,ep,ho,hx,hdat,he,_⟩:=I.hok a _ ha;have e1:es.size=kvs.length:=by have h1:kvs.length=xs.length:=bt rel;rw[h1,<-gI,he,aI]
 exact Xr hd ⟨o,es,ep,ho,hx,hdat,e1⟩ (by rw[aZ]at z;omega) ⟨.int kvs.length,H,I.tok _,⟨_,rfl⟩,q⟩
end
inductive MR(t:Ad)(vs:ε)(H:Hp)(Q:VK)(E:XK):Prop
 |mk (r:Addr) (A:RA) (ln:Nat) (is:θ) (vars:ξ) (labs:List (List Nat×Nat)) (js:θ) (p:Addr) (w:ψ):vs=[.ref r,.ref p]->Raw t H r A ln is vars labs js->H p=some (.tup (iw w))->w≠[]->vars.length<=64->((bF vars w=none->∀H',E (.int (ln:Int) 0) none H'))->((∀x,bF vars w=some x->∀H',Raw t H' r A ln is x.2 labs js->a6 r A H H'->Q (.int (x.1:Int)) H'))->MR t vs H Q E
theorem rN(T:Txt K mg t):aE P w K mg base (dZ P w t.jC) 4 t.B2 t.KE ["self","word"] (MR t):=by
 refine T.ng.mh ["self","word"] λH Q hr h nd=>?_
 obtain⟨r,Ad,ln,is,vars,labs,js,p,u,rfl,R,hp,hn,hv,kE,k⟩:=h;have hr2:=hr.mono (show 2<=3 by decide);have hu:=ky hr;refine⟨_,ak (aP (ox (jv (pC (Dm T) hr T.x6 T.ud (aa (pv 1) ag)))) (aq (m7 T.xc (nG T) (cb T.kI) hr2 rfl rfl rfl rfl T.kK (aA (pv 0)))) aR)
  (ak (aP (cG (AO hu (pv 1) (aA (pv 0)))) (ak (aP (aQ bB (b8 MQ rfl T.cS c8 (aa (aA (pv 0)) ag)) (cJ T.L8 rfl)) (aq (m7 T.xc (nG T) (cb T.kI) hr2 rfl rfl rfl rfl T.kK (aA (pv 0)))) aR) (aq (wY hu (aA (pv 0)) (pv 1) (b8 MQ rfl T.cS c8 (aa (aA (pv 0)) ag)) rfl))) aR)
  (aq (aC (tQ hu (aA (pv 0)) (pv 1) (λ_ _=>rfl))))),?_⟩
 refine⟨_,rfl,p,u,rfl,hp,hn,λH1 s1=>⟨_,rfl,?_⟩⟩;have R1:=R.same s1;have hp1:=s1 _ _ hp;have hk1:H1 p=some (.tup ((kw u).map kV)):=by rw[rg];exact hp1
 refine cN (λc1=>?_) (λc1=>?_)
 ·have e:bF vars u=none:=by
   unfold bF;rw[ah (by simpa using c1)]
  exact⟨_,rfl,r,_,_,_,_,rfl,R1.ob,T.bA,T.i9,kP,_,rfl,kE e H1⟩
 have nm:¬isName u=false:=by intro z;rw[z]at c1;exact c1 rfl
 refine⟨_,rfl,_,rfl,r,_,_,_,_,rfl,R1.ob,T.bA,T.mf,pS,_,_,rfl,dj.t R1.var hk1,_,rfl,?_⟩;rw[yz];cases hf:vars.findIdx? (λx=>x==u)with
 |some i=>
  refine az ?_;have e:bF vars u=some (i,vars):=by unfold bF;rw[af nm,hf]
  refine⟨_,rfl,r,_,_,_,_,rfl,R1.ob,T.bA,T.mf,pS,_,rfl,_,_,rfl,?_,k _ e H1 R1 (a6.same s1)⟩;have:=dj.t R1.var hk1;rw[yz,hf]at this;exact this
 |none=>
  refine aD ⟨_,rfl,r,_,_,_,_,rfl,R1.ob,T.bA,T.mf,pS,_,_,rfl,R1.var,rfl,_,rfl,?_⟩;rw[Dv];refine cN (λc2=>?_) (λc2=>?_)
  ·have l:vars.length=64:=by
    have:=jr c2;injection this with this
    omega
   have e:bF vars u=none:=by unfold bF;rw[af nm,hf];show(if vars.length=64 then none else _)=none;rw[ah l]
   exact⟨_,rfl,r,_,_,_,_,rfl,R1.ob,T.bA,T.i9,kP,_,rfl,kE e H1⟩
  ·have l:¬vars.length=64:=λz=>by
    rw[z]at c2;exact c2 rfl
   have e:bF vars u=some (vars.length,vars++[u]):=by unfold bF;rw[af nm,hf];show(if vars.length=64 then none else _)=_;rw[af l]
   have Dw:bR (jW vars) (kw u)=none:=by rw[yz,hf];rfl
   refine⟨_,rfl,r,_,_,_,_,rfl,R1.ob,T.bA,T.mf,pS,_,_,rfl,R1.var,_,rfl,r,_,_,_,_,rfl,R1.ob,T.bA,T.mf,pS,_,rfl,_,_,rfl,ku.t R1.var hk1 (by rw[Dv,aZ];omega),?_⟩;rw[MP Dw,Dv,<-Xn];have n1:r≠Ad.va:=bg R1.ob R1.var;have n2:p≠Ad.va:=bg hp1 R1.var;have R2:Raw t (upd H1 Ad.va (.dT (jW (vars++[u])))) r Ad ln is (vars++[u]) labs js:=⟨by rw[ay n1];exact R1.ob,by rw[ay (bg R1.lst R1.var)];exact R1.lst,au,by rw[ay R1.ml.symm];exact R1.cU,by rw[ay (bg R1.dG R1.var)];exact R1.dG,R1.mj,R1.ml⟩;have hk2:(upd H1 Ad.va (.dT (jW (vars++[u])))) p=some (.tup ((kw u).map kV)):=by rw[ay n2];exact hk1
   refine⟨_,rfl,r,_,_,_,_,rfl,R2.ob,T.bA,T.mf,pS,_,rfl,_,_,rfl,?_,k _ e _ R2 ((a6.same s1).trans λb o e _ _ n _ _=>by rw[ay n];exact e)⟩;have:=dj.t R2.var hk2;rw[yz]at this;have ef:((vars++[u]).findIdx? λx=>x==u)=some vars.length:=by rw[Ro,hf];simp
   rw[ef]at this;exact this
def jX:List Str:=["self","kind","used","given","number","operator","place"]
inductive MS(t:Ad)(vs:ε)(H:Hp)(Q:VK)(e0:XK):Prop
 |mk (a dx:Addr) (kd:Str) (us gv nu op pl:V):vs=[.ref a,.str kd,us,gv,nu,op,pl]->H a=some (.ins t.i8 dx [])->(∀H',H' a=some (.ins t.i8 dx (ff kd us gv nu op pl))->(∀b,b≠a->H' b=H b)->Q .aw H')->MS t vs H Q e0
noncomputable def gG{α:Type}(k:Nat)(f:List α->List α)(us ws:List α):List α:=if us.length=3/\ws.length=k then us++f ws else []
theorem uC{K:ax}{fd:FuncData}{k:Nat}{ks:γ}{f:List Value->List Value}{fV:List V->List V}(h:∀(s:Shared)(x y z:Value)(ws:ω),K.In s.heap->ws.length=k->BindsTo s fd ⟨[x,y,z],ks.zip ws⟩ (jX.zip ([x,y,z]++f ws)))(hf:∀{vs:ε}{us:ω},Vals vs us->Vals (fV vs) (f us)):mX K fd jX ks (gG k f) (gG k fV):=by
 refine⟨λs us ws X hl=>?_,λ{vs us zs ws} r q=>?_⟩
 ·by_cases c:us.length=3/\ws.length=k
  ·unfold gG;rw[ah c];obtain⟨x,y,z,rfl⟩:=rH c.1;exact h s x y z ws X c.2
  ·unfold gG at hl;rw[af c]at hl;exact absurd hl (by decide)
 ·unfold gG;rw[r.length,q.length];by_cases c:us.length=3/\ws.length=k
  ·rw[ah c,ah c];exact r.append (hf q)
  ·rw[af c,af c];exact .nil
noncomputable def g1{α:Type}(n:α)(ws:List α):List α:=ws++[n,n,n]
noncomputable def g2{α:Type}(n:α)(ws:List α):List α:=ws++[n,n]
noncomputable def g3{α:Type}(n:α)(ws:List α):List α:=ws.take 1++n::(ws.drop 1++[n])
theorem Xs:mY jX jX (bp xt):=Dk
theorem iA(T:Txt K mg t):aE P w K mg base aM 1 t.BR t.ma jX (MS t):=by
 obtain⟨oc,od,kV,doc,pm,an,cdv,ct,osl,e,lk,hcd⟩:=T.nh;rw[e]at lk ⊢;refine Am lk hcd Xs (λvs H Q E h=>?_) λA outer s H vs Q E hr h=>?_
 ·obtain⟨_,_,_,_,_,_,_,_,rfl,_⟩:=h;rfl
 ·obtain⟨a,dx,kd,us,gv,nu,op,pl,rfl,ha,k⟩:=h;refine⟨_,dP.bZ (ak (fR (pv 0) (pv 1) rfl) (ak (fR (pv 0) (pv 2) rfl) (ak (fR (pv 0) (pv 3) rfl) (ak (fR (pv 0) (pv 4) rfl) (ak (fR (pv 0) (pv 5) rfl) (aq (fR (pv 0) (pv 6) rfl))))))),?_⟩;have c:=T.cI;have small:∀(n:Nat)(fs:List (Str×V)),fs.length<=n->n<1000->fs.length<1000:=λn fs h1 h2=>qI h1 h2
  refine⟨_,rfl,_,rfl,a,_,dx,_,rfl,ha,c,T.be,(by show 0<1000;decide),?_⟩;refine⟨_,rfl,_,rfl,a,_,dx,_,rfl,au,c,T.dR,small 1 _ (fY _ _ _) (by decide),?_⟩;refine⟨_,rfl,_,rfl,a,_,dx,_,rfl,au,c,T.cA,small 2 _ (bE (fY _ _ _) (iP (fY _ _ _))) (by decide),?_⟩;refine⟨_,rfl,_,rfl,a,_,dx,_,rfl,au,c,T.ue,small 3 _ (bE (fY _ _ _) (iP (bE (fY _ _ _) (iP (fY _ _ _))))) (by decide),?_⟩;refine⟨_,rfl,_,rfl,a,_,dx,_,rfl,au,c,T.me,small 4 _ (bE (fY _ _ _) (iP (bE (fY _ _ _) (iP (bE (fY _ _ _) (iP (fY _ _ _))))))) (by decide),?_⟩;refine⟨_,rfl,_,rfl,a,_,dx,_,rfl,au,c,T.eJ,small 5 _ (bE (fY _ _ _) (iP (bE (fY _ _ _) (iP (bE (fY _ _ _) (iP (bE (fY _ _ _) (iP (fY _ _ _))))))))) (by decide),?_⟩;exact k _ au λb hb=>by rw[ay hb,ay hb,ay hb,ay hb,ay hb,ay hb]
theorem uD(T:Txt K mg t):Binds K t.ma jX [.none,.none,.none,.none]:=by obtain⟨oc,od,kV,doc,pm,an,cdv,ct,osl,e,lk,hcd⟩:=T.nh;obtain⟨o,n,ho,hs⟩:=T.pI;rw[e];intro s us X hl;have h3:us.length=3:=Nat.add_right_cancel (m:=4) (show us.length+4=3+4 by rw[a8]at hl;exact hl);obtain⟨x,y,z,rfl⟩:=rH h3;exact vX X rfl ho hs rfl rfl
theorem kb1(T:Txt K mg t):mX K t.ma jX ["given"] (gG 1 (g1 .none)) (gG 1 (g1 .aw)):=by
 obtain⟨oc,od,kV,doc,pm,an,cdv,ct,osl,e,lk,hcd⟩:=T.nh;obtain⟨o,n,ho,hs⟩:=T.pI;refine uC (λs x y z ws X hw=>?_) λq=>q.append (.cons rfl (.cons rfl (.cons rfl .nil)))
 obtain⟨u,rfl⟩:=uo hw;rw[e];exact vX X rfl ho hs rfl rfl
theorem kb2(T:Txt K mg t):mX K t.ma jX ["given","number"] (gG 2 (g2 .none)) (gG 2 (g2 .aw)):=by
 obtain⟨oc,od,kV,doc,pm,an,cdv,ct,osl,e,lk,hcd⟩:=T.nh;obtain⟨o,n,ho,hs⟩:=T.pI;refine uC (λs x y z ws X hw=>?_) λq=>q.append (.cons rfl (.cons rfl .nil))
 obtain⟨u,v,rfl⟩:=uq hw;rw[e];exact vX X rfl ho hs rfl rfl
theorem Xt(T:Txt K mg t):mX K t.ma jX ["given","operator"] (gG 2 (g3 .none)) (gG 2 (g3 .aw)):=by
 obtain⟨oc,od,kV,doc,pm,an,cdv,ct,osl,e,lk,hcd⟩:=T.nh;obtain⟨o,n,ho,hs⟩:=T.pI;refine uC (λs x y z ws X hw=>?_) λq=>(q.take 1).append (.cons rfl ((q.drop 1).append (.cons rfl .nil)))
 obtain⟨u,v,rfl⟩:=uq hw;rw[e];exact vX X rfl ho hs rfl rfl
theorem fG{H2 H':Hp}{x dx C:Addr}(nx:H2 x=none)(nd:H2 dx=none)(h2:∀b,b≠x->H' b=(upd (upd H2 dx (.own x)) x (.ins C dx [])) b):ae H2 H':=λb o e=>by have n1:=aH e nx;rw[h2 b n1,ay n1,ay (aH e nd)];exact e
theorem Raw.pT{t:Ad}{H H':Hp}{r:Addr}{A:RA}{ln:Nat}{is js:θ}{vars:ξ}{labs:List (List Nat×Nat)}(R':Raw t H' r A ln is vars labs js)(k:a6 r A H H'){b:Addr}(e:H' b=none):H b=none:=by
 cases q:H b with
 |none=>rfl
 |some o=>rw[k b o q (aH R'.ob e).symm (aH R'.lst e).symm (aH R'.var e).symm (aH R'.cU e).symm (aH R'.dG e).symm]at e;cases e
theorem Xu{c:Bool}{U:(Bool->Hp->Prop)->Prop}{Q:Bool->Hp->Prop}{H:Hp}(b:Bool)(hU:c=true->Q b H->U Q)(hb:c=false->b=false)(k:Q b H):if c=true then U Q else Q false H:=by
 cases c with
 |true=>exact aD (hU rfl k)
 |false=>rw[hb rfl]at k;exact az k
theorem dU(n m:Nat):decide (V.int (n:Int)=V.int (m:Int))=decide (n=m):=by
 rw[mL];constructor
 ·intro h;injection h with h
  omega
 ·rintro rfl
  rfl
theorem jc{H:Hp}{q:Addr}{ws:ξ}(h:b9 H q ws):∃rs:List Addr,H q=some (.lst (rs.map V.ref))/\rs.length=ws.length/\∀i,i<ws.length->∃p,(rs.map V.ref)[i]? =some (V.ref p)/\H p=some (.tup (iw (ws.getD i []))):=by
 obtain⟨rs,h1,h2⟩:=h;refine⟨rs,h1,bt h2,?_⟩;clear h1
 induction h2 with
 |nil=>exact λi hi=>absurd hi (by simp)
 |cons r _ ih=>
  intro i hi;cases i with
  |zero=>exact⟨_,rfl,r⟩
  |succ i=>obtain⟨p,h1,h2⟩:=ih i (by simpa using hi);exact⟨p,by simpa using h1,h2⟩
theorem kS{ws:ξ}(h:∀w∈ws,w≠[]){i:Nat}(hi:i<ws.length):ws.getD i []≠[]:=by rw[dy,aL hi];exact h _ (vY hi)
theorem MT{vars:ξ}{w:ψ}{x:Nat×List (List Nat)}(hv:vars.length<=64)(h:bF vars w=some x):x.2.length<=64:=by
 rw[Ds hv]at h;split at h
 ·rename_i c
  cases h;exact c.2
 ·cases h
inductive MU(t:Ad)(vs:ε)(H:Hp)(Q:VK)(E:XK):Prop
 |mk (r:Addr) (A:RA) (ln:Nat) (is:θ) (vars:ξ) (labs:List (List Nat×Nat)) (js:θ) (p:Addr) (w:ψ) (a:Addr):vs=[.ref r,.ref p,.ref a]->Raw t H r A ln is vars labs js->H p=some (.tup (iw w))->w≠[]->js.length<=1000->((isName w=false->∀H',E (.int (ln:Int) 0) none H'))->((isName w=true->∀j H',Raw t H' r A ln is vars labs (js++[j])->a6 r A H H'->H j=none->H' j=some (.tup [.ref a,.ref p,.int (ln:Int)])->Q (.ref a) H'))->MU t vs H Q E
inductive MV(t:Ad)(vs:ε)(H:Hp)(Q:VK)(E:XK):Prop
 |mk (r:Addr) (A:RA) (ln:Nat) (is:θ) (vars:ξ) (labs:List (List Nat×Nat)) (js:θ) (q:Addr) (ws:ξ):vs=[.ref r,.ref q]->Raw t H r A ln is vars labs js->b9 H q ws->q≠A.li->q≠A.ju->((∀w∈ws,w≠[]))->3<=ws.length->vars.length<=64->((ja vars ws=none->∀H',E (.int (ln:Int) 0) none H'))->((∀x,ja vars ws=some x->∀a H',Raw t H' r A ln is x.2 labs js->a6 r A H H'->H a=none->dF t H' a x.1 .aw->Q (.ref a) H'))->MV t vs H Q E
theorem MW(T:Txt K mg t):aE P w K mg base (dZ P w t.jC) 4 t.B3 t.KG ["self","label","instruction"] (MU t):=by
 refine T.yf.mh ["self","label","instruction"] λH Q hr h nd=>?_
 obtain⟨r,Ad,ln,is,vars,labs,js,p,u,a,rfl,R,hp,hn,hj,kE,k⟩:=h;have hr2:=hr.mono (show 2<=3 by decide);refine⟨_,ak (aP (ox (jv (pC (Dm T) hr T.x6 T.ud (aa (pv 1) ag)))) (aq (m7 T.xc (nG T) (cb T.kI) hr2 rfl rfl rfl rfl T.kK (aA (pv 0)))) aR)
  (ak (eA (gq fv jL jM i6 (aA (pv 0)) (aa (fE (aa (pv 2) (aa (pv 1) (aa (aA (pv 0)) ag)))) ag)))
  (aq (aC (pv 2)))),?_⟩
 refine⟨_,rfl,p,u,rfl,hp,hn,λH1 s1=>⟨_,rfl,?_⟩⟩;have R1:=R.same s1;refine cN (λc1=>?_) (λc1=>?_)
 ·exact⟨_,rfl,r,_,_,_,_,rfl,R1.ob,T.bA,T.i9,kP,_,rfl,kE (by simpa using c1) H1⟩
 have nm:isName u=true:=by simpa using c1
 refine⟨_,rfl,r,_,_,_,_,rfl,R1.ob,T.bA,T.yg,MK,.inl ⟨rfl,_,aj.of R1.dG⟩,_,rfl,_,rfl,_,rfl,r,_,_,_,_,rfl,R1.ob,T.bA,T.i9,kP,z3,λj hj1=>?_⟩;have R2:=R1.same (ae.new (o:=.tup [.ref a,.ref p,.int (ln:Int)]) hj1);refine⟨_,_,_,rfl,rfl,R2.dG,(by rw[aI,aZ];omega),?_⟩;have nj:j≠Ad.ju:=(aH R1.dG hj1).symm;refine⟨_,rfl,k nm j _ ⟨?_,?_,?_,?_,?_,R2.mj,R2.ml⟩ ?_ (s1.free hj1) ?_⟩
 ·rw[ay (bg R2.ob R2.dG)];exact R2.ob
 ·rw[ay R2.mj];exact R2.lst
 ·rw[ay (bg R2.var R2.dG)];exact R2.var
 ·rw[ay (bg R2.cU R2.dG)];exact R2.cU
 ·rw[au,dA];rfl
 ·intro b o e _ _ _ _ n;rw[ay n];exact ae.new hj1 _ _ (s1 _ _ e)
 ·rw[ay nj];exact au
theorem Xv(T:Txt K mg t):aE P w K mg base (dZ P w t.jC) 5 t.B1 t.KD ["self","words"] (MV t):=by
 refine T.C6.mh ["self","words","given","used","number"] λH Q hr h nd=>?_
 obtain⟨r,Ad,ln,is,vars,labs,js,q,ws,rfl,R,hL,eQ,eU,hne,h3,hv,kE,k⟩:=h;have hr1:=hr.mono (show 1<=4 by decide);have hr2:=hr.mono (show 2<=4 by decide);refine⟨_,ak (aS 2 nd (iY (pv 0) T.bA T.pH (rN T) hr (cb T.ng) .nil (gW rfl rfl) (aa (aU bc (pv 1) aF) ag)))
  (ak (aP (PW.pt (jw (aQ bB (b8 c_ rfl T.cS c8 (aa (pv 1) ag)) aF) (jP (jv (pC (WY T) hr1 T.K2 T.Cv (aa (aU bc (pv 1) aF) ag)))))) (ak (aS 3 nd (fE (aa (iY (pv 0) T.bA T.pH (rN T) hr (cb T.ng) .nil (gW rfl rfl) (aa (aU bc (pv 1) aF) ag)) (aa (iY (pv 0) T.bA T.pH (rN T) hr (cb T.ng) .nil (gW rfl rfl) (aa (aU bc (pv 1) aF) ag)) ag)))) (aq (aC (l7 T.gZ (iA T) hr2 rfl T.gX (Xt T) dE (aa bq (aa (pv 3) ag)) (ir (pv 2) (ir (aU bc (pv 1) aF) lV)))))) aR)
  (ak (aP (aQ qU (b8 c_ rfl T.cS c8 (aa (pv 1) ag)) aF) (aq (m7 T.xc (nG T) (cb T.kI) hr2 rfl rfl rfl rfl T.kK (aA (pv 0)))) aR)
  (ak (aP (aQ (jT hr.units) (aU bc (pv 1) aF) (pC (fF T) hr1 T.fe T.eF (aa bq ag))) (aq (aC (l7 T.gZ (iA T) hr2 rfl T.gX (kb1 T) dE (aa bq (aa (fE ag) ag)) (ir (pv 2) lV)))) aR)
  (ak (aS 4 nd (pC (WW T) hr2 T.Lc T.CI (aa (aU bc (pv 1) aF) ag)))
  (ak (aP (cG (lP (pv 4))) (aq (aC (l7 T.gZ (iA T) hr2 rfl T.gX (kb2 T) dE (aa bq (aa (fE ag) ag)) (ir (pv 2) (ir (pv 4) lV))))) aR)
  (aq (aC (l7 T.gZ (iA T) hr2 rfl T.gX (kb1 T) dE (aa bq (aa (fE (aa (iY (pv 0) T.bA T.pH (rN T) hr (cb T.ng) .nil (gW rfl rfl) (aa (aU bc (pv 1) aF) ag)) ag)) ag)) (ir (pv 2) lV))))))))),?_⟩
 dsimp only[bI,Cx.c9];obtain⟨rs0,pU,MX,MY⟩:=jc hL;obtain⟨p0,i0,hp0⟩:=MY 0 (by omega);refine⟨_,rfl,r,_,_,rfl,R.ob,rM,_,rfl,q,_,_,_,rfl,rfl,aj.of pU,aY i0,r,Ad,ln,is,vars,labs,js,p0,_,rfl,R,hp0,kS hne (by omega),hv,λe=>?_,λd ed H1 R1 k1=>?_⟩
 ·refine kE ?_;unfold ja;rw[e,jK]
 have L1:=R.g8 k1 hL eQ eU;have hv1:=MT hv ed;obtain⟨rs1,hq1,Dx,yA⟩:=jc L1;unfold ja at kE k;rw[ed,e9]at kE k;have pV:(rs1.map V.ref).length=ws.length:=by rw[aI,Dx]
 refine⟨_,rfl,q,_,rfl,.inl (aj.of hq1),rfl,_,rfl,?_⟩;rw[pV];refine Xu (decide (ws.length=5/\(Sz43.ops.findIdx? λx=>x==ws.getD 3 []).isSome=true)) (λc kk=>?_) (λc=>?_) ?_
 ·have l5:ws.length=5:=jr ((dU ws.length 5).symm.trans c);obtain⟨p3,i3,hp3⟩:=yA 3 (by omega);refine⟨_,rfl,q,_,_,_,rfl,rfl,aj.of hq1,aY i3,p3,_,rfl,hp3,_,rfl,?_⟩;have e:decide (ws.length=5/\(Sz43.ops.findIdx? λx=>x==ws.getD 3 []).isSome=true)=(Sz43.ops.findIdx? λx=>x==ws.getD 3 []).isSome:=by
   cases(Sz43.ops.findIdx? λx=>x==ws.getD 3 []).isSome<;>simp[l5]
  rw[e]at kk;exact kk
 ·have l5:¬ws.length=5:=ki ((dU ws.length 5).symm.trans c);exact aW λz=>l5 z.1
 by_cases h5:ws.length=5/\(Sz43.ops.findIdx? λx=>x==ws.getD 3 []).isSome=true
 ·rw[bj h5];refine aD ?_;rw[ah h5]at kE k;have l5:=h5.1;obtain⟨n,hn⟩:=sG.mp h5.2;obtain⟨n12,en⟩:=Mx hn;obtain⟨p2,i2,hp2⟩:=yA 2 (by omega);refine⟨_,rfl,r,_,_,rfl,R1.ob,rM,_,rfl,q,_,_,_,rfl,rfl,aj.of hq1,aY i2,r,Ad,ln,is,d.2,labs,js,p2,_,rfl,R1,hp2,kS hne (by omega),hv1,λe=>?_,λa ea H2 R2 k2=>?_⟩
  ·refine kE ?_;rw[e,jK]
  have L2:=R1.g8 k2 L1 eQ eU;have hv2:=MT hv1 ea;obtain⟨Dy,hq2,Dz,pW⟩:=jc L2;obtain⟨p4,i4,hp4⟩:=pW 4 (by omega);rw[ea,e9]at kE k;refine⟨_,rfl,r,_,_,rfl,R2.ob,rM,_,rfl,q,_,_,_,rfl,rfl,aj.of hq2,aY i4,r,Ad,ln,is,a.2,labs,js,p4,_,rfl,R2,hp4,kS hne (by omega),hv2,λe=>?_,λb eb H3 R3 k3=>?_⟩
  ·refine kE ?_;rw[e,jK]
  have L3:=R2.g8 k3 L2 eQ eU;rw[eb,e9,hn]at k;refine⟨z2,λu hu=>?_⟩;have s4:=ae.new (o:=.tup [.int (a.1:Int),.int (b.1:Int)]) hu;have R4:=R3.same s4;have L4:=R3.g8 (a6.same s4) L3 eQ eU;obtain⟨rs4,yB,Xw,yC⟩:=jc L4;obtain⟨p3,i3,hp3⟩:=yC 3 (by omega);refine⟨_,rfl,_,rfl,_,rfl,q,_,_,_,rfl,rfl,aj.of yB,aY i3,λx dx nx cP iB=>⟨x,dx,"operator",_,_,_,_,_,rfl,au,λH5 h1 h2=>⟨rfl,?_⟩⟩⟩;have s5:=fG nx cP h2;have k5:a6 r Ad H H5:=k1.trans (k2.trans (k3.trans (a6.same (s4.trans s5))));refine k _ rfl x H5 (R4.same s5) k5 (R3.pT (k1.trans (k2.trans k3)) (s4.free nx)) ⟨dx,u,.ref p3,h1,s5 _ _ au,n12,p3,rfl,?_⟩;show H5 p3=some (.tup (iw (Sz43.ops.getD n [])));rw[en];exact s5 _ _ hp3
 rw[aW h5];refine az ?_;rw[af h5]at kE k;refine⟨_,rfl,q,_,rfl,.inl (aj.of hq1),rfl,_,rfl,?_⟩;rw[pV,show(V.int 3)=V.int ((3:Nat):Int) from rfl,dU];by_cases h3':ws.length=3
 case neg=>rw[aW h3'];refine aD ?_;rw[ah h3']at kE;exact⟨_,rfl,r,_,_,_,_,rfl,R1.ob,T.bA,T.i9,kP,_,rfl,kE rfl H1⟩
 rw[bj h3'];refine az ?_;rw[af (by simpa using h3')]at kE k;obtain⟨p2,i2,hp2⟩:=yA 2 (by omega);refine⟨_,rfl,q,_,_,_,rfl,rfl,aj.of hq1,aY i2,_,rfl,(by decide+kernel),λpr H2 s2 f2 e2=>?_⟩;have R2:=R1.same s2;have L2:=R1.g8 (a6.same s2) L1 eQ eU;have Xx:=s2 _ _ hp2;refine⟨_,_,lZ Xx,lZ e2,xn _,xn _,_,rfl,?_⟩;rw[rh];have er:(Str.ofString "read").cps.toList=ascii "read":=by decide+kernel
 rw[er];by_cases hrd:ws.getD 2 []=ascii "read"
 ·rw[bj hrd];refine aD ?_;rw[ah hrd]at k;refine⟨z0,λu hu=>⟨_,rfl,λx dx nx cP iB=>⟨x,dx,"read",_,_,_,_,_,rfl,au,λH5 h1 h2=>⟨rfl,?_⟩⟩⟩⟩;have s4:=ae.new (o:=.tup []) hu;have s5:=fG nx cP h2;exact k _ rfl x H5 ((R2.same s4).same s5) (k1.trans (a6.same (s2.trans (s4.trans s5)))) (R2.pT (k1.trans (a6.same s2)) (s4.free nx)) ⟨dx,u,.aw,h1,s5 _ _ au,rfl⟩
 rw[aW hrd];refine az ?_;rw[af hrd]at kE k;obtain⟨Dy,hq2,Dz,pW⟩:=jc L2;obtain⟨p2,i2,hp2⟩:=pW 2 (by omega);refine⟨_,rfl,q,_,_,_,rfl,rfl,aj.of hq2,aY i2,p2,_,rfl,hp2,kS hne (by omega),λH3 s3=>?_⟩;have R3:=R2.same s3;have L3:=R2.g8 (a6.same s3) L2 eQ eU;refine⟨_,rfl,_,rfl,?_⟩;cases hz:numberOf (ws.getD 2 [])with
 |some z=>rw[hz]at k;refine aD ⟨z0,λu hu=>⟨_,rfl,_,rfl,λx dx nx cP iB=>⟨x,dx,"number",_,_,_,_,_,rfl,au,λH5 h1 h2=>⟨rfl,?_⟩⟩⟩⟩;have s4:=ae.new (o:=.tup []) hu;have s5:=fG nx cP h2;exact k _ rfl x H5 ((R3.same s4).same s5) (k1.trans (a6.same ((s2.trans s3).trans (s4.trans s5)))) (R3.pT (k1.trans (a6.same (s2.trans s3))) (s4.free nx)) ⟨dx,u,.aw,h1,s5 _ _ au,rfl⟩
 |none=>
  rw[hz]at kE k;refine az ?_;obtain⟨rs3,rO,Xy,get3⟩:=jc L3;obtain⟨p2,i2,hp2⟩:=get3 2 (by omega);refine⟨_,rfl,r,_,_,rfl,R3.ob,rM,_,rfl,q,_,_,_,rfl,rfl,aj.of rO,aY i2,r,Ad,ln,is,d.2,labs,js,p2,_,rfl,R3,hp2,kS hne (by omega),hv1,λe=>?_,λa ea H4 R4 k4=>?_⟩
  ·exact kE (by show(bF d.2 (ws.getD 2 [])).bind _=none;rw[e,jK])
  refine⟨z1,λu hu=>⟨_,rfl,λx dx nx cP iB=>⟨x,dx,"copy",_,_,_,_,_,rfl,au,λH5 h1 h2=>⟨rfl,?_⟩⟩⟩⟩;have s4:=ae.new (o:=.tup [.int (a.1:Int)]) hu;have s5:=fG nx cP h2;refine k (.copy d.1 a.1,a.2) (by show(bF d.2 (ws.getD 2 [])).bind _=_;rw[ea,e9]) x H5 ((R4.same s4).same s5) ((k1.trans (a6.same (s2.trans s3))).trans (k4.trans (a6.same (s4.trans s5)))) (R4.pT ((k1.trans (a6.same (s2.trans s3))).trans k4) (s4.free nx)) ⟨dx,u,.aw,h1,s5 _ _ au,rfl⟩
theorem pX{c:Bool}{U:(Bool->Hp->Prop)->Prop}{Q:Bool->Hp->Prop}{H:Hp}(R:Hp->Prop)(b:Bool)(hU:c=true->(∀H',R H'->Q b H')->U Q)(hb:c=false->b=false/\R H)(k:∀H',R H'->Q b H'):if c=true then U Q else Q false H:=by
 cases c with
 |true=>exact aD (hU rfl k)
 |false=>obtain⟨h1,h2⟩:=hb rfl;have:=k H h2;rw[h1]at this;exact az this
def MZ(H H':Hp)(ln:Nat)(a:Addr)(js js':θ):Option (List Nat)->Prop
 |none=>js'=js
 |some n=>∃j p,js'=js++[j]/\H' j=some (.tup [.ref a,.ref p,.int (ln:Int)])/\H' p=some (.tup (iw n))
inductive M0(t:Ad)(vs:ε)(H:Hp)(Q:VK)(E:XK):Prop
 |mk (r:Addr) (A:RA) (ln:Nat) (is:θ) (vars:ξ) (labs:List (List Nat×Nat)) (js:θ) (q:Addr) (ws:ξ):vs=[.ref r,.ref q]->Raw t H r A ln is vars labs js->b9 H q ws->q≠A.li->q≠A.ju->((∀w∈ws,w≠[]))->vars.length<=64->js.length<=1000->((jb vars ws=none->∀H',E (.int (ln:Int) 0) none H'))->((∀x,jb vars ws=some x->∀a js' H',Raw t H' r A ln is x.2.1 labs js'->a6 r A H H'->H a=none->dF t H' a x.1 .aw->MZ H H' ln a js js' x.2.2->Q (.ref a) H'))->M0 t vs H Q E
theorem Xz{a b:TT}{σ:St}{H:Hp}{Q:Bool->Hp->Prop}(h:a σ H λc H1=>if c=true then b σ H1 Q else Q false H1):zY a b σ H Q:=h
theorem pY{σ:St}{H0:Hp}{q:Addr}{ws:ξ}{i:Nat}{x:Str}{Qb:Bool->Hp->Prop}(hσ:σ[1]? =some (some (.ref q)))(L0:b9 H0 q ws)(hi:i<ws.length)(hx:x.cps.size<=100)(wd:ψ)(hw:x.cps.toList=wd) (k:∀H',ae H0 H'->Qb (decide (ws.getD i []=wd)) H'):oF (gQ (wQ K) (gQ (oM K) (dX 1) (tC (.int (i:Int)))) (qX ym [] E0 (kn (tC (.str x)) km))) σ H0 Qb:=by
 obtain⟨rs,hq,lrs,get⟩:=jc L0;obtain⟨p,ip,hp⟩:=get i hi;refine⟨_,hσ,q,_,_,_,rfl,rfl,aj.of hq,aY ip,x,rfl,hx,λpr H2 s2 f2 e2=>?_⟩;refine⟨_,_,lZ (s2 _ _ hp),lZ e2,xn _,xn _,_,rfl,?_⟩;rw[rh,hw];exact k H2 s2
theorem XA(T:Txt K mg t):aE P w K mg base (dZ P w t.jC) 6 t.B0 t.KC ["self","words"] (M0 t):=by
 refine T.C5.mh ["self","words","size"] λH Q hr h nd=>?_
 obtain⟨r,Ad,ln,is,vars,labs,js,q,ws,rfl,R,hL,eQ,eU,hne,hv,hj,kE,k⟩:=h;have hr1:=hr.mono (show 1<=5 by decide);have hr2:=hr.mono (show 2<=5 by decide);have iC:=hr.mono (show 4<=5 by decide);have vd:Vals [.aw,.aw,.aw,.aw] [Value.none,.none,.none,.none]:=.cons rfl (.cons rfl (.cons rfl (.cons rfl .nil)));refine⟨_,ak (aS 2 nd (b8 c_ rfl T.cS c8 (aa (pv 1) ag)))
  (ak (aP (PW.pt (jw (aQ SD (pv 2) aF) (jP (aQ (jT hr.units) (aU bc (pv 1) aF) (pC (fF T) hr1 T.fe T.eF (aa bq ag)))))) (aq (aC (iY (pv 0) T.bA T.LG (Xv T) hr (cb T.C6) .nil (gW rfl rfl) (aa (pv 1) ag)))) aR)
  (ak (aP (PW.pt (jw (aQ bB (pv 2) aF) (jP (aQ (jT hr.units) (aU bc (pv 1) aF) (pC (fF T) hr1 T.fe T.eF (aa bq ag)))))) (aq (aC (mW T.gZ (iA T) hr2 rfl T.gX (uD T) vd dE (aa bq (aa (fE (aa (iY (pv 0) T.bA T.pH (rN T) iC (cb T.ng) .nil (gW rfl rfl) (aa (aU bc (pv 1) aF) ag)) ag)) ag))))) aR)
  (ak (aP (PW.pt (jw (aQ bB (pv 2) aF) (jP (aQ (jT hr.units) (aU bc (pv 1) aF) (pC (fF T) hr1 T.fe T.eF (aa bq ag)))))) (aq (aC (iY (pv 0) T.bA T.C7 (MW T) iC (ny T.yf) .nil (gW rfl rfl) (aa (aU bc (pv 1) aF) (aa (mW T.gZ (iA T) hr2 rfl T.gX (uD T) vd dE (aa bq (aa (fE ag) ag))) ag))))) aR)
  (ak (aP (PW.pt (jw (aQ bB (pv 2) aF) (jw (aQ (jT hr.units) (aU bc (pv 1) aF) (pC (fF T) hr1 T.fe T.eF (aa bq ag))) (jP (aQ (jT hr.units) (aU bc (pv 1) aF) (pC (fF T) hr1 T.fe T.eF (aa bq ag))))))) (aq (aC (iY (pv 0) T.bA T.C7 (MW T) iC (ny T.yf) .nil (gW rfl rfl) (aa (aU bc (pv 1) aF) (aa (mW T.gZ (iA T) hr2 rfl T.gX (uD T) vd dE (aa bq (aa (fE (aa (iY (pv 0) T.bA T.pH (rN T) iC (cb T.ng) .nil (gW rfl rfl) (aa (aU bc (pv 1) aF) ag)) ag)) ag))) ag))))) aR)
  (ak (aP (PW.pt (jw (aQ bB (pv 2) aF) (jP (aQ (jT hr.units) (aU bc (pv 1) aF) (pC (fF T) hr1 T.fe T.eF (aa bq ag)))))) (aq (aC (mW T.gZ (iA T) hr2 rfl T.gX (uD T) vd dE (aa bq (aa (fE ag) ag))))) aR)
  (aq (m7 T.xc (nG T) (cb T.kI) hr2 rfl rfl rfl rfl T.kK (aA (pv 0))))))))),?_⟩
 dsimp only[bI,Cx.c9];obtain⟨rs0,pU,MX,MY⟩:=jc hL;have DA:(rs0.map V.ref).length=ws.length:=by rw[aI,MX]
 refine⟨_,rfl,q,_,rfl,.inl (aj.of pU),?_⟩;rw[DA];refine⟨_,rfl,_,_,rfl,rfl,_,rfl,?_⟩;refine pX (ae H) (decide (3<=ws.length/\ws.getD 1 []=ascii "=")) (λc kk=>?_) (λc=>⟨?_,ae.refl H⟩) λH1 s1=>?_
 ·have c:=jr c;refine pY (i:=1) (x:="=") rfl hL (by omega) (by decide+kernel) (ascii "=") (by decide+kernel) λH' s'=>?_
  have e:decide (3<=ws.length/\ws.getD 1 []=ascii "=")=decide (ws.getD 1 []=ascii "="):=mL.mpr ⟨λz=>z.2,λz=>⟨by omega,z⟩⟩;rw[<-e];exact kk H' s'
 ·have c:=ki c;exact aW λz=>c (by omega)
 by_cases t1:3<=ws.length/\ws.getD 1 []=ascii "="
 ·rw[bj t1];refine aD ?_;have R1:=R.same s1;have L1:=R.g8 (a6.same s1) hL eQ eU;unfold jb at kE k;rw[ah t1]at kE k;refine⟨_,rfl,r,_,_,rfl,R1.ob,Xk,_,rfl,r,Ad,ln,is,vars,labs,js,q,ws,rfl,R1,L1,eQ,eU,hne,t1.1,hv,λe=>kE (by rw[e,jK]),λx ex a H2 R2 k2 f2 i2=>?_⟩;exact k (x.1,x.2,none) (by rw[ex,e9]) a js H2 R2 ((a6.same s1).trans k2) (s1.free f2) i2 rfl
 rw[aW t1];refine az ?_;have g1:jb vars ws=jb vars ws:=rfl
 conv at g1=>
  rhs
  unfold jb
 rw[af t1]at g1;have R1:=R.same s1;have L1:=R.g8 (a6.same s1) hL eQ eU;refine⟨_,rfl,rfl,_,rfl,?_⟩;refine pX (ae H1) (decide (ws.length=2/\ws.getD 0 []=ascii "print")) (λc kk=>?_) (λc=>⟨?_,ae.refl H1⟩) λH2 s2=>?_
 ·have c:=jr ((dU ws.length 2).symm.trans c);refine pY (i:=0) (x:="print") rfl L1 (by omega) (by decide+kernel) (ascii "print") (by decide+kernel) λH' s'=>?_
  have e:decide (ws.length=2/\ws.getD 0 []=ascii "print")=decide (ws.getD 0 []=ascii "print"):=mL.mpr ⟨λz=>z.2,λz=>⟨by omega,z⟩⟩;rw[<-e];exact kk H' s'
 ·have c:=ki ((dU ws.length 2).symm.trans c);exact aW λz=>c z.1
 have R2:=R1.same s2;have L2:=R1.g8 (a6.same s2) L1 eQ eU;obtain⟨Dy,hq2,Dz,pW⟩:=jc L2;by_cases t2:ws.length=2/\ws.getD 0 []=ascii "print"
 ·rw[bj t2];refine aD ?_;rw[g1,ah t2]at kE k;obtain⟨p1,i1,hp1⟩:=pW 1 (by omega);refine⟨_,rfl,r,_,_,rfl,R2.ob,rM,_,rfl,q,_,_,_,rfl,rfl,aj.of hq2,aY i1,r,Ad,ln,is,vars,labs,js,p1,_,rfl,R2,hp1,kS hne (by omega),hv,λe=>kE (by rw[e,jK]),λa ea H3 R3 k3=>?_⟩;refine⟨z1,λu hu=>λx dx nx cP iB=>⟨x,dx,"print",_,_,_,_,_,rfl,au,λH5 h1 h2=>⟨rfl,?_⟩⟩⟩;have s4:=ae.new (o:=.tup [.int (a.1:Int)]) hu;have s5:=fG nx cP h2;have k13:a6 r Ad H H3:=(a6.same (s1.trans s2)).trans k3;exact k (.print a.1,a.2,none) (by rw[ea,e9]) x js H5 ((R3.same s4).same s5) (k13.trans (a6.same (s4.trans s5))) (R3.pT k13 (s4.free nx)) ⟨dx,u,.aw,h1,s5 _ _ au,rfl⟩ rfl
 rw[aW t2];refine az ?_;rw[af t2]at g1;refine⟨_,rfl,rfl,_,rfl,?_⟩;refine pX (ae H2) (decide (ws.length=2/\ws.getD 0 []=ascii "goto")) (λc kk=>?_) (λc=>⟨?_,ae.refl H2⟩) λH3 s3=>?_
 ·have c:=jr ((dU ws.length 2).symm.trans c);refine pY (i:=0) (x:="goto") rfl L2 (by omega) (by decide+kernel) (ascii "goto") (by decide+kernel) λH' s'=>?_
  have e:decide (ws.length=2/\ws.getD 0 []=ascii "goto")=decide (ws.getD 0 []=ascii "goto"):=mL.mpr ⟨λz=>z.2,λz=>⟨by omega,z⟩⟩;rw[<-e];exact kk H' s'
 ·have c:=ki ((dU ws.length 2).symm.trans c);exact aW λz=>c z.1
 have R3:=R2.same s3;have L3:=R2.g8 (a6.same s3) L2 eQ eU;obtain⟨rs3,rO,Xy,get3⟩:=jc L3;by_cases t3:ws.length=2/\ws.getD 0 []=ascii "goto"
 ·rw[bj t3];refine aD ?_;rw[g1,ah t3]at kE k;obtain⟨p1,i1,hp1⟩:=get3 1 (by omega);refine⟨_,rfl,r,_,_,rfl,R3.ob,ML,_,rfl,q,_,_,_,rfl,rfl,aj.of rO,aY i1,z0,λu hu=>λx dx nx cP iB=>⟨x,dx,"goto",_,_,_,_,_,rfl,au,λH5 h1 h2=>⟨rfl,?_⟩⟩⟩;have s4:=ae.new (o:=.tup []) hu;have s5:=fG nx cP h2;have R5:=(R3.same s4).same s5;have k15:a6 r Ad H H5:=a6.same (((s1.trans s2).trans s3).trans (s4.trans s5));refine⟨r,Ad,ln,is,vars,labs,js,p1,_,x,rfl,R5,s5 _ _ (s4 _ _ hp1),kS hne (by omega),hj,λe=>kE (by rw[ah e]),λe j H6 R6 k6 fj ej=>?_⟩;have rx:x≠r:=(aH R3.ob (s4.free nx)).symm;have hi5:dF t H5 x (.goto 0) .aw:=⟨dx,u,.aw,h1,s5 _ _ au,rfl⟩;have hi6:dF t H6 x (.goto 0) .aw:=hi5.mono (λ_ _ e=>R5.jD k6 e) λ_ _ _ e=>R5.Du k6 e rx
  exact k (.goto 0,vars,some (ws.getD 1 [])) (by rw[af (by rw[e];decide)]) x _ H6 R6 (k15.trans k6) (R3.pT (a6.same ((s1.trans s2).trans s3)) (s4.free nx)) hi6 ⟨j,p1,rfl,ej,R5.jD k6 (s5 _ _ (s4 _ _ hp1))⟩
 rw[aW t3];refine az ?_;rw[af t3]at g1;refine⟨_,rfl,rfl,_,rfl,?_⟩;refine pX (ae H3) (decide (ws.length=4/\ws.getD 0 []=ascii "if" /\ws.getD 2 []=ascii "goto")) (λc kk=>?_) (λc=>⟨?_,ae.refl H3⟩) λH4 s4=>?_
 ·have c:=jr ((dU ws.length 4).symm.trans c);refine Xz ?_;refine pY (i:=0) (x:="if") rfl L3 (by omega) (by decide+kernel) (ascii "if") (by decide+kernel) λH' s'=>?_
  refine pX (ae H') (decide (ws.length=4/\ws.getD 0 []=ascii "if" /\ws.getD 2 []=ascii "goto")) (λc' kk'=>?_) (λc'=>⟨?_,ae.refl H'⟩) λDB s''=>kk DB (s'.trans s'')
  ·have c':=jr c';refine pY (i:=2) (x:="goto") rfl (R3.g8 (a6.same s') L3 eQ eU) (by omega) (by decide+kernel) (ascii "goto") (by decide+kernel) λDB s''=>?_
   have e:decide (ws.length=4/\ws.getD 0 []=ascii "if" /\ws.getD 2 []=ascii "goto")=decide (ws.getD 2 []=ascii "goto"):=mL.mpr ⟨λz=>z.2.2,λz=>⟨c,c',z⟩⟩;rw[<-e];exact kk' DB s''
  ·have c':=ki c';exact aW λz=>c' z.2.1
 ·have c:=ki ((dU ws.length 4).symm.trans c);exact aW λz=>c z.1
 have R4:=R3.same s4;have L4:=R3.g8 (a6.same s4) L3 eQ eU;obtain⟨rs4,yB,Xw,yC⟩:=jc L4;have s14:=((s1.trans s2).trans s3).trans s4;by_cases t4:ws.length=4/\ws.getD 0 []=ascii "if" /\ws.getD 2 []=ascii "goto"
 ·rw[bj t4];refine aD ?_;rw[g1,ah t4]at kE k;obtain⟨p3,i3,hp3⟩:=yC 3 (by omega);obtain⟨p1,i1,hp1⟩:=yC 1 (by omega);refine⟨_,rfl,r,_,_,rfl,R4.ob,ML,_,rfl,q,_,_,_,rfl,rfl,aj.of yB,aY i3,_,rfl,r,_,_,rfl,R4.ob,rM,_,rfl,q,_,_,_,rfl,rfl,aj.of yB,aY i1,r,Ad,ln,is,vars,labs,js,p1,_,rfl,R4,hp1,kS hne (by omega),hv,λe=>kE (by rw[e,jK]),λa ea H5 R5 k5=>?_⟩;refine⟨z1,λu hu=>λx dx nx cP iB=>⟨x,dx,"if",_,_,_,_,_,rfl,au,λH7 h1 h2=>⟨rfl,?_⟩⟩⟩;have s6:=ae.new (o:=.tup [.int (a.1:Int)]) hu;have s7:=fG nx cP h2;have R7:=(R5.same s6).same s7;have k15:a6 r Ad H H5:=(a6.same s14).trans k5;have k17:a6 r Ad H H7:=k15.trans (a6.same (s6.trans s7));have hp7:H7 p3=_:=s7 _ _ (s6 _ _ (R4.jD k5 hp3));rw[ea,e9]at kE k;refine⟨r,Ad,ln,is,a.2,labs,js,p3,_,x,rfl,R7,hp7,kS hne (by omega),hj,λe=>kE (by rw[ah e]),λe j H8 R8 k8 fj ej=>?_⟩;have rx:x≠r:=(aH R5.ob (s6.free nx)).symm;have hi7:dF t H7 x (.cond a.1 0) .aw:=⟨dx,u,.aw,h1,s7 _ _ au,rfl⟩;have hi8:dF t H8 x (.cond a.1 0) .aw:=hi7.mono (λ_ _ e=>R7.jD k8 e) λ_ _ _ e=>R7.Du k8 e rx
  exact k (.cond a.1 0,a.2,some (ws.getD 3 [])) (by rw[af (by rw[e];decide)]) x _ H8 R8 (k17.trans k8) (R5.pT k15 (s6.free nx)) hi8 ⟨j,p3,rfl,ej,R7.jD k8 hp7⟩
 rw[aW t4];refine az ?_;rw[af t4]at g1;refine⟨_,rfl,rfl,_,rfl,?_⟩;refine pX (ae H4) (decide (ws.length=1/\ws.getD 0 []=ascii "end")) (λc kk=>?_) (λc=>⟨?_,ae.refl H4⟩) λH5 s5=>?_
 ·have c:=jr ((dU ws.length 1).symm.trans c);refine pY (i:=0) (x:="end") rfl L4 (by omega) (by decide+kernel) (ascii "end") (by decide+kernel) λH' s'=>?_
  have e:decide (ws.length=1/\ws.getD 0 []=ascii "end")=decide (ws.getD 0 []=ascii "end"):=mL.mpr ⟨λz=>z.2,λz=>⟨by omega,z⟩⟩;rw[<-e];exact kk H' s'
 ·have c:=ki ((dU ws.length 1).symm.trans c);exact aW λz=>c z.1
 have R5:=R4.same s5;by_cases t5:ws.length=1/\ws.getD 0 []=ascii "end"
 ·rw[bj t5];refine aD ?_;rw[g1,ah t5]at k;refine⟨z0,λu hu=>λx dx nx cP iB=>⟨x,dx,"end",_,_,_,_,_,rfl,au,λH7 h1 h2=>⟨rfl,?_⟩⟩⟩;have s6:=ae.new (o:=.tup []) hu;have s7:=fG nx cP h2;exact k (.stop,vars,none) rfl x js H7 ((R5.same s6).same s7) (a6.same ((s14.trans s5).trans (s6.trans s7))) ((s14.trans s5).free (s6.free nx)) ⟨dx,u,.aw,h1,s7 _ _ au,rfl⟩ rfl
 rw[aW t5];refine az ?_;rw[af t5]at g1;exact⟨_,rfl,r,_,_,_,_,rfl,R5.ob,T.bA,T.i9,kP,_,rfl,kE g1 H5⟩
end My
namespace My
open Sz43
def jY(vars:ζ)(x:Line):Ins:=insOf ⟨[],[],vars⟩ x
def f7:Nat->List (Nat×Line)->List (Nat×Bytes×Nat)
 |_,[]=>[]
 |i,x::r=>(match dS x.2 with |some n=>[(i,n,x.1)] |none=>[])++f7 (i+1) r
def cD(items:List (Nat×Line)):List (Nat×Bytes×Nat):=f7 0 items
theorem M1(x:Nat×Line):∀(items:List (Nat×Line))(i:Nat),f7 i (items++[x])=f7 i items++(match dS x.2 with |some n=>[(i+items.length,n,x.1)] |none=>[])
 |[],i=>by show(match dS x.2 with |some n=>[(i,n,x.1)] |none=>[])++[]=[]++_;rw[ie,FD];rfl
 |y::r,i=>by
  rw[Rc];show _++f7 (i+1) (r++[x])=(_++f7 (i+1) r)++_;rw[M1 x r (i+1),mJ];have e:i+1+r.length=i+(y::r).length:=by rw[bT];omega
  rw[e]
theorem XB(items:List (Nat×Line))(x:Nat×Line):cD (items++[x])=cD items++(match dS x.2 with |some n=>[(items.length,n,x.1)] |none=>[]):=by unfold cD;rw[M1];simp
theorem XD{v m:ζ}{x:Line}(h:∀n∈varsOf x,n∈v):jY (v++m) x=jY v x:=by
 unfold jY;cases x with
 |label n=>rfl
 |num d z=>simp only[insOf,kM (h d (by simp[varsOf]))]
 |copy d a=>simp only[insOf,kM (h d (by simp[varsOf])),kM (h a (by simp[varsOf]))]
 |op k d a b=>simp only[insOf,kM (h d (by simp[varsOf])),kM (h a (by simp[varsOf])),kM (h b (by simp[varsOf]))]
 |read d=>simp only[insOf,kM (h d (by simp[varsOf]))]
 |print a=>simp only[insOf,kM (h a (by simp[varsOf]))]
 |goto n=>rfl
 |cond a n=>simp only[insOf,kM (h a (by simp[varsOf]))]
 |stop=>rfl
theorem M2{ns:ζ}:∀{l:ζ}{n:Bytes},n∈ns->n∈ns.foldl aO l:=by
 induction ns with
 |nil=>intro l n h;cases h
 |cons a r ih=>
  intro l n h;rw[qA];rcases aX.mp h with e |e
  ·rw[e];exact yq (uz l a)
  ·exact ih e
theorem M3{g:Got}{k:Nat}{ws:ζ}(hn:ws≠[])(h:¬(ws.length=2/\ws.getD 0 []=ascii "label")):put g k ws=match lineOf ws with
  |none=>none
  |some x=>if 256<=g.items.length\/64<((varsOf x).foldl aO g.vars).length then none else some {g with items:=g.items++[(k,x)],vars:=(varsOf x).foldl aO g.vars}:=by
 unfold put;rw[af hn];have nl:∀n,lineOf ws≠some (.label n):=by
  intro n e
  match ws,h,e with
  |[a],_,e=>simp[lineOf]at e
  |[a,b],h,e=>
   have hl:¬a=ascii "label":=λz=>h ⟨rfl,z⟩
   simp[lineOf,hl]at e;split at e
   ·cases e.2
   ·split at e
    ·cases e.2
    ·cases e.2
  |[d,e',a],_,e=>
   simp only[lineOf]at e;split at e
   ·cases e
   ·split at e
    ·cases e
    ·split at e
     ·cases e
     ·split at e<;>cases e
  |[i,a,g,n],_,e=>simp only[lineOf]at e;split at e<;>cases e
  |[d,e',a,o,b],_,e=>
   simp only[lineOf]at e;split at e
   ·cases e
   ·cases q:ops.findIdx? (λx=>x==o)with
    |none=>rw[q]at e;cases e
    |some k=>rw[q]at e;cases e
  |a::b::c::d::e'::f::r,_,e=>simp[lineOf]at e
 cases q:lineOf ws with
 |none=>rfl
 |some x=>
  cases x with
  |label n=>exact absurd q (nl n)
  |num d z=>rfl
  |copy d a=>rfl
  |op k d a b=>rfl
  |read d=>rfl
  |print a=>rfl
  |goto n=>rfl
  |cond a n=>rfl
  |stop=>rfl
theorem M4{g:Got}{k:Nat}{b:Bytes}:put g k [ascii "label",b]=if isName b=false\/(place g.labels b).isSome=true then none else some {g with labels:=g.labels++[(b,g.items.length)]}:=by
 unfold put;rw[af (by simp)];cases hn:isName b with
 |false=>simp[lineOf,hn]
 |true=>
  have e:lineOf [ascii "label",b]=some (.label b):=by simp[lineOf,hn]
  rw[e];simp
end My
namespace My
open PySem L2
theorem Paired.M5{α β:Type}{F G:α->β->Prop}:∀{l₁:List α}{l₂:List β},Paired F l₁ l₂->(∀a b,b∈l₂->F a b->G a b)->Paired G l₁ l₂
 |_,_,.nil,_=>.nil
 |_,_,.cons r t,f=>.cons (f _ _ (by simp) r) (Paired.M5 t λa b m=>f a b (by simp[m]))
def yD(H:Hp)(is:θ)(j:Addr)(x:Nat×List Nat×Nat):Prop:=∃a p,is[x.1]? =some a/\H j=some (.tup [.ref a,.ref p,.int (x.2.2:Int)])/\H p=some (.tup (iw x.2.1))
structure fg(t:Ad)(H:Hp)(r:Addr)(A:RA)(ln:Nat)(is js:θ)(g:Sz43.Got):Prop where
 raw:Raw t H r A ln is g.vars g.labels js
 ins:Paired (λa x=>dF t H a (jY g.vars x.2) .aw) is g.items
 yE:Paired (λj x=>yD H is j x) js (cD g.items)
 nd:is.Nodup
 nr:∀a∈is,a≠r
 mem:∀x∈g.items,∀n∈varsOf x.2,n∈g.vars
 dk:g.items.length<=256
 dH:g.vars.length<=64
theorem M6:∀(items:List (Nat×Sz43.Line))(i:Nat),(f7 i items).length<=items.length
 |[],_=>aJ _
 |x::r,i=>by have ih:=M6 r (i+1);show((match dS x.2 with |some n=>[(i,n,x.1)] |none=>[])++f7 (i+1) r).length<=_;rw[a8,bT];cases dS x.2<;>simp<;>omega
theorem fg.jl{t:Ad}{H:Hp}{r:Addr}{A:RA}{ln:Nat}{is js:θ}{g:Sz43.Got}(D:fg t H r A ln is js g):js.length<=1000:=by have h1:js.length=(cD g.items).length:=bt D.yE;have h2:=M6 g.items 0;have h3:=D.dk;unfold cD at h1;omega
inductive M7(t:Ad)(vs:ε)(H:Hp)(Q:VK)(E:XK):Prop
 |mk (r:Addr) (A:RA) (ln:Nat) (is js:θ) (g:Sz43.Got) (p:Addr) (w:ψ):vs=[.ref r,.ref p]->fg t H r A ln is js g->H p=some (.tup (iw w))->w≠[]->g.labels.length<=1000000->(((isName w=false\/(Sz43.place g.labels w).isSome=true)->∀H',E (.int (ln:Int) 0) none H'))->((¬(isName w=false\/(Sz43.place g.labels w).isSome=true)->∀H',fg t H' r A ln is js {g with labels:=g.labels++[(w,g.items.length)]}->a6 r A H H'->Q .aw H'))->M7 t vs H Q E
inductive M8(t:Ad)(vs:ε)(H:Hp)(Q:VK)(E:XK):Prop
 |mk (r:Addr) (A:RA) (ln:Nat) (is js:θ) (g:Sz43.Got) (q:Addr) (ws:ξ):vs=[.ref r,.ref q]->fg t H r A ln is js g->b9 H q ws->q≠A.li->q≠A.ju->((∀w∈ws,w≠[]))->ws≠[]->¬(ws.length=2/\ws.getD 0 []=ascii "label")->((Sz43.put g ln ws=none->∀H',E (.int (ln:Int) 0) none H'))->((∀g',Sz43.put g ln ws=some g'->∀is' js' H',fg t H' r A ln is' js' g'->a6 r A H H'->Q .aw H'))->M8 t vs H Q E
inductive M9(t:Ad)(vs:ε)(H:Hp)(Q:VK)(E:XK):Prop
 |mk (r:Addr) (A:RA) (ln:Nat) (is js:θ) (g:Sz43.Got) (q:Addr) (ws:ξ):vs=[.ref r,.ref q]->fg t H r A ln is js g->b9 H q ws->q≠A.li->q≠A.ju->((∀w∈ws,w≠[]))->g.labels.length<=1000000->((Sz43.put g (ln+1) ws=none->∀H',E (.int ((ln+1:Nat):Int) 0) none H'))->((∀g',Sz43.put g (ln+1) ws=some g'->∀is' js' H',fg t H' r A (ln+1) is' js' g'->a6 r A H H'->Q .aw H'))->M9 t vs H Q E
section
variable{t:Ad}{H H':Hp}{r:Addr}{A:RA}{ln ln':Nat}{is js:θ}{g:Sz43.Got}{vars:ξ}{labs:List (List Nat×Nat)}{is' js':θ}
theorem fg.yF(D:fg t H r A ln is js g)(k:a6 r A H H'):Paired (λa x=>dF t H' a (jY g.vars x.2) .aw) is g.items:=Paired.mapM D.ins λa x ha h=>h.mono (λ_ _ e=>D.raw.jD k e) λ_ _ _ e=>D.raw.Du k e (D.nr a ha)
theorem fg.yG(D:fg t H r A ln is js g)(k:a6 r A H H'):Paired (λj x=>yD H' is j x) js (cD g.items):=Paired.cR D.yE λj x ⟨a,p,h1,h2,h3⟩=>⟨a,p,h1,D.raw.jD k h2,D.raw.jD k h3⟩
theorem fg.same(D:fg t H r A ln is js g)(s:ae H H'):fg t H' r A ln is js g:=⟨D.raw.same s,D.yF (a6.same s),D.yG (a6.same s),D.nd,D.nr,D.mem,D.dk,D.dH⟩
end
variable{P:Program}{w:World}{K:ax}{mg:τ}{base:Heap}{t:Ad}
theorem XE(T:Txt K mg t):aE P w K mg base (dZ P w t.jC) 4 t.BX t.Kz ["self","word"] (M7 t):=by
 refine T.C3.mh ["self","word"] λH Q hr h nd=>?_
 obtain⟨r,Ad,ln,is,js,g,p,u,rfl,D,hp,hn,hl,kE,k⟩:=h;have hr2:=hr.mono (show 2<=3 by decide);have hu:=ky hr;refine⟨_,ak (aP (PW.pt (lR (ox (jv (pC (Dm T) hr T.x6 T.ud (aa (pv 1) ag)))) (lQ (cG (wX hu (pv 1) (aA (pv 0))))))) (aq (m7 T.xc (nG T) (cb T.kI) hr2 rfl rfl rfl rfl T.kK (aA (pv 0)))) aR)
  (aq (wY hu (aA (pv 0)) (pv 1) (b8 c_ rfl T.cS c8 (aa (aA (pv 0)) ag)) rfl)),?_⟩
 refine⟨_,rfl,p,u,rfl,hp,hn,λH1 s1=>⟨_,rfl,?_⟩⟩;have D1:=D.same s1;have R1:=D1.raw;have hp1:=s1 _ _ hp;have hk1:H1 p=some (.tup ((kw u).map kV)):=by rw[rg];exact hp1
 refine cN (λc1=>?_) (λc1=>?_)
 ·exact aD ⟨_,rfl,r,_,_,_,_,rfl,R1.ob,T.bA,T.i9,kP,_,rfl,kE (.inl (by simpa using c1)) H1⟩
 have nm:¬isName u=false:=by intro z;rw[z]at c1;exact c1 rfl
 refine⟨_,rfl,_,rfl,r,_,_,_,_,rfl,R1.ob,T.bA,T.rF,yx,_,_,rfl,dj.t R1.cU hk1,_,rfl,?_⟩;rw[uB];cases hf:Sz43.place g.labels u with
 |some i=>exact aD ⟨_,rfl,r,_,_,_,_,rfl,R1.ob,T.bA,T.i9,kP,_,rfl,kE (.inr (by rw[hf];rfl)) H1⟩
 |none=>
  refine az ?_;have Dw:bR (kQ g.labels) (kw u)=none:=by rw[uB,hf];rfl
  refine⟨_,rfl,r,_,_,_,_,rfl,R1.ob,T.bA,T.rE,yw,_,_,rfl,.inl (aj.of R1.lst),_,rfl,r,_,_,_,_,rfl,R1.ob,T.bA,T.rF,yx,_,rfl,_,_,rfl,ku.t R1.cU hk1 (by rw[Xp,aZ];omega),?_⟩;have le:((is.map V.ref).length:Int)=((g.items.length:Nat):Int):=by rw[aI,bt D.ins]
  rw[MP Dw,le,<-Xo];have n1:r≠Ad.la:=bg R1.ob R1.cU;have kp:a6 r Ad H1 (upd H1 Ad.la (.dT (kQ (g.labels++[(u,g.items.length)])))):=λb o e _ _ _ n _=>by rw[ay n];exact e
  have R2:Raw t (upd H1 Ad.la (.dT (kQ (g.labels++[(u,g.items.length)])))) r Ad ln is g.vars (g.labels++[(u,g.items.length)]) js:=⟨by rw[ay n1];exact R1.ob,by rw[ay (bg R1.lst R1.cU)];exact R1.lst,by rw[ay R1.ml];exact R1.var,au,by rw[ay (bg R1.dG R1.cU)];exact R1.dG,R1.mj,R1.ml⟩;refine k ?_ _ ⟨R2,D1.yF kp,D1.yG kp,D1.nd,D1.nr,D1.mem,D1.dk,D1.dH⟩ ((a6.same s1).trans kp)
  rintro(z |z)
  ·exact nm z
  ·rw[hf]at z;cases z
theorem XF(T:Txt K mg t):aE P w K mg base (dZ P w t.jC) 7 t.BZ t.KA ["self","words"] (M8 t):=by
 refine T.C4.mh ["self","words"] λH Q hr h nd=>?_
 obtain⟨r,Ad,ln,is,js,g,q,ws,rfl,D,hL,eQ,eU,hne,hn,hnl,kE,k⟩:=h;have hr2:=hr.mono (show 2<=6 by decide);have R:=D.raw;rw[M3 hn hnl]at kE k;refine⟨_,ak (aP (aQ bB (b8 c_ rfl T.cS c8 (aa (aA (pv 0)) ag)) (cJ T.L7 rfl)) (aq (m7 T.xc (nG T) (cb T.kI) hr2 rfl rfl rfl rfl T.kK (aA (pv 0)))) aR)
  (aq (eA (gq fv jL jM i6 (aA (pv 0)) (aa (iY (pv 0) T.bA T.LF (XA T) hr (cb T.C5) .nil (gW rfl rfl) (aa (pv 1) ag)) ag)))),?_⟩
 dsimp only[bI,Cx.c9];have li:is.length=g.items.length:=bt D.ins;refine⟨_,rfl,r,_,_,_,_,rfl,R.ob,T.bA,T.rE,yw,_,_,rfl,.inl (aj.of R.lst),rfl,_,rfl,?_⟩;rw[aI,li,show(V.int 256)=V.int ((256:Nat):Int) from rfl,dU];by_cases h256:g.items.length=256
 ·rw[bj h256];refine aD ⟨_,rfl,r,_,_,_,_,rfl,R.ob,T.bA,T.i9,kP,_,rfl,kE ?_ H⟩;cases Sz43.lineOf ws with
  |none=>rfl
  |some x=>exact ah (.inl (by omega))
 rw[aW h256];refine az ?_;have lt:¬256<=g.items.length:=by have:=D.dk;omega
 have eM:=Xc D.dH ws hnl;refine⟨_,rfl,r,_,_,_,_,rfl,R.ob,T.bA,T.rE,yw,.inl ⟨rfl,_,aj.of R.lst⟩,_,rfl,r,_,_,rfl,R.ob,Xj,_,rfl,r,Ad,ln,is,g.vars,g.labels,js,q,ws,rfl,R,hL,eQ,eU,hne,D.dH,D.jl,λe=>?_,λx ex a js' H1 R1 k1 f1 i1 j1=>?_⟩
 ·refine kE ?_;rw[eM]at e;unfold pN at e;cases hx:Sz43.lineOf ws with
  |none=>rfl
  |some x=>
   rw[hx]at e;have e:(if 64<((varsOf x).foldl aO g.vars).length then none else some (insOf ⟨[],[],(varsOf x).foldl aO g.vars⟩ x,(varsOf x).foldl aO g.vars,dS x))=none:=e;split at e
   ·rename_i z
    exact ah (.inr z)
   ·cases e
 ·refine⟨_,_,_,rfl,rfl,R1.lst,(by rw[aI,aZ];have:=D.dk;omega),?_⟩;rw[eM]at ex;unfold pN at ex;cases hx:Sz43.lineOf ws with
  |none=>rw[hx]at ex;cases ex
  |some y=>
   rw[hx]at ex k;have ex:(if 64<((varsOf y).foldl aO g.vars).length then none else some (insOf ⟨[],[],(varsOf y).foldl aO g.vars⟩ y,(varsOf y).foldl aO g.vars,dS y))=some x:=ex;split at ex
   ·cases ex
   rename_i dH
   cases ex;have k:=k _ (af (by rintro(z |z)<;>omega));have na:a ∉ is:=λz=>by obtain⟨b,dx,u,op,h1,_⟩:=yo D.ins z;rw[f1]at h1;cases h1
   have nr:a≠r:=(aH R.ob f1).symm;have nal:a≠Ad.li:=(aH R.lst f1).symm;have kp:a6 r Ad H1 (upd H1 Ad.li (.lst (is.map V.ref++[.ref a]))):=λb o e _ n _ _ _=>by rw[ay n];exact e
   have R2:Raw t (upd H1 Ad.li (.lst (is.map V.ref++[.ref a]))) r Ad ln (is++[a]) ((varsOf y).foldl aO g.vars) g.labels js':=⟨by rw[ay (bg R1.ob R1.lst)];exact R1.ob,by rw[au,dA];rfl,by rw[ay (bg R1.var R1.lst)];exact R1.var,by rw[ay (bg R1.cU R1.lst)];exact R1.cU,by rw[ay R1.mj.symm];exact R1.dG,R1.mj,R1.ml⟩;have k2:=k1.trans kp;obtain⟨m,em⟩:=yp (varsOf y) g.vars;refine k (is++[a]) js' _ ⟨R2,?_,?_,?_,?_,?_,?_,?_⟩ k2
   ·refine Paired.app ?_ (.cons ?_ .nil)
    ·refine Paired.M5 (D.yF k2) λb x hx h=>?_
     show dF t _ b (jY ((varsOf y).foldl aO g.vars) x.2) .aw;rw[em,XD (D.mem x hx)];exact h
    ·exact i1.mono (λ_ _ e=>R1.jD kp e) λ_ _ _ e=>by rw[ay nal];exact e
   ·show Paired _ js' (cD (g.items++[(ln,y)]));rw[XB];have old:Paired (λj x=>yD (upd H1 Ad.li (.lst (is.map V.ref++[.ref a]))) (is++[a]) j x) js (cD g.items):=Paired.cR (D.yG k2) λj x ⟨b,p,h1,h2,h3⟩=>⟨b,p,by rw[Fw (bN.mp h1).1];exact h1,h2,h3⟩
    have j1:MZ H H1 ln a js js' (dS y):=j1;show Paired _ js' (cD g.items++(match dS y with |some n=>[(g.items.length,n,ln)] |none=>[]));cases hl:dS y with
    |none=>rw[hl]at j1;have e:js'=js:=j1;rw[e,ie];exact old
    |some n=>rw[hl]at j1;obtain⟨j,p,e,h1,h2⟩:=j1;rw[e];refine Paired.app old (.cons ⟨a,p,?_,R1.jD kp h1,R1.jD kp h2⟩ .nil);show(is++[a])[g.items.length]? =some a;rw[<-li];simp
   ·rw[vZ];exact⟨D.nd,by simp,λx hx y hy=>by
     have:y=a:=by simpa using hy
     rw[this];exact λz=>na (z▸hx)⟩
   ·intro b hb;rcases bL.mp hb with hb |hb
    ·exact D.nr b hb
    ·have:b=a:=by simpa using hb
     rw[this];exact nr
   ·intro x hx n hnn;show n∈(varsOf y).foldl aO g.vars;rcases bL.mp hx with hx |hx
    ·exact yq (D.mem x hx n hnn)
    ·have:x=(ln,y):=by simpa using hx
     rw[this]at hnn;exact M2 hnn
   ·show(g.items++[(ln,y)]).length<=256;rw[a8,cE];omega
   ·show((varsOf y).foldl aO g.vars).length<=64;omega
end My
namespace My
open Sz43
theorem M_:∀(items:List (Nat×Line))(i m idx k:Nat)(n:Bytes),(f7 i items)[m]? =some (idx,n,k)->i<=idx/\∃line,items[idx-i]? =some (k,line)/\dS line=some n
 |[],_,_,_,_,_,h=>by simp[f7]at h
 |x::r,i,m,idx,k,n,h=>by
  have later:∀m',(f7 (i+1) r)[m']? =some (idx,n,k)->i<=idx/\∃line,(x::r)[idx-i]? =some (k,line)/\dS line=some n:=λm' h=>by
   obtain⟨h1,line,h2,h3⟩:=M_ r (i+1) m' idx k n h;refine⟨by omega,line,?_,h3⟩;have e:idx-i=(idx-(i+1))+1:=by omega
   rw[e,F0];exact h2
  unfold f7 at h;cases hl:dS x.2 with
  |none=>rw[hl]at h;exact later m h
  |some n'=>
   rw[hl]at h;cases m with
   |zero=>
    have h:(i,n',x.1)=(idx,n,k):=b_ h;injection h with h1 h2
    injection h2 with h2 h3
    subst h1 h2 h3;exact⟨aJ _,x.2,by simp,hl⟩
   |succ m=>exact later m h
theorem Na:∀(items:List (Nat×Line))(i idx:Nat)(x:Nat×Line)(n:Bytes),items[idx]? =some x->dS x.2=some n->i+idx∈(f7 i items).map (·.1)
 |[],_,_,_,_,h,_=>by simp at h
 |y::r,i,idx,x,n,h,hl=>by
  unfold f7;rw[dA,bL];cases idx with
  |zero=>
   have h:y=x:=by simpa using h
   subst h;rw[hl];exact .inl (by simp)
  |succ idx=>
   have:=Na r (i+1) idx x n (by simpa using h) hl;refine .inr ?_;have e:i+(idx+1)=i+1+idx:=by omega
   rw[e];exact this
theorem Nb(g:Got):∀(items:List (Nat×Line))(i:Nat),((f7 i items).find? λx=>(place g.labels x.2.1).isNone).map (λx=>x.2.2)=(items.find? λx=>gone g x.2).map (λx=>x.1)
 |[],_=>rfl
 |y::r,i=>by
  have ih:=Nb g r (i+1);unfold f7;rw[List.find?_append,lE];have go:gone g y.2=match dS y.2 with |some n=>(place g.labels n).isNone |none=>false:=by cases y.2<;>rfl
  rw[go];cases hl:dS y.2 with
  |none=>simpa using ih
  |some n=>
   cases hp:(place g.labels n).isNone with
   |true=>simp[hp]
   |false=>simpa[hp]using ih
end My
namespace My
open PySem L2
def kT:Ins->V
 | .goto u=>.int (u:Int)
 | .cond _ u=>.int (u:Int)
 |_=>.aw
theorem XG{t:Ad}{H:Hp}{a:Addr}{g:Sz43.Got}{x:Sz43.Line}{pl:V}(h:dF t H a (jY g.vars x) pl):dF t H a (insOf g x) pl:=by cases x<;>exact h
def mm(g:Sz43.Got)(m idx:Nat)(x:Sz43.Line):V:=match dS x with
 |none=>.aw
 |some n=>if idx∈((cD g.items).take m).map (·.1)then .int (((Sz43.place g.labels n).getD 0:Nat):Int)else .aw
inductive Nc(t:Ad)(vs:ε)(H:Hp)(Q:VK)(E:XK):Prop
 |mk (r:Addr) (A:RA) (ln:Nat) (is js:θ) (g:Sz43.Got):vs=[.ref r]->fg t H r A ln is js g->((∀x,((cD g.items).find? λx=>(Sz43.place g.labels x.2.1).isNone)=some x->∀H',E (.int (x.2.2:Int) 0) none H'))->((((cD g.items).find? λx=>(Sz43.place g.labels x.2.1).isNone)=none->∀H',Raw t H' r A ln is g.vars g.labels js->Paired (λa x=>dF t H' a (insOf g x.2) (kT (insOf g x.2))) is g.items->Q .aw H'))->Nc t vs H Q E
theorem Nd{α β:Type}{F:α->β->Prop}:∀{l₁:List α}{l₂:List β},l₁.length=l₂.length->(∀(i:Nat) a b,l₁[i]? =some a->l₂[i]? =some b->F a b)->Paired F l₁ l₂
 |[],[],_,_=>.nil
 |a::l₁,b::l₂,h,f=>.cons (f 0 a b rfl rfl) (Nd (by simpa using h) λi x y h1 h2=>f (i+1) x y (by simpa using h1) (by simpa using h2))
theorem cp{α β:Type}{F:α->β->Prop}:∀{l₁:List α}{l₂:List β}{i:Nat}{a:α}{b:β},Paired F l₁ l₂->l₁[i]? =some a->l₂[i]? =some b->F a b
 |_,_,_,_,_,.nil,h,_=>by simp at h
 |_,_,0,_,_,.cons r _,h1,h2=>by simp at h1 h2;subst h1 h2;exact r
 |_,_,i+1,_,_,.cons _ t,h1,h2=>cp (i:=i) t (by simpa using h1) (by simpa using h2)
theorem Nf{α:Type}{p:α->Bool}:∀{l:List α}{m:Nat}{x:α},l[m]? =some x->p x=true->(∀y∈l.take m,p y=false)->l.find? p=some x
 |[],_,_,h,_,_=>by simp at h
 |a::l,0,x,h,hp,_=>by
  have:a=x:=by simpa using h
  subst this;rw[lE,hp]
 |a::l,m+1,x,h,hp,k=>by rw[lE,k a (by simp)];exact Nf (m:=m) (by simpa using h) hp λy hy=>k y (by simp[hy])
theorem XH{α:Type}{p:α->Bool}{l:List α}(k:∀y∈l,p y=false):l.find? p=none:=by
 rw[Rp];intro y hy;rw[k y hy]
 decide
variable{P:Program}{w:World}{K:ax}{mg:τ}{base:Heap}{t:Ad}
theorem XM(T:Txt K mg t):aE P w K mg base (dZ P w t.jC) 8 t.BW t.Ky ["self","words"] (M9 t):=by
 refine T.C2.mh ["self","words"] λH Q hr h nd=>?_
 obtain⟨r,Ad,ln,is,js,g,q,ws,rfl,D,hL,eQ,eU,hne,hl,kE,k⟩:=h;have hr1:=hr.mono (show 1<=7 by decide);have iC:=hr.mono (show 4<=7 by decide);have R:=D.raw;refine⟨_,ak (fR (pv 0) (bG iq (aA (pv 0)) aF) rfl)
  (ak (aP (aQ bB (b8 c_ rfl T.cS c8 (aa (pv 1) ag)) aF) (aq Sj) aR)
  (aq (aP (PW.pt (jw (aQ bB (b8 c_ rfl T.cS c8 (aa (pv 1) ag)) aF) (jP (aQ (jT hr.units) (aU bc (pv 1) aF) (pC (fF T) hr1 T.fe T.eF (aa bq ag)))))) (aq (eA (iY (pv 0) T.bA T.LC (XE T) iC (cb T.C3) .nil (gW rfl rfl) (aa (aU bc (pv 1) aF) ag)))) (aq (eA (iY (pv 0) T.bA T.LD (XF T) hr (cb T.C4) .nil (gW rfl rfl) (aa (pv 1) ag))))))),?_⟩
 dsimp only[bI,Cx.c9];refine⟨_,rfl,r,_,_,_,_,rfl,R.ob,T.bA,T.i9,kP,_,_,rfl,rfl,_,rfl,r,_,_,_,rfl,R.ob,T.bA,T.i9,(by show 5<1000;decide),?_⟩;have eln:V.int ((ln:Int)+1)=V.int ((ln+1:Nat):Int):=by rw[Rq];rfl
 rw[Xf,eln];obtain⟨H1,f9⟩:∃H1,H1=upd H r (.ins t.fc Ad.dx (fZ (.int ((ln+1:Nat):Int)) (.ref Ad.li) (.ref Ad.va) (.ref Ad.la) (.ref Ad.ju))):=⟨_,rfl⟩;rw[<-f9];have k1:a6 r Ad H H1:=λb o e n _ _ _ _=>by rw[f9,ay n];exact e
 have up:∀b o,H b=some o->b≠r->H1 b=some o:=λb o e n=>by rw[f9,ay n];exact e
 have R1:Raw t H1 r Ad (ln+1) is g.vars g.labels js:=⟨by rw[f9];exact au,up _ _ R.lst (bg R.lst R.ob),up _ _ R.var (bg R.var R.ob),up _ _ R.cU (bg R.cU R.ob),up _ _ R.dG (bg R.dG R.ob),R.mj,R.ml⟩;have D1:fg t H1 r Ad (ln+1) is js g:=⟨R1,D.yF k1,D.yG k1,D.nd,D.nr,D.mem,D.dk,D.dH⟩;have L1:=R.g8 k1 hL eQ eU;obtain⟨rs1,hq1,Dx,yA⟩:=jc L1;have pV:(rs1.map V.ref).length=ws.length:=by rw[aI,Dx]
 refine⟨_,rfl,q,_,rfl,.inl (aj.of hq1),rfl,_,rfl,?_⟩;rw[pV,show(V.int 0)=V.int ((0:Nat):Int) from rfl,dU];by_cases h0:ws.length=0
 ·rw[bj h0];refine aD ?_;have e:ws=[]:=List.length_eq_zero_iff.mp h0;refine k g ?_ is js H1 D1 k1;unfold Sz43.put;rw[ah e]
 rw[aW h0];refine az ?_;have hn:ws≠[]:=λz=>h0 (by rw[z];rfl)
 refine⟨_,rfl,q,_,rfl,.inl (aj.of hq1),rfl,_,rfl,?_⟩;rw[pV];refine pX (ae H1) (decide (ws.length=2/\ws.getD 0 []=ascii "label")) (λc kk=>?_) (λc=>⟨?_,ae.refl H1⟩) λH2 s2=>?_
 ·have c:=jr ((dU ws.length 2).symm.trans c);refine pY (i:=0) (x:="label") rfl L1 (by omega) (by decide+kernel) (ascii "label") (by decide+kernel) λH' s'=>?_
  have e:decide (ws.length=2/\ws.getD 0 []=ascii "label")=decide (ws.getD 0 []=ascii "label"):=mL.mpr ⟨λz=>z.2,λz=>⟨by omega,z⟩⟩;rw[<-e];exact kk H' s'
 ·have c:=ki ((dU ws.length 2).symm.trans c);exact aW λz=>c z.1
 have D2:=D1.same s2;have L2:=R1.g8 (a6.same s2) L1 eQ eU;obtain⟨Dy,hq2,Dz,pW⟩:=jc L2;have k2:a6 r Ad H H2:=k1.trans (a6.same s2);by_cases t1:ws.length=2/\ws.getD 0 []=ascii "label"
 ·rw[bj t1];refine aD ?_;obtain⟨p1,i1,hp1⟩:=pW 1 (by omega);have ew:ws=[ascii "label",ws.getD 1 []]:=by
   obtain⟨l2,e⟩:=t1
   match ws,l2,e with
   |[a,b],_,e=>have e:a=ascii "label":=e;rw[e];rfl
  rw[ew,M4]at kE k;refine⟨_,rfl,r,_,_,rfl,D2.raw.ob,Xh,_,rfl,q,_,_,_,rfl,rfl,aj.of hq2,aY i1,r,Ad,ln+1,is,js,g,p1,_,rfl,D2,hp1,kS hne (by omega),hl,λe=>kE (ah e),λe H3 D3 k3=>?_⟩;exact k _ (af e) is js H3 D3 (k2.trans k3)
 ·rw[aW t1];refine az ⟨_,rfl,r,_,_,rfl,D2.raw.ob,Xi,_,rfl,r,Ad,ln+1,is,js,g,q,ws,rfl,D2,L2,eQ,eU,hne,hn,t1,kE,λg' e is' js' H3 D3 k3=>?_⟩;exact k g' e is' js' H3 D3 (k2.trans k3)
theorem XN(T:Txt K mg t):aE P w K mg base (dZ P w t.jC) 3 t.B4 t.KH ["self"] (Nc t):=by
 refine T.C8.mh ["self","instruction","label","line"] λH Q hr h nd=>?_
 obtain⟨r,Ad,ln,is,js,g,rfl,D,kE,k⟩:=h;have hu:=ky hr;refine⟨_,aq (gP (Im rfl rfl rfl) rfl (gO (aA (pv 0))) (mU rfl (fQ (bD 1 nd) (fQ (bD 2 nd) (fQ (bD 3 nd) mT))))
  (ak (aP (cG (AO hu (pv 2) (aA (pv 0)))) (aq (m7 T.xc (nG T) (cb T.kI) hr rfl rfl rfl rfl T.kK (pv 3))) aR)
  (aq (fR (pv 1) (tQ hu (aA (pv 0)) (pv 2) (λ_ _=>rfl)) rfl)))),?_⟩
 dsimp only[bI,Cx.c9];have R:=D.raw;have li:is.length=g.items.length:=bt D.ins;have lj:js.length=(cD g.items).length:=bt D.yE;refine⟨_,rfl,r,_,_,_,_,rfl,R.ob,T.bA,T.yg,MK,Ad.ju,rfl,⟨_,aj.of R.dG⟩,lU (K:=K) (a:=Ad.ju) (xs:=js.map V.ref) (λm σ Hh=>∃v1 v2 v3,σ=[χ r,v1,v2,v3]/\Raw t Hh r Ad ln is g.vars g.labels js/\Paired (λj x=>yD Hh is j x) js (cD g.items)/\
  (∀y∈(cD g.items).take m,(Sz43.place g.labels y.2.1).isNone=false)/\∀(idx:Nat) a x,is[idx]? =some a->g.items[idx]? =some x->dF t Hh a (jY g.vars x.2) (mm g m idx x.2)) ?_ (λi σ Hh _ ⟨_,_,_,_,R,_⟩=>aj.of R.dG) ?_ ?_⟩
 ·refine⟨none,none,none,rfl,R,D.yE,λy hy=>absurd hy (by simp),λidx a x h1 h2=>?_⟩;have:=cp D.ins h1 h2;unfold mm;cases dS x.2<;>simpa using this
 ·rintro m y σ Hh hy ⟨v1,v2,v3,rfl,R1,J1,pl,I1⟩
  rw[bC]at hy;obtain⟨j,hj,rfl⟩:=cF.mp hy;have hm:m<(cD g.items).length:=by have:=(bN.mp hj).1;omega
  obtain⟨⟨idx,n,kk⟩,hx⟩:∃x,(cD g.items)[m]? =some x:=⟨_,aL hm⟩;obtain⟨a,p,h1,h2,h3⟩:=cp J1 hj hx;have h1:is[idx]? =some a:=h1;have h2:Hh j=some (.tup [.ref a,.ref p,.int (kk:Int)]):=h2;have h3:Hh p=some (.tup (iw n)):=h3;obtain⟨_,line,hi,hlb⟩:=M_ g.items 0 m idx kk n hx;rw[Nat.sub_zero]at hi;have hk:Hh p=some (.tup ((kw n).map kV)):=by rw[rg];exact h3
  refine⟨j,_,rfl,aV.of h2,rfl,_,_,rfl,_,_,rfl,_,_,rfl,rfl,?_⟩;refine⟨_,rfl,_,rfl,r,_,_,_,_,rfl,R1.ob,T.bA,T.rF,yx,_,_,rfl,dj.t R1.cU hk,_,rfl,?_⟩;rw[uB];cases hp:Sz43.place g.labels n with
  |none=>refine aD ⟨_,rfl,_,rfl,kE (idx,n,kk) (Nf hx (by show(Sz43.place g.labels n).isNone=true;rw[hp];rfl) pl) Hh⟩
  |some u=>
   refine az ?_;obtain⟨dx,us,op,ha,hus,hop⟩:=I1 idx a _ h1 hi;have ar:a≠r:=D.nr a (br h1);refine⟨_,rfl,r,_,_,_,_,rfl,R1.ob,T.bA,T.rF,yx,_,rfl,_,.int (u:Int),rfl,?_,_,rfl,a,_,dx,_,rfl,ha,T.cI,T.eJ,qI (Xd _ _ _ _ _ _) (by decide),?_⟩
   ·have:=dj.t R1.cU hk;rw[uB,hp]at this;exact this
   rw[Xe];have tp:∀b xs,Hh b=some (.tup xs)->(upd Hh a (.ins t.i8 dx (ff (Q3 (jY g.vars line)) (.ref us) (df (jY g.vars line)) (MM (jY g.vars line)) op (.int (u:Int))))) b=some (.tup xs):=λb xs e=>by rw[ay (bg e ha)];exact e
   refine⟨_,_,_,rfl,⟨by rw[ay ar.symm];exact R1.ob,by rw[ay (bg R1.lst ha)];exact R1.lst,by rw[ay (bg R1.var ha)];exact R1.var,by rw[ay (bg R1.cU ha)];exact R1.cU,by rw[ay (bg R1.dG ha)];exact R1.dG,R1.mj,R1.ml⟩,Paired.cR J1 λj x ⟨b,q,z1,z2,z3⟩=>⟨b,q,z1,tp _ _ z2,tp _ _ z3⟩,?_,?_⟩
   ·intro y hy;rw[iO,hx]at hy;rcases bL.mp hy with hy |hy
    ·exact pl y hy
    ·have:y=(idx,n,kk):=by simpa using hy
     rw[this];show(Sz43.place g.labels n).isNone=false;rw[hp];rfl
   ·intro i' a' x' e1 e2;by_cases hii:i'=idx
    ·subst hii;rw[h1]at e1;rw[hi]at e2;cases e1;cases e2;refine⟨dx,us,op,?_,tp _ _ hus,hop.mono tp⟩;rw[au];have ep:mm g (m+1) i' line=.int (u:Int):=by
      unfold mm;rw[hlb];show(if i'∈_ then V.int (((Sz43.place g.labels n).getD 0:Nat):Int)else V.aw)=_;rw[ah,hp]
      ·rfl
      ·rw[iO,hx,dA];exact jI _ (by simp)
     rw[ep]
    ·have na:a'≠a:=λz=>hii (by
      rw[z]at e1;obtain⟨q1,w1⟩:=bN.mp e1;obtain⟨q2,w2⟩:=bN.mp h1;exact(Q7 D.nd).mp (w1.trans w2.symm))
     have ep:mm g (m+1) i' x'.2=mm g m i' x'.2:=by
      unfold mm;cases dS x'.2 with
      |none=>rfl
      |some n'=>
       show(if i'∈_ then V.int _ else V.aw)=(if i'∈_ then V.int _ else V.aw);rw[iO,hx,dA];have:(i'∈((cD g.items).take m).map (·.1)++((some (idx,n,kk)).toList).map (·.1)) ↔ (i'∈((cD g.items).take m).map (·.1)):=by
        rw[bL];constructor
        ·rintro(z |z)
         ·exact z
         ·have:i'=idx:=by simpa using z
          exact absurd this hii
        ·exact .inl
       simp only[this]
     rw[ep];exact(I1 i' a' x' e1 e2).mono tp λ_ _ _ e=>by rw[ay na];exact e
 ·rintro σ Hh ⟨v1,v2,v3,rfl,R1,J1,pl,I1⟩
  rw[aI,lj,kh]at pl;refine k (XH pl) Hh R1 (Nd li λi a x e1 e2=>?_);have:=I1 i a x e1 e2;rw[aI,lj]at this;have ep:mm g (cD g.items).length i x.2=kT (insOf g x.2):=by
   have hm:=λn hn=>Na g.items 0 i x n e2 hn
   rw[og]at hm;unfold mm;rw[kh];cases hx:x.2 with
   |goto n=>rw[hx]at hm;show(if i∈(cD g.items).map (·.1)then V.int (((Sz43.place g.labels n).getD 0:Nat):Int)else V.aw)=V.int (((Sz43.place g.labels n).getD 0:Nat):Int);rw[ah];exact hm n rfl
   |cond b n=>rw[hx]at hm;show(if i∈(cD g.items).map (·.1)then V.int (((Sz43.place g.labels n).getD 0:Nat):Int)else V.aw)=V.int (((Sz43.place g.labels n).getD 0:Nat):Int);rw[ah];exact hm n rfl
   |_=>rfl
  rw[ep]at this;exact XG this
end My
namespace My
open Sz43
theorem Ng(f:Nat->Bool):∀t,(parted f t).length<=t.length+1
 |[]=>aJ _
 |c::r=>by
  have ih:=Ng f r;obtain⟨l,m,e⟩:=pK f r;rw[e]at ih;cases h:f c with
  |true=>rw[Dq h,e];simp only[bT]at*;omega
  |false=>rw[Dr h e];simp only[bT]at*;omega
theorem XO{g g':Got}{k:Nat}{ws:ζ}(h:put g k ws=some g'):g'.labels.length<=g.labels.length+1:=by
 unfold put at h;split at h
 ·cases h;omega
 ·split at h
  ·cases h
  ·split at h
   ·cases h
   ·cases h;simp
  ·dsimp only at h;split at h
   ·cases h
   ·cases h;simp
theorem Nh{g:Got}{k:Nat}{ws:ζ}{r:List (List Bytes)}:puts g k (ws::r)=match put g k ws with
  |some h=>puts h (k+1) r
  |none=>.error k:=rfl
theorem Q4(t:Bytes):parse t=match puts ⟨[],[],[]⟩ 1 ((parted (λ(c:Nat)=>c==10) t).map words)with
 | .error k=>.error k
 | .ok g=>match (cD g.items).find? (λx=>(place g.labels x.2.1).isNone)with
  |some x=>.error x.2.2
  |none=>.ok ⟨g.vars,g.items.map λ(x:Nat×Line)=>insOf g x.2⟩:=by
 unfold parse;cases puts ⟨[],[],[]⟩ 1 ((parted (λ(c:Nat)=>c==10) t).map words)with
 |error k=>rfl
 |ok g=>
  have h:=Nb g g.items 0;show(match g.items.find? λx=>gone g x.2 with |some x=>_ |none=>_)=(match (cD g.items).find? (λx=>(place g.labels x.2.1).isNone)with |some x=>_ |none=>_);unfold cD;cases h1:(f7 0 g.items).find? (λx=>(place g.labels x.2.1).isNone)with
  |none=>
   rw[h1]at h;cases h2:g.items.find? (λx=>gone g x.2)with
   |none=>rfl
   |some y=>rw[h2]at h;cases h
  |some x=>
   rw[h1]at h;cases h2:g.items.find? (λx=>gone g x.2)with
   |none=>rw[h2]at h;cases h
   |some y=>rw[h2]at h;have h:x.2.2=y.1:=b_ h;show Except.error y.1=Except.error x.2.2;rw[h]
end My
namespace L2
open PySem PySem.Spec PyProof.Rows
def NL(H H':Hp):Prop:=∀b o,H b=some o->(∀xs,o≠ .lst xs)->H' b=some o
theorem ae.nl{H H':Hp}(s:ae H H'):NL H H':=λb o e _=>s b o e
theorem NL.rQ{H:Hp}{D:Addr}{xs:ε}{o:HO}(h:H D=some (.lst xs)):NL H (upd H D o):=λb u e n=>by rw[ay (bg e h (n xs))];exact e
theorem DC{J:It}{g:TG}{tt:TT}{te:TE}{vs:ψ}{σ:St}{H1:Hp}{Q:Hp->Prop}{D:Addr}(N:Nat)(kp:Nat->Bool)(R:Nat->V->Hp->Prop)(hD:H1 D=none)(hn:N<=sizeLine) (hR:∀i y H H',R i y H->NL H H'->R i y H')(hstop:∀H,ae H1 H->J.stop N H) (hs:∀i H,i<N->ae H1 H->J.go i H/\∀x H',J.gN i H x H'->∀(A:VK)(B:Hp->Prop),(kp i=true->∀y H4,ae H H4->R i y H4->A y H4)->(kp i=false->∀H3,ae H H3->B H3)->g x (a_ σ vs) H' λσ2 H2=>a_ σ2 vs=a_ σ vs/\tt σ2 H2 λb H3=>if b=true then te σ2 H3 A else B H3) (hd:∀ys H,ae H1 H->H D=some (.lst ys)->Paired (λi y=>R i y H) ((List.range N).filter kp) ys->Q H):∃W:Nat->Nat->Hp->Prop,(∃m,W 0 m (upd H1 D (.lst [])))/\∀i m H,W i m H->(J.stop i H/\Q H)\/(J.go i H/\∃Nx:Hp->Prop,(∀H',Nx H'->∃m',m'<m/\W (i+1) m' H')/\∀x H',J.gN i H x H'->g x (a_ σ vs) H' λσ2 H2=>a_ σ2 vs=a_ σ vs/\tt σ2 H2 λb H3=>if b=true then te σ2 H3 λy H4=>∃acc,H4 D=some (.lst acc)/\acc.length<sizeLine/\Nx (upd H4 D (.lst (acc++[y])))else Nx H3):=by
 let Pv:Nat->Hp->Prop:=λi H=>∃ys,H D=some (.lst ys)/\ae H1 H/\Paired (λx y=>R x y H) ((List.range i).filter kp) ys
 refine⟨λi m H=>m=N-i/\i<=N/\Pv i H,⟨_,rfl,bS _,[],au,ae.new hD,.nil⟩,?_⟩
 rintro i m H ⟨rfl,hi,ys,hy,sm,pr⟩
 by_cases hlt:i<N
 ·obtain⟨go,yl⟩:=hs i H hlt sm;have hl:ys.length<=i:=by
   rw[<-bt pr];refine bE (v_ _ _) ?_;rw[gJ];exact aJ _
  refine .inr ⟨go,Pv (i+1),λH' p=>⟨N-(i+1),by omega,rfl,hlt,p⟩,λx H' y=>yl x H' y _ _ (λk z H4 s4 r4=>?_) λk H3 s3=>?_⟩
  ·have u4:=NL.rQ (o:=.lst (ys++[z])) (s4 _ _ hy);refine⟨ys,s4 _ _ hy,by omega,ys++[z],au,(sm.trans s4).upd hD,?_⟩;rw[sQ,sR,qK,ah k];exact Paired.app (Paired.cR pr λa b r=>hR _ _ _ _ (hR _ _ _ _ r s4.nl) u4) (.cons (hR _ _ _ _ r4 u4) .nil)
  ·refine⟨ys,s3 _ _ hy,sm.trans s3,?_⟩;rw[sQ,sR,qK,af (by rw[k];decide),List.filter_nil,ie];exact Paired.cR pr λa b r=>hR _ _ _ _ r s3.nl
 ·have e:i=N:=by omega
  subst e;exact .inl ⟨hstop H sm,hd ys H sm hy pr⟩
section
variable{K:ax}{a b:Addr}{xs zs:ε}{j j1 j2:Nat}{tt:TT}{te:TE}{vs:ψ}{σ:St}{H1:Hp}{Q:Hp->Prop}{D:Addr}
theorem yH(kp:Nat->Bool)(R:Nat->V->Hp->Prop)(hD:H1 D=none)(hn:xs.length<=sizeLine)(ha:aj K H1 a xs)(hb:aj K H1 b zs)(hl:xs.length<=zs.length) (hR:∀i y H H',R i y H->NL H H'->R i y H')(hw:∀x y,a_ (((a_ σ vs).set j1 (some x)).set j2 (some y)) vs=a_ σ vs) (hs:∀i x z H,xs[i]? =some x->zs[i]? =some z->ae H1 H->∀(A:VK)(B:Hp->Prop),(kp i=true->∀y H4,ae H H4->R i y H4->A y H4)->(kp i=false->∀H3,ae H H3->B H3)->tt (((a_ σ vs).set j1 (some x)).set j2 (some z)) H λb H3=>if b=true then te (((a_ σ vs).set j1 (some x)).set j2 (some z)) H3 A else B H3) (hd:∀ys H,ae H1 H->H D=some (.lst ys)->Paired (λi y=>R i y H) ((List.range xs.length).filter kp) ys->Q H):∃W:Nat->Nat->Hp->Prop,(∃m,W 0 m (upd H1 D (.lst [])))/\∀i m H,W i m H->((tW K a b).stop i H/\Q H)\/((tW K a b).go i H/\∃Nx:Hp->Prop,(∀H',Nx H'->∃m',m'<m/\W (i+1) m' H')/\∀x H',(tW K a b).gN i H x H'->jQ K 2 (eC (cW j1) (eC (cW j2) kl)) x (a_ σ vs) H' λσ2 H2=>a_ σ2 vs=a_ σ vs/\tt σ2 H2 λb H3=>if b=true then te σ2 H3 λy H4=>∃acc,H4 D=some (.lst acc)/\acc.length<sizeLine/\Nx (upd H4 D (.lst (acc++[y])))else Nx H3):=by
 refine DC xs.length kp R hD hn hR (λH s=>⟨xs,zs,s.seq ha,s.seq hb,.inl (aJ _)⟩) (λi H hi s=>?_) hd;have hx:xs[i]? =some xs[i]:=aL hi;have hz:zs[i]? =some (zs[i]'(by omega)):=aL _;refine⟨⟨xs,zs,_,_,s.seq ha,s.seq hb,hx,hz⟩,λx H' y A B hA hB=>?_⟩;obtain⟨T,x',y',rfl,hT,rfl,e1,e2⟩:=y;have s2:ae H (upd H T (.tup [x',y'])):=ae.new hT;refine⟨T,_,rfl,aV.of au,rfl,_,_,rfl,_,_,rfl,rfl,hw x' y',?_⟩;exact hs i x' y' _ (e1 xs (s.seq ha)) (e2 zs (s.seq hb)) (s.trans s2) A B (λk y H4 s4 r=>hA k y H4 (s2.trans s4) r) λk H3 s3=>hB k H3 (s2.trans s3)
theorem DD(kp:Nat->Bool)(R:Nat->V->Hp->Prop)(hD:H1 D=none)(hn:xs.length<=sizeLine)(ha:aj K H1 a xs) (hR:∀i y H H',R i y H->NL H H'->R i y H')(hw:∀x y,a_ (((a_ σ vs).set j1 (some x)).set j2 (some y)) vs=a_ σ vs) (hs:∀(i:Nat) x H,xs[i]? =some x->ae H1 H->∀(A:VK)(B:Hp->Prop),(kp i=true->∀y H4,ae H H4->R i y H4->A y H4)->(kp i=false->∀H3,ae H H3->B H3)->tt (((a_ σ vs).set j1 (some (.int (i:Nat)))).set j2 (some x)) H λb H3=>if b=true then te (((a_ σ vs).set j1 (some (.int (i:Nat)))).set j2 (some x)) H3 A else B H3) (hd:∀ys H,ae H1 H->H D=some (.lst ys)->Paired (λi y=>R i y H) ((List.range xs.length).filter kp) ys->Q H):∃W:Nat->Nat->Hp->Prop,(∃m,W 0 m (upd H1 D (.lst [])))/\∀i m H,W i m H->((tV K a).stop i H/\Q H)\/((tV K a).go i H/\∃Nx:Hp->Prop,(∀H',Nx H'->∃m',m'<m/\W (i+1) m' H')/\∀x H',(tV K a).gN i H x H'->jQ K 2 (eC (cW j1) (eC (cW j2) kl)) x (a_ σ vs) H' λσ2 H2=>a_ σ2 vs=a_ σ vs/\tt σ2 H2 λb H3=>if b=true then te σ2 H3 λy H4=>∃acc,H4 D=some (.lst acc)/\acc.length<sizeLine/\Nx (upd H4 D (.lst (acc++[y])))else Nx H3):=by
 refine DC xs.length kp R hD hn hR (λH s=>⟨xs,s.seq ha,aJ _⟩) (λi H hi s=>?_) hd;have hx:xs[i]? =some xs[i]:=aL hi;refine⟨⟨xs,_,s.seq ha,hx⟩,λx H' y A B hA hB=>?_⟩;obtain⟨T,x',rfl,hT,rfl,e1⟩:=y;have s2:ae H (upd H T (.tup [.int (i:Nat),x'])):=ae.new hT;refine⟨T,_,rfl,aV.of au,rfl,_,_,rfl,_,_,rfl,rfl,hw _ x',?_⟩;exact hs i x' _ (e1 xs (s.seq ha)) (s.trans s2) A B (λk y H4 s4 r=>hA k y H4 (s2.trans s4) r) λk H3 s3=>hB k H3 (s2.trans s3)
theorem uE{J:It}(kp:Nat->Bool)(R:Nat->V->Hp->Prop)(hD:H1 D=none)(hn:xs.length<=sizeLine)(hJ:∀H,ae H1 H->oX J H xs) (hR:∀i y H H',R i y H->NL H H'->R i y H')(hw:∀x,a_ ((a_ σ vs).set j (some x)) vs=a_ σ vs) (hs:∀(i:Nat) x H,xs[i]? =some x->ae H1 H->∀(A:VK)(B:Hp->Prop),(kp i=true->∀y H4,ae H H4->R i y H4->A y H4)->(kp i=false->∀H3,ae H H3->B H3)->tt ((a_ σ vs).set j (some x)) H λb H3=>if b=true then te ((a_ σ vs).set j (some x)) H3 A else B H3) (hd:∀ys H,ae H1 H->H D=some (.lst ys)->Paired (λi y=>R i y H) ((List.range xs.length).filter kp) ys->Q H):∃W:Nat->Nat->Hp->Prop,(∃m,W 0 m (upd H1 D (.lst [])))/\∀i m H,W i m H->(J.stop i H/\Q H)\/(J.go i H/\∃Nx:Hp->Prop,(∀H',Nx H'->∃m',m'<m/\W (i+1) m' H')/\∀x H',J.gN i H x H'->cW j x (a_ σ vs) H' λσ2 H2=>a_ σ2 vs=a_ σ vs/\tt σ2 H2 λb H3=>if b=true then te σ2 H3 λy H4=>∃acc,H4 D=some (.lst acc)/\acc.length<sizeLine/\Nx (upd H4 D (.lst (acc++[y])))else Nx H3):=by
 refine DC xs.length kp R hD hn hR (λH s=>(hJ H s).2) (λi H hi s=>?_) hd;obtain⟨go,yl⟩:=(hJ H s).1 i hi;refine⟨go,λx H' y A B hA hB=>?_⟩;obtain⟨rfl,rfl⟩:=yl x H' y;exact⟨hw _,hs i _ _ (aL hi) s A B hA hB⟩
end
theorem kU(n:Nat):(List.range n).filter (λ_=>true)=List.range n:=List.filter_eq_self.mpr λ_ _=>rfl
theorem kX{α:Type}{F:α->V->Prop}{l:List α}{ys:ε}(h:Paired (λ(i:Nat) y=>∀x,l[i]? =some x->F x y) (List.range l.length) ys):Paired F l ys:=by
 have gen:∀(l:List α)(k:Nat)(G:Nat->V->Prop)(ys:ε),(∀i x y,l[i]? =some x->G (k+i) y->F x y)->Paired G ((List.range l.length).map (k+ ·)) ys->Paired F l ys:=by
  intro l
  induction l with
  |nil=>intro k G ys _ h;cases h;exact .nil
  |cons x l ih=>
   intro k G ys hG h;rw[bT,FF,bx]at h;cases h with
   |cons r t=>
    refine .cons (hG 0 x _ rfl r) (ih (k+1) G _ (λi z y hz g=>hG (i+1) z y (by simpa using hz) (by rw[show k+(i+1)=k+1+i by omega];exact g)) ?_);rw[fu]at t;have e:(List.range l.length).map ((k+ ·)∘Nat.succ)=(List.range l.length).map (k+1+ ·):=wc λi _=>by simp;omega
    rw[e]at t;exact t
 refine gen l 0 (λ(i:Nat) y=>∀x,l[i]? =some x->F x y) ys (λi x y hx g=>g x (by simpa using hx)) ?_;simpa using h
end L2
namespace L2
open PySem PySem.Spec PyProof.Rows
theorem XP{P:Program}{w:World}{d:Addr}{o:Obj}{es:Array DictEntry}{ep:Nat}(hs:(d==sysModules)=false)(hx:o.ExactDict)(hdt:o.data=.dict es ep):PySem.W.KdlSrc P w "dict" d d es.size (λi v=>∃en,es[i]? =some en/\v=en.key) (λh=>h.get? d=some o) where
 type:=λ_ hm=>⟨o,hm,hx.1⟩
 there:=λ_ hm=>⟨a7 hm,a7 hm⟩
 keep:=λ_ _ hm hk=>hk d (.inl rfl) o hm
 notList:=by decide
 notTuple:=by decide
 hint:=λ_ _ _ _ hm hq=>PySem.W.kdl_hint_dict ⟨o,hm,hx.1⟩ hq
 iter:=λA s hh hm=>⟨_,λi h=>h.IsKeyIter s.heap.objs.size d i es.size ep/\h.get? d=some o,(λ_ _ hq=>Up hs hm hx hdt hq),{
   sub:=λb hb=>by simp at hb;simp[hb]
   frame:=λ_ _ _ st hk=>⟨st.1.at λo e=>hk _ (by simp) o e,hk d (by simp) o st.2⟩
   item:=λi s' Q E hi st hQ=>by
    refine Uq st.1 st.2 hdt rfl (jq hi) λh' hit sb=>?_
    exact hQ _ h' s'.toks ⟨_,jq hi,rfl⟩ ⟨hit,sb.extBut d o (bQ (a7 hm)) st.2⟩ λb o hb e=>sb.extBut b o (λh=>hb (by simp[h])) e
   done:=λs' Q E st hQ=>Ur hh st.1 st.2 hdt rfl (aJ _) λh' he=>hQ h' s'.toks λb o hb e=>he b o (λh=>hb (by simp[h])) e
   self:=λ_ _ _ _ st hQ=>wpAny_pyIter_keyiter st.1 hQ},⟨⟨_,cw _ rfl,rfl,rfl⟩,bu _ hm⟩⟩
section
variable{X:Cx}
theorem XQ(hcalm:X.calm=true):ij X (.type "list") (λxs H Q=>∃(d:Addr)(kvs:List (List Key×V)),xs=[.ref d]/\H d=some (.dT kvs)/\ ∀(l:Addr)(qs:θ),H l=none->Paired (λ(q:Addr)(kv:List Key×V)=>H q=some (.tup (kv.1.map kV))) qs kvs->Q (.ref l) (upd H l (.lst (qs.map V.ref)))):=by
 intro pins s σ H xs us Q I r h;obtain⟨d,kvs,rfl,hd,q⟩:=h;obtain⟨u,rfl,rx⟩:=vals1 r;cases rx;obtain⟨z,hs,ys,pr,o,es,ep,ho,hx,hdt,he,_⟩:=I.hok d _ hd;have l1:es.size=ys.length:=size_of_entries he;have l2:kvs.length=ys.length:=bt pr;refine PySem.W.kdl_call (XP hs hx hdt) (I.ok.hd hcalm) ho (by omega) λh' tk acc' c' kp hD hacc=>?_
 have flip:∀{ys:List (List Key×Addr×Value)}{kvs:List (List Key×V)},Paired (λ(p:List Key×V)(q:List Key×Addr×Value)=>p.1=q.1/\H q.2.1=some (.tup (p.1.map kV))/\RelV p.2 q.2.2) kvs ys->
   Paired (λ(q:Addr)(kv:List Key×V)=>H q=some (.tup (kv.1.map kV))) (ys.map λy=>y.2.1) kvs:=by
  intro ys kvs h
  induction h with
  |nil=>exact .nil
  |cons r _ ih=>exact .cons r.2.1 ih
 have ea:acc'.toList=ys.map λy=>Value.ref y.2.1:=by
  refine List.ext_getElem? λj=>?_
  rw[qB,bC];have en:=entry_at he j;cases e:acc'[j]? with
  |none=>have:acc'.size<=j:=Array.getElem?_eq_none_iff.mp e;rw[iM (by have:=hacc.1;omega)];rfl
  |some v=>
   obtain⟨x,e1,e2⟩:=hacc.2 j v e;rw[e1]at en;cases ey:ys[j]? with
   |none=>rw[ey]at en;cases en
   |some y=>rw[ey]at en;have en:some x=some (entryOfKey (tupleKind (bU X.prog X.w)) y):=en;rw[e2,b_ en];rfl
 have vals:∀l:List Addr,Vals (l.map V.ref) (l.map Value.ref):=by
  intro l
  induction l with
  |nil=>exact .nil
  |cons a l ih=>exact .cons rfl ih
 have ea':acc'=((ys.map λy=>y.2.1).map Value.ref).toArray:=by rw[fu];rw[show(Value.ref∘λ(y:List Key×Addr×Value)=>y.2.1)=λy=>Value.ref y.2.1 from rfl,<-ea]
 refine⟨.ref s.heap.objs.size,_,I.laid (t':=tk) kp (aJ _) (show ck X.prog X.w _ h' _ (.lst ((ys.map λy=>y.2.1).map V.ref)) from ⟨by rw[aI,aI];omega,_,c',vals _,by rw[<-ea'];exact hD⟩),rfl,q _ _ (I.hok.fresh (aJ _)) (flip pr)⟩
theorem XR(l b:Addr)(xs ys:Array Value)(n m:Nat)(dd:Option Addr)(sl:Array (Option Value))(h0:¬(!xs.isEmpty&&Builtin.List.listTooLong (xs.size+ys.size))=true)(h1:xs.size<=sizeLine)(h2:xs.size+ys.size<=sizeLine+1):Meets (Builtin.«list.extend» ⟨[.ref l,.ref b],[]⟩) (λ_ R s=>s.heap.get? l=some {cls:=.type "list",data:=.seq xs n}/\s.heap.get? b=some ⟨.type "tuple",dd,.seq ys m,sl⟩/\ R (.ok (.ret Value.none)) {s with heap:=s.heap.update l (Obj.mapSeq λx=>x++ys),toks:=s.toks}):=.of_wp λP w A R ⟨hp,g,d,tk,os⟩ ⟨hl,hb,h⟩=>by
  have q1:=AutoSeq1.idx_int;have q2:=AutoSeq1.sub_tuple_tuple;have q3:=AutoSeq1.sub_list_list;have q4:=AutoSeq1.sub_tuple_list;have q5:=AutoSeq1.sub_list_tuple;have z':(xs++ys).size<=sizeLine+1:=by rw[Array.size_append];exact h2
  wp_walk using (wpAny_updateSeq hl rfl (hz:=h1) (_hz':=z')),AutoSeq1.wpAny_loadPart' hl,AutoSeq1.wpAny_loadPart' hb
  exact⟨_,rfl,h⟩
inductive Ni(x:V)(vs:ε)(H:Hp)(Q:VK):Prop
 |mk l b xs zs:x=.ref l->vs=[.ref b]->H l=some (.lst xs)->H b=some (.tup zs)->xs.length+zs.length<=sizeLine->Q .aw (upd H l (.lst (xs++zs)))->Ni x vs H Q
theorem XS:tF X "list.extend" Ni:=by
 intro pins s σ H x vs v us Q I rx rv h;obtain⟨l,b,xs,zs,rfl,rfl,hH,hB,hz,q⟩:=h;cases rx;obtain⟨u,rfl,ru⟩:=rv.one;cases ru;obtain⟨z,its,n,r,hl,e⟩:=I.kr hH;obtain⟨z2,its2,r2,ob,e2,c2,n2,d2⟩:=I.hok b _ hB;have l2:=r2.length;have hsz:its.toArray.size+its2.toArray.size<=sizeLine:=by rw[cj,cj];omega
 have tH:¬(!its.toArray.isEmpty&&Builtin.List.listTooLong (its.toArray.size+its2.toArray.size))=true:=by rw[Aw hsz,FA];exact cM
 obtain⟨oc,od,XT,osl⟩:=ob;have c2:oc=.type "tuple":=c2;have d2:XT=.seq its2.toArray n2:=d2;subst c2 d2;refine oa F.slot_list_extend ⟨_,e,rfl⟩ F.entry_list_extend (F.args_list_extend_2 _ _)
  (XR l b its.toArray its2.toArray n n2 od osl tH (by rw[cj];omega) (by omega)) ⟨e,e2,?_⟩
 refine⟨.aw,_,I.tG (its':=its++its2) hH e (by simp) (r.append r2) ?_,rfl,q⟩;rw[a8];omega
def XU:Value->V
 | .bool b=>.bl b
 | .int i _=>.int i
 | .str x _=>.str x
 | .bytes b _=>.gL b
 | .float b _=>.flt b
 | .ref a=>.ref a
 | .type n=>.ty n
 |_=>.aw
theorem Nj{v:V}{u:Value}(h:RelV v u):v=XU u:=by
 cases v with
 |aw=>have h:u=Value.none:=h;rw[h];rfl
 |bl b=>have h:u=Value.bool b:=h;rw[h];rfl
 |ref b=>have h:u=Value.ref b:=h;rw[h];rfl
 |ty b=>have h:u=Value.type b:=h;rw[h];rfl
 |int b=>obtain⟨t,h⟩:=h;rw[h];rfl
 |str b=>obtain⟨t,h⟩:=h;rw[h];rfl
 |gL b=>obtain⟨t,h⟩:=h;rw[h];rfl
 |flt b=>obtain⟨t,h⟩:=h;rw[h];rfl
theorem XW{v v':V}{u:Value}(h:RelV v u)(k:RelV v' u):v=v':=(Nj h).trans (Nj k).symm
open Classical in
noncomputable def sC(its:ω)(q:Nat->Bool)(y:Value):Bool:=decide (∃j:Nat,its[j]? =some y/\q j=true)
open Classical in
theorem uF{its:ω}{q:Nat->Bool}{xs:ε}(r:Vals xs its)(hf:∀(j j':Nat) v,xs[j]? =some v->xs[j']? =some v->q j=q j'){j:Nat}{y:Value}(h:its[j]? =some y):sC its q y=q j:=by
 have vl:=r.length;have back:∀(i:Nat),its[i]? =some y->∃v,xs[i]? =some v/\RelV v y:=by
  intro i hi;have hil:i<xs.length:=by have:=(bN.mp hi).1;omega
  obtain⟨u,hu,ru⟩:=r.get (aL hil);rw[hi]at hu;cases hu;exact⟨_,aL hil,ru⟩
 obtain⟨v,hv,rv⟩:=back j h;unfold sC;cases e:q j with
 |true=>exact bj ⟨j,h,e⟩
 |false=>
  refine aW ?_
  rintro⟨i,hi,qi⟩
  obtain⟨v',hv',DE⟩:=back i hi;rw[XW DE rv]at hv';rw[hf i j v hv' hv,e]at qi;cases qi
def DF(xs:ε)(ds:List PyData):Prop:=∀(j j':Nat) v,xs[j]? =some v->xs[j']? =some v->ds[j]? =ds[j']?
theorem DG{K:ax}{H:Hp}:∀{xs:ε}{ds:List PyData},jS K H xs ds->xs.length=ds.length/\∀(j:Nat) x,xs[j]? =some x->∃d,ds[j]? =some d/\Dp K H x d
 |_,_,.nil=>⟨rfl,λj x h=>by simp at h⟩
 |_::_,_::_,.cons a t=>by
  obtain⟨h1,h2⟩:=DG t;refine⟨by simp[h1],λj x h=>?_⟩;cases j with
  |zero=>rw[List.getElem?_cons_zero]at h;cases h;exact⟨_,rfl,a⟩
  |succ j=>exact h2 j x (by simpa using h)
inductive Nk(K:ax)(x:V)(y:V)(H:Hp)(Q:VK):Prop
 |mk p xs ds d:y=.ref p->aj K H p xs->jS K H xs ds->Dp K H x d->((∀e∈ds,SeqAt.shaped e=true))->SeqAt.shaped d=true->DF xs ds->(Q (.bl (ds.any λe=>PyData.eqv e d)) H)->Nk K x y H Q
theorem XX(hu:X.A.units+65<cLine):b6 X (compareOp .In) (Nk X.K):=by
 intro pins s σ H x y v u Q I rx ry h;obtain⟨l,xs,ds,d,rfl,hl,hds,hd,sh,sd,fn,q⟩:=h;obtain rfl:u=Value.ref l:=ry;obtain⟨its,r,pl,hz⟩:=I.list hl;obtain⟨le,gt⟩:=DG hds;have vl:=r.length;have hf:∀(j j':Nat) v,xs[j]? =some v->xs[j']? =some v->(λj=>(ds[j]?).any λe=>PyData.eqv e d) j=(λj=>(ds[j]?).any λe=>PyData.eqv e d) j':=λj j' v a b=>by dsimp only;rw[fn j j' v a b]
 refine SeqAt.in_listAt (sC its λj=>(ds[j]?).any λe=>PyData.eqv e d) pl.isList (λy hy=>?_) ⟨.bl _,H,I,rfl,?_⟩
 ·obtain⟨j,hj⟩:=we (show y∈its by simpa using hy);rw[uF r hf hj];have hjl:j<xs.length:=by have:=(bN.mp hj).1;omega
  obtain⟨e,he,de⟩:=gt j _ (aL hjl);obtain⟨y',hy',DH⟩:=r.get (aL hjl);rw[hj]at hy';cases hy';obtain⟨as,r1⟩:=Dp.reads I _ _ _ de DH;obtain⟨bs,r2⟩:=Dp.reads I _ _ _ hd rx;have s1:=sh e (br he);unfold SeqAt.shaped at s1 sd;rw[fM,qL]at s1 sd;rw[he];show SeqAt.EqAt X.A.in1 s y v (PyData.eqv e d);refine SeqAt.eqAt_reads _ _ _ s _ _ _ _ r1 r2 s1.1 sd.1 ?_;show X.A.units+1+min _ _<cLine;omega
 ·have e:its.toArray.any (sC its λj=>(ds[j]?).any λe=>PyData.eqv e d)=ds.any λe=>PyData.eqv e d:=by
   rw[List.any_toArray,gj,mO,mO];constructor
   ·rintro⟨y,hy,p⟩
    obtain⟨j,hj⟩:=we hy;rw[uF r hf hj]at p;cases e:ds[j]? with
    |none=>rw[e]at p;cases p
    |some e'=>rw[e]at p;exact⟨e',br e,p⟩
   ·rintro⟨e',he,p⟩
    obtain⟨j,hj⟩:=we he;have hjl:j<its.length:=by have:=(bN.mp hj).1;omega
    refine⟨its[j],vY hjl,?_⟩;rw[uF r hf (aL hjl),hj];exact p
  rw[e];exact q
inductive Nl(K:ax)(x:V)(xs:ε)(H:Hp)(Q:VK):Prop
 |mk (a:Addr) (ys:ε) (y:V) (ds:List PyData) (d:PyData) (j:Nat):x=V.ref a->xs=[y]->aj K H a ys->jS K H ys ds->Dp K H y d->((∀e∈ds,SeqAt.shaped e=true))->SeqAt.shaped d=true->DF ys ds->((ds.findIdx? λe=>PyData.eqv e d)=some j)->Q (.int (j:Nat)) H->Nl K x xs H Q
theorem XY(hu:X.A.units+65<cLine):Ap X "list.index" (Nl X.K):=by
 intro pins s σ H x xs v us Q I rx rxs h;obtain⟨a,ys,y,ds,d,j,rfl,rfl,hs,hds,hd,sh,sd,fn,hj,q⟩:=h;cases rx;cases rxs with
 |cons ry rt=>
  rename_i uy ut
  cases rt;obtain⟨its,r,⟨⟨cls,dd,data,sl⟩,n,ho,hc,hdn,hd'⟩,hlen⟩:=I.list hs;simp only at hc hd';subst hc hd';obtain⟨le,gt⟩:=DG hds;have vl:=r.length;have hsl:=aZ;have hf:∀(j j':Nat) v,ys[j]? =some v->ys[j']? =some v->(λj=>(ds[j]?).any λe=>PyData.eqv e d) j=(λj=>(ds[j]?).any λe=>PyData.eqv e d) j':=λj j' v a b=>by dsimp only;rw[fn j j' v a b]
  obtain⟨j1,j2,j3⟩:=mM.mp hj;have hjl:j<its.toArray.size:=by simp;omega
  have pk:∀(m:Nat)(hm:m<its.toArray.size),sC its (λj=>(ds[j]?).any λe=>PyData.eqv e d) its.toArray[m]=PyData.eqv (ds[m]'(by simp at hm;omega)) d:=λm hm=>by
   have hm':m<its.length:=by simpa using hm
   rw[uF (j:=m) r hf (by simp[hm']),aL (by omega)];rfl
  refine oa PySem.F.slot_list_index ⟨_,ho,rfl⟩ PySem.F.entry_list_index (PySem.F.args_list_index_2 _ _) (SeqAt.list_indexAt a its.toArray n dd sl uy (sC its λj=>(ds[j]?).any λe=>PyData.eqv e d) j hjl (by omega) ?_ ?_) ⟨ho,λu' d7=>?_,?_⟩
  ·rw[pk];exact j2
  ·intro m hm hmj;rw[pk];have:=j3 m hmj;simpa using this
  ·obtain⟨m,hm⟩:=we (show u'∈its by simpa using d7);rw[uF r hf hm];have hml:m<ys.length:=by have:=(bN.mp hm).1;omega
   obtain⟨e,he,de⟩:=gt m _ (aL hml);obtain⟨y',hy',DH⟩:=r.get (aL hml);rw[hm]at hy';cases hy';obtain⟨as,r1⟩:=Dp.reads I _ _ _ de DH;obtain⟨bs,r2⟩:=Dp.reads I _ _ _ hd ry;have s1:=sh e (br he);unfold SeqAt.shaped at s1 sd;rw[fM,qL]at s1 sd;rw[he];refine SeqAt.eqAt_reads _ _ _ s _ _ _ _ r1 r2 s1.1 sd.1 ?_;show X.A.units+1+min _ _<cLine;omega
  ·exact⟨.int (j:Nat),H,I.tok _,⟨_,rfl⟩,q⟩
end
end L2
namespace My
open PySem L2
def yI(li n:V):List (Str×V):=[("instructions",li),("names",n)]
theorem mn(li n:V):(yI li n).lookup ("instructions" :Str)=some li:=rfl
theorem nH(li n:V):(yI li n).lookup ("names" :Str)=some n:=rfl
def IA(t:Ad)(H:Hp)(a:Addr)(i:Ins):Prop:=dF t H a i (kT i)
theorem IA.nl{t:Ad}{H H':Hp}{a:Addr}{i:Ins}(h:IA t H a i)(k:NL H H'):IA t H' a i:=h.mono (λb xs e=>k b _ e (by intro z q;cases q)) λC dx fs e=>k a _ e (by intro z q;cases q)
def g9(t:Ad)(H:Hp)(li:Addr)(c:Sz43.Code):Prop:=∃is:List Addr,H li=some (.lst (is.map V.ref))/\Paired (λa i=>IA t H a i) is c
theorem g9.same{t:Ad}{H H':Hp}{li:Addr}{c:Sz43.Code}(h:g9 t H li c)(s:ae H H'):g9 t H' li c:=by obtain⟨is,h1,h2⟩:=h;exact⟨is,s _ _ h1,Paired.cR h2 λa i q=>q.nl s.nl⟩
def pZ(H:Hp)(ns:Addr)(vs:ξ):Prop:=∃qs:List Addr,H ns=some (.lst (qs.map V.ref))/\i7 H qs vs
theorem pZ.same{H H':Hp}{ns:Addr}{vs:ξ}(h:pZ H ns vs)(s:ae H H'):pZ H' ns vs:=by obtain⟨qs,h1,h2⟩:=h;exact⟨qs,s _ _ h1,Paired.cR h2 λa i q=>s _ _ q⟩
def eV(t:Ad)(H:Hp)(x:Addr)(p:Sz43.Program):Prop:=∃(dx li ns:Addr),H x=some (.ins t.l_ dx (yI (.ref li) (.ref ns)))/\g9 t H li p.code/\pZ H ns p.vars
theorem eV.same{t:Ad}{H H':Hp}{x:Addr}{p:Sz43.Program}(h:eV t H x p)(s:ae H H'):eV t H' x p:=by obtain⟨dx,li,ns,h1,h2,h3⟩:=h;exact⟨dx,li,ns,s _ _ h1,h2.same s,h3.same s⟩
inductive DI(t:Ad)(vs:ε)(H:Hp)(Q:VK)(e0:XK):Prop
 |mk (a dx:Addr) (li n:V):vs=[.ref a,li,n]->H a=some (.ins t.l_ dx [])->(∀H',H' a=some (.ins t.l_ dx (yI li n))->(∀b,b≠a->H' b=H b)->Q .aw H')->DI t vs H Q e0
inductive Nm(t:Ad)(vs:ε)(H:Hp)(Q:VK)(e0:XK):Prop
 |mk (r dx:Addr):vs=[.ref r]->H r=some (.ins t.fc dx [])->(∀A H',fg t H' r A 0 [] [] ⟨[],[],[]⟩->(∀b o,H b=some o->b≠r->H' b=some o)->Q .aw H')->Nm t vs H Q e0
inductive Nn(t:Ad)(K:ax)(vs:ε)(H:Hp)(Q:VK)(E:XK):Prop
 |mk (a:Addr) (tx:ψ):vs=[.ref a]->(kC K H a (tx.map λ(c:Nat)=>(c:Int)))->((∀k,Sz43.parse tx=.error k->∀H',E (.int (k:Int) 0) none H'))->((∀p,Sz43.parse tx=.ok p->∀x H',eV t H' x p->Q (.ref x) H'))->Nn t K vs H Q E
variable{P:Program}{w:World}{K:ax}{mg:τ}{base:Heap}{t:Ad}
theorem Np(T:Txt K mg t):aE P w K mg base aM 1 t.BS t.Kv ["self","instructions","names"] (DI t):=by
 refine T.ye.ko ["self","instructions","names"] λH Q hr h nd=>?_
 obtain⟨a,dx,li,n,rfl,ha,k⟩:=h;refine⟨_,ak (fR (pv 0) (pv 1) rfl) (aq (fR (pv 0) (pv 2) rfl)),?_⟩;refine⟨_,rfl,_,rfl,a,_,dx,_,rfl,ha,T.eK,T.jU,(by show 0<1000;decide),?_⟩;refine⟨_,rfl,_,rfl,a,_,dx,_,rfl,au,T.eK,T.kJ,(by show 1<1000;decide),?_⟩;exact k _ au λb hb=>by rw[ay hb,ay hb]
theorem wr{H:Hp}{r x C dx:Addr}{fs fs':List (Str×V)}{o:HO}(hr:H r=some (.ins C dx fs))(hx:H x=none):(upd (upd H x o) r (.ins C dx fs')) x=some o/\(upd (upd H x o) r (.ins C dx fs')) r=some (.ins C dx fs')/\(upd H x o) r=some (.ins C dx fs)/\∀b u,H b=some u->b≠r->(upd (upd H x o) r (.ins C dx fs')) b=some u:=by have n:r≠x:=aH hr hx;refine⟨by rw[ay n.symm];exact au,au,by rw[ay n];exact hr,λb u e hb=>?_⟩;rw[ay hb,ay (aH e hx)];exact e
theorem XZ(T:Txt K mg t):aE P w K mg base aM 1 t.BV t.Kx ["self"] (Nm t):=by
 refine T.C1.ko ["self"] λH Q hr h nd=>?_
 obtain⟨r,dx,rfl,h0,k⟩:=h;refine⟨_,ak (fR (pv 0) aF rfl) (ak (fR (pv 0) (bV ag) rfl) (ak (fR (pv 0) HS rfl) (ak (fR (pv 0) HS rfl) (aq (fR (pv 0) (bV ag) rfl))))),?_⟩;refine⟨_,rfl,r,_,dx,_,rfl,h0,T.bA,T.i9,(by show 0<1000;decide),?_⟩;refine⟨bS _,λli hli=>?_⟩;obtain⟨a1,a2,a3,a4⟩:=wr (o:=.lst []) (fs':=bz "instructions" (.ref li) (bz "line" (.int 0) [])) au hli;refine⟨_,rfl,r,_,dx,_,rfl,a3,T.bA,T.rE,(by show 1<1000;decide),?_⟩;intro va hva;obtain⟨b1,b2,b3,b4⟩:=wr (o:=.dT []) (fs':=bz "variables" (.ref va) (bz "instructions" (.ref li) (bz "line" (.int 0) []))) a2 hva;refine⟨_,rfl,r,_,dx,_,rfl,b3,T.bA,T.mf,(by show 2<1000;decide),?_⟩;intro la hla;obtain⟨c1,c2,c3,c4⟩:=wr (o:=.dT []) (fs':=bz "labels" (.ref la) (bz "variables" (.ref va) (bz "instructions" (.ref li) (bz "line" (.int 0) [])))) b2 hla;refine⟨_,rfl,r,_,dx,_,rfl,c3,T.bA,T.rF,(by show 3<1000;decide),?_⟩;refine⟨bS _,λju hju=>?_⟩;obtain⟨d1,d2,d3,d4⟩:=wr (o:=.lst []) (fs':=bz "jumps" (.ref ju) (bz "labels" (.ref la) (bz "variables" (.ref va) (bz "instructions" (.ref li) (bz "line" (.int 0) []))))) c2 hju;refine⟨_,rfl,r,_,dx,_,rfl,d3,T.bA,T.yg,(by show 4<1000;decide),?_⟩;have uG:li≠r:=(aH au hli).symm;have nva:va≠r:=(aH a2 hva).symm;have nla:la≠r:=(aH b2 hla).symm;refine k ⟨dx,li,va,la,ju⟩ _ ⟨⟨d2,d4 _ _ (c4 _ _ (b4 _ _ a1 uG) uG) uG,d4 _ _ (c4 _ _ b1 nva) nva,d4 _ _ c1 nla,d1,?_,?_⟩,.nil,.nil,by simp,λa h=>absurd h (by simp),λx h=>absurd h (by simp),bS _,bS _⟩ λb o e n=>?_
 ·exact aH (c4 _ _ (b4 _ _ a1 uG) uG) hju
 ·exact aH b1 hla
 ·exact d4 _ _ (c4 _ _ (b4 _ _ (a4 _ _ (by rw[ay n];exact e) n) n) n) n
theorem X0{H:Hp}{qs:θ}{vars:ξ}(h:Paired (λq kv=>H q=some (.tup (kv.1.map kV))) qs (jW vars)):i7 H qs vars:=by
 have gen:∀(vars:ξ)(n:Nat)(qs:θ),Paired (λq(kv:List Key×V)=>H q=some (.tup (kv.1.map kV))) qs ((vars.zipIdx n).map λx=>(kw x.1,V.int (x.2:Int)))->i7 H qs vars:=by
  intro vars
  induction vars with
  |nil=>intro n qs h;cases h;exact .nil
  |cons v r ih=>
   intro n qs h;rw[List.zipIdx_cons,bx]at h;cases h with
   |cons e t=>refine .cons ?_ (ih (n+1) _ t);rw[<-rg];exact e
 exact gen vars 0 qs h
theorem X1(T:Txt K mg t):aE P w K mg base (dZ P w t.jC) 9 t.BN t.Kq ["text"] (Nn t K):=by
 refine T.yd.mh ["text","reading","words"] λH Q hr h nd=>?_
 obtain⟨a,tx,rfl,hT,kE,k⟩:=h;have hr1:=hr.mono (show 1<=8 by decide);have hr2:=hr.mono (show 2<=8 by decide);have DJ:=hr.mono (show 3<=8 by decide);refine⟨_,ak (aS 1 nd (S0 T.LK (XZ T) hr2 rfl T.LJ (ni T.C1) .nil dE))
  (ak (gP (Im rfl rfl rfl) rfl (gO (pC (W6 T) hr1 T.La T.CD (aa (pv 0) ag))) (bD 2 nd) (aq (eA (iY (pv 1) T.bA T.LB (XM T) hr (cb T.C2) .nil (gW rfl rfl) (aa (pv 2) ag)))))
  (ak (eA (SX (pv 1) T.bA T.LH (XN T) DJ (ni T.C8) .nil (gW rfl rfl)))
  (aq (aC (mW T.Dc (Np T) hr2 rfl T.C_ (ny T.ye) .nil dE (aa (aA (pv 1)) (aa (lW (XQ rfl) rfl T.yh rfl (aa (aA (pv 1)) ag)) ag))))))),?_⟩
 dsimp only[bI,Cx.c9];intro r dr nr ndr ner;refine⟨r,dr,rfl,au,λAd H1 D1 kp=>⟨rfl,?_⟩⟩;have s1:ae H H1:=ae.made nr ndr kp;refine⟨_,rfl,a,tx,rfl,kC.same s1 hT,λl ps H2 s2 fl fps hl2 DK=>?_⟩;have D2:=D1.same s2;have nl1:l≠Ad.li:=(aH D1.raw.lst fl).symm;have nl2:l≠Ad.ju:=(aH D1.raw.dG fl).symm;have np:∀q∈ps,q≠Ad.li/\q≠Ad.ju:=λq hq=>⟨(aH D1.raw.lst (fps q hq)).symm,(aH D1.raw.dG (fps q hq)).symm⟩
 obtain⟨lines,eL⟩:∃lines,lines=(Sz43.parted (λ(c:Nat)=>c==10) tx).map Sz43.words:=⟨_,rfl⟩;rw[<-eL]at DK;have eP:=Q4 tx;rw[<-eL]at eP;have lnum:lines.length<=100001:=by rw[eL,aI];have h1:=Ng (λ(c:Nat)=>c==10) tx;have h2:=hT.1;rw[aI]at h2;omega
 have lps:ps.length=lines.length:=bt DK;have hw:∀ws∈lines,∀w∈ws,w≠[]:=λws h w h'=>by rw[eL]at h;exact W2 h h'
 refine⟨l,rfl,⟨_,aj.of hl2⟩,lU (K:=K) (a:=l) (xs:=ps.map V.ref) (λm σ Hh=>∃(v:Option V)(is js:θ)(g:Sz43.Got),σ=[χ a,χ r,v]/\fg t Hh r Ad m is js g/\Hh l=some (.lst (ps.map V.ref))/\Paired (λq ws=>b9 Hh q ws) ps lines/\ Sz43.puts ⟨[],[],[]⟩ 1 lines=Sz43.puts g (m+1) (lines.drop m)/\g.labels.length<=m) ⟨none,[],[],_,rfl,D2,hl2,DK,rfl,aJ _⟩ (λi σ Hh _ ⟨_,_,_,_,_,_,e,_⟩=>aj.of e) ?_ ?_⟩
 ·rintro m y σ Hh hy ⟨v,is,js,g,rfl,D,hl,pl,ep,lb⟩
  rw[bC]at hy;obtain⟨q,hq,rfl⟩:=cF.mp hy;have hm:m<lines.length:=by have:=(bN.mp hq).1;omega
  obtain⟨ws,hws⟩:∃ws,lines[m]? =some ws:=⟨_,aL hm⟩;have edr:lines.drop m=ws::lines.drop (m+1):=by rw[List.drop_eq_getElem_cons hm];rw[aL hm]at hws;rw[b_ hws]
  rw[edr,Nh]at ep;have L:=cp pl hq hws;have nq:=np q (br hq);refine⟨_,rfl,r,_,_,rfl,D.raw.ob,Xg,_,rfl,r,Ad,m,is,js,g,q,ws,rfl,D,L,nq.1,nq.2,hw ws (br hws),by omega,λe=>?_,λg' e is' js' H3 D3 k3=>?_⟩
  ·rw[e]at ep;rw[ep]at eP;exact kE _ eP
  ·rw[e]at ep;refine⟨_,is',js',g',rfl,D3,D.raw.MN k3 hl nl1 nl2,Paired.mapM pl λq ws hq h=>D.raw.g8 k3 h (np q hq).1 (np q hq).2,ep,?_⟩;have:=XO e;omega
 ·rintro σ Hh ⟨v,is,js,g,rfl,D,hl,pl,ep,lb⟩
  rw[aI,lps,List.drop_length]at ep;have ep:Sz43.puts ⟨[],[],[]⟩ 1 lines=.ok g:=ep;rw[ep]at eP;refine⟨_,rfl,r,_,_,rfl,D.raw.ob,Xl,r,Ad,_,is,js,g,rfl,D,λx e=>?_,λe H3 R3 I3=>?_⟩
  ·refine kE _ ?_;rw[eP];show(match (cD g.items).find? (λx=>(Sz43.place g.labels x.2.1).isNone)with |some x=>Except.error x.2.2 |none=>_)=_;rw[e]
  ·have eP:Sz43.parse tx=.ok ⟨g.vars,g.items.map λ(x:Nat×Sz43.Line)=>insOf g x.2⟩:=by
    rw[eP];show(match (cD g.items).find? (λx=>(Sz43.place g.labels x.2.1).isNone)with |some x=>Except.error x.2.2 |none=>_)=_;rw[e]
   refine⟨_,rfl,r,_,_,_,_,rfl,R3.ob,T.bA,T.rE,yw,_,rfl,r,_,_,_,_,rfl,R3.ob,T.bA,T.mf,pS,_,_,rfl,R3.var,?_⟩;intro ln qs hln pq;have s0:ae H3 (upd H3 ln (.lst (qs.map V.ref))):=ae.new hln;intro x dx nx cP iB;refine⟨x,dx,_,_,rfl,au,λH4 h1 h2=>⟨rfl,?_⟩⟩;have s5:=fG nx cP h2;have s4:=s0.trans s5;have nq:pZ H4 ln g.vars:=⟨qs,s5 _ _ au,Paired.cR (X0 pq) λa i q=>s4 _ _ q⟩;refine k _ eP x H4 ⟨dx,Ad.li,ln,h1,⟨is,s4 _ _ R3.lst,?_⟩,nq⟩;have I4:Paired (λa x=>dF t H4 a (insOf g x.2) (kT (insOf g x.2))) is g.items:=Paired.cR I3 λa x h=>h.mono (λ_ _ e=>s4 _ _ e) λ_ _ _ e=>s4 _ _ e
   clear eP ep;show Paired _ is (g.items.map λ(x:Nat×Sz43.Line)=>insOf g x.2);have mp:∀{is:θ}{items:List (Nat×Sz43.Line)},Paired (λa x=>dF t H4 a (insOf g x.2) (kT (insOf g x.2))) is items->Paired (λa i=>dF t H4 a i (kT i)) is (items.map λ(x:Nat×Sz43.Line)=>insOf g x.2):=by
    intro is items h
    induction h with
    |nil=>exact .nil
    |cons r _ ih=>exact .cons r ih
   exact mp I4
end My
namespace My
open Sz43
abbrev LL(α:Type):=List (Option α)
abbrev EE(α:Type):=Option (LL α)
abbrev KL:=LL Int
section
variable{α:Type}
def cV(a b:LL α):Prop:=a.length=b.length/\∀(i:Nat)(z:α),a[i]? =some (some z)->b[i]? =some (some z)
def le(x y:EE α):Prop:=∀b,y=some b->∃a,x=some a/\cV a b
theorem yJ(a:LL α):cV a a:=⟨rfl,λ_ _ h=>h⟩
theorem X2{a b c:LL α}(h:cV a b)(k:cV b c):cV a c:=⟨h.1.trans k.1,λi z e=>k.2 i z (h.2 i z e)⟩
theorem le_refl(x:EE α):le x x:=λb e=>⟨b,e,yJ b⟩
theorem le_trans{x y z:EE α}(h:le x y)(k:le y z):le x z:=λc e=>by obtain⟨b,e2,h2⟩:=k c e;obtain⟨a,e3,h3⟩:=h b e2;exact⟨a,e3,X2 h3 h2⟩
theorem p_{x y:Option α}{a b:LL α}:cV (x::a) (y::b) ↔ (x=none\/x=y)/\cV a b:=by
 constructor
 ·rintro⟨h1,h2⟩
  refine⟨?_,by simpa using h1,λi z e=>?_⟩
  ·cases x with
   |none=>exact .inl rfl
   |some z=>
    have:=h2 0 z rfl;have:y=some z:=by simpa using this
    exact .inr this.symm
  ·have:=h2 (i+1) z (by simpa using e);simpa using this
 ·rintro⟨h1,h2,h3⟩
  refine⟨by simp[h2],λi z e=>?_⟩;cases i with
  |zero=>
   have e:x=some z:=by simpa using e
   rcases h1 with h1 |h1
   ·rw[h1]at e;cases e
   ·simp[<-h1,e]
  |succ i=>have:=h3 i z (by simpa using e);simpa using this
theorem Nq:∀{a b:LL α},cV a b->cV b a->a=b
 |[],[],_,_=>rfl
 |[],_::_,h,_=>absurd h.1 (by simp)
 |_::_,[],h,_=>absurd h.1 (by simp)
 |x::a,y::b,h,k=>by
  rw[p_]at h k;rw[Nq h.2 k.2]
  congr 1
  rcases h.1 with e |e
  ·rcases k.1 with e2 |e2
   ·rw[e,e2]
   ·exact e2.symm
  ·exact e
theorem aby{x y:EE α}(h:le x y)(k:le y x):x=y:=by
 cases x with
 |none=>
  cases y with
  |none=>rfl
  |some b=>obtain⟨a,e,_⟩:=h b rfl;cases e
 |some a=>obtain⟨b,e,h2⟩:=k a rfl;rw[e];obtain⟨a',e',h3⟩:=h b e;cases e';rw[Nq h3 h2]
def Wf(n:Nat)(x:EE α):Prop:=∀l,x=some l->l.length=n
variable [DecidableEq α]
def gH(l m:LL α):LL α:=(l.zip m).map λ(x:Option α×Option α)=>if x.1=x.2 then x.1 else none
def both(e f:EE α):EE α:=match e,f with
 |none,f=>f
 |e,none=>e
 |some l,some m=>some (gH l m)
theorem yK(x y:Option α)(l m:LL α):gH (x::l) (y::m)=(if x=y then x else none)::gH l m:=rfl
theorem Nr{l m:LL α}(h:l.length=m.length):(gH l m).length=l.length:=by unfold gH;rw[aI,List.length_zip,h];omega
theorem Nt:∀{l m:LL α},l.length=m.length->cV (gH l m) l
 |[],[],_=>yJ _
 |x::l,y::m,h=>by
  rw[yK,p_];refine⟨?_,Nt (by simpa using h)⟩;by_cases e:x=y
  ·rw[ah e];exact .inr rfl
  ·rw[af e];exact .inl rfl
theorem Nu:∀{l m:LL α},l.length=m.length->cV (gH l m) m
 |[],[],_=>yJ _
 |x::l,y::m,h=>by
  rw[yK,p_];refine⟨?_,Nu (by simpa using h)⟩;by_cases e:x=y
  ·rw[ah e];exact .inr e
  ·rw[af e];exact .inl rfl
theorem Q5:∀{a l m:LL α},cV a l->cV a m->cV a (gH l m)
 |[],[],[],_,_=>yJ _
 |[],[],_::_,_,h=>absurd h.1 (by simp)
 |[],_::_,_,h,_=>absurd h.1 (by simp)
 |_::_,[],_,h,_=>absurd h.1 (by simp)
 |_::_,_::_,[],_,h=>absurd h.1 (by simp)
 |x::a,y::l,z::m,h,k=>by
  rw[p_]at h k;rw[yK,p_];refine⟨?_,Q5 h.2 k.2⟩;rcases h.1 with e |e
  ·exact .inl e
  ·rcases k.1 with e2 |e2
   ·exact .inl e2
   ·rw[<-e,<-e2,ah rfl];exact .inr rfl
theorem Nv{n:Nat}{x y:EE α}(hx:Wf n x)(hy:Wf n y):le (both x y) x:=by
 cases x with
 |none=>exact λb e=>by cases e
 |some l=>
  cases y with
  |none=>exact le_refl _
  |some m=>intro b e;cases e;exact⟨_,rfl,Nt ((hx _ rfl).trans (hy _ rfl).symm)⟩
theorem Nw{n:Nat}{x y:EE α}(hx:Wf n x)(hy:Wf n y):le (both x y) y:=by
 cases x with
 |none=>exact le_refl _
 |some l=>
  cases y with
  |none=>exact λb e=>by cases e
  |some m=>intro b e;cases e;exact⟨_,rfl,Nu ((hx _ rfl).trans (hy _ rfl).symm)⟩
theorem Ny{z x y:EE α}(h:le z x)(k:le z y):le z (both x y):=by
 cases x with
 |none=>exact k
 |some l=>
  cases y with
  |none=>exact h
  |some m=>intro b e;cases e;obtain⟨a,e1,h1⟩:=h l rfl;obtain⟨a',e2,h2⟩:=k m rfl;rw[e1]at e2;cases e2;exact⟨a,e1,Q5 h1 h2⟩
theorem Nz{n:Nat}{x y:EE α}(hx:Wf n x)(hy:Wf n y):Wf n (both x y):=by
 cases x with
 |none=>exact hy
 |some l=>
  cases y with
  |none=>exact hx
  |some m=>intro b e;cases e;show(gH l m).length=n;rw[Nr ((hx _ rfl).trans (hy _ rfl).symm)];exact hx _ rfl
end
section
variable{α:Type}
def cnt(l:LL α):Nat:=l.countP Option.isSome
theorem NA:∀{a b:LL α},cV a b->cnt a<=cnt b
 |[],[],_=>aJ _
 |[],_::_,h=>absurd h.1 (by simp)
 |_::_,[],h=>absurd h.1 (by simp)
 |x::a,y::b,h=>by
  rw[p_]at h;have ih:=NA h.2;unfold cnt at*;rw[wg,wg];rcases h.1 with e |e
  ·rw[e];simp;omega
  ·rw[e];omega
theorem NB:∀{a b:LL α},cV a b->a≠b->cnt a<cnt b
 |[],[],_,h=>absurd rfl h
 |[],_::_,h,_=>absurd h.1 (by simp)
 |_::_,[],h,_=>absurd h.1 (by simp)
 |x::a,y::b,h,k=>by
  rw[p_]at h;have i1:=NA h.2;by_cases e:a=b
  ·subst e;have hx:x=none:=h.1.resolve_right λe=>k (by rw[e])
   subst hx;cases y with
   |none=>exact absurd rfl k
   |some z=>unfold cnt;rw[wg,wg];simp
  ·have i2:=NB h.2 e;unfold cnt at*;rw[wg,wg];rcases h.1 with e |e
   ·rw[e];simp;omega
   ·rw[e];omega
theorem X3(l:LL α):cnt l<=l.length:=List.countP_le_length
def ht(n:Nat):EE α->Nat
 |none=>n+1
 |some l=>cnt l
theorem rR{n:Nat}{x y:EE α}(hx:Wf n x)(h:le x y)(k:x≠y):ht n x<ht n y:=by
 cases y with
 |none=>
  cases x with
  |none=>exact absurd rfl k
  |some l=>have:=X3 l;have:=hx l rfl;show cnt l<n+1;omega
 |some b=>obtain⟨a,e,h2⟩:=h b rfl;subst e;exact NB h2 λz=>k (by rw[z])
theorem uH{n:Nat}{x y:EE α}(hx:Wf n x)(h:le x y):ht n x<=ht n y:=by
 by_cases e:x=y
 ·rw[e];exact aJ _
 ·exact qw (rR hx h e)
theorem yL{n:Nat}{x:EE α}(hx:Wf n x):ht n x<=n+1:=uH (y:=none) hx (λb e=>by cases e)
def hts(n:Nat)(l:List (EE α)):Nat:=(l.map (ht n)).sum
def gt(l:List (EE α))(j:Nat):EE α:=(l[j]?).bind id
theorem DL{l:List (EE α)}{j:Nat}(h:j<l.length):l[j]? =some (gt l j):=by unfold gt;rw[aL h];rfl
theorem mq{l:List (EE α)}{j:Nat}(h:l.length<=j):gt l j=none:=by unfold gt;rw[iM h];rfl
theorem jE{l:List (EE α)}{j:Nat}{x:EE α}(h:j<l.length):gt (l.set j x) j=x:=by unfold gt;rw[lC h];rfl
theorem kY{l:List (EE α)}{j k:Nat}{x:EE α}(h:k≠j):gt (l.set j x) k=gt l k:=by unfold gt;rw[nW (cq h)]
theorem NC(n:Nat):∀{l:List (EE α)}{j:Nat}{x:EE α},j<l.length->hts n (l.set j x)+ht n (gt l j)=hts n l+ht n x
 |[],_,_,h=>absurd h (by simp)
 |y::r,0,x,_=>by unfold hts;show((x::r).map (ht n)).sum+ht n y=((y::r).map (ht n)).sum+ht n x;rw[bx,bx,iQ,iQ];omega
 |y::r,j+1,x,h=>by have ih:=NC n (l:=r) (j:=j) (x:=x) (by simpa using h);unfold hts at*;show((y::r.set j x).map (ht n)).sum+ht n (gt r j)=((y::r).map (ht n)).sum+ht n x;rw[bx,bx,iQ,iQ];omega
theorem uI{n:Nat}:∀{l m:List (EE α)},l.length=m.length->(∀j,Wf n (gt l j))->(∀j,le (gt l j) (gt m j))->hts n l<=hts n m/\(l≠m->hts n l<hts n m)
 |[],[],_,_,_=>⟨aJ _,λh=>absurd rfl h⟩
 |x::l,y::m,h,hw,hl=>by
  obtain⟨i1,i2⟩:=uI (n:=n) (l:=l) (m:=m) (by simpa using h) (λj=>hw (j+1)) λj=>hl (j+1)
  have w0:Wf n x:=hw 0;have l0:le x y:=hl 0;have h0:=uH w0 l0;unfold hts at*;rw[bx,bx,iQ,iQ];refine⟨by omega,λk=>?_⟩;by_cases e:x=y
  ·subst e;have:=i2 λz=>k (by rw[z])
   omega
  ·have:=rR w0 l0 e;omega
end
def jd(i:Ins)(l:KL):Option Int:=match i with
 | .num _ z=>some z
 | .copy _ a=>knows l a
 | .op k _ a b=>(match knows l a,knows l b with
  |some x,some y=>some (reckon k x y)
  |_,_=>none)
 |_=>none
theorem zw(i:Ins)(l:KL):behind i l=match givesOf i with
  |some d=>l.set d (jd i l)
  |none=>l:=by
 cases i<;>rfl
theorem ND(i:Ins)(l:KL):(behind i l).length=l.length:=by cases i<;>simp[behind]
theorem yM{a b:KL}(h:cV a b)(v:Nat):knows a v=none\/knows a v=knows b v:=by
 unfold knows;cases e:a[v]? with
 |none=>exact .inl rfl
 |some x=>
  cases x with
  |none=>exact .inl rfl
  |some z=>rw[h.2 v z e];exact .inr rfl
theorem X4{a b:KL}{d:Nat}{x y:Option Int}(h:cV a b)(k:x=none\/x=y):cV (a.set d x) (b.set d y):=by
 refine⟨by rw[gk,gk];exact h.1,λi z e=>?_⟩;by_cases hi:i=d
 ·subst hi;by_cases hl:i<a.length
  ·rw[lC hl]at e;rw[lC (h.1▸hl)];rcases k with k |k
   ·rw[k]at e;cases e
   ·rw[<-k];exact e
  ·rw[iM (by rw[gk];omega)]at e;cases e
 ·rw[nW (cq hi)]at e ⊢;exact h.2 i z e
theorem uJ(k d v u:Nat)(l:KL):jd (.op k d v u) l=match knows l v,knows l u with
  |some x,some y=>some (reckon k x y)
  |_,_=>none:=rfl
theorem X5{a b:KL}(h:cV a b)(i:Ins):jd i a=none\/jd i a=jd i b:=by
 cases i with
 |num d z=>exact .inr rfl
 |copy d v=>exact yM h v
 |op k d v u=>
  have h1:=yM h v;have h2:=yM h u;rw[uJ,uJ];rcases h1 with e1 |e1
  ·rw[e1];exact .inl rfl
  ·rcases h2 with e2 |e2
   ·rw[e2];cases knows a v<;>exact .inl rfl
   ·rw[e1,e2];exact .inr rfl
 |_=>exact .inl rfl
theorem NF{a b:KL}(h:cV a b)(i:Ins):cV (behind i a) (behind i b):=by
 rw[zw,zw];cases givesOf i with
 |none=>exact h
 |some d=>exact X4 h (X5 h i)
theorem uK(at_ v t:Nat)(l:KL):mayLead at_ (.cond v t) l=match knows l v with
  |some z=>if z=0 then [at_+1]else [t]
  |none=>[t,at_+1]:=rfl
theorem NG{a b:KL}(h:cV a b){at_ j:Nat}{i:Ins}(k:j∈mayLead at_ i b):j∈mayLead at_ i a:=by
 cases i with
 |cond v t=>
  rw[uK]at k ⊢;rcases yM h v with e |e
  ·rw[e];cases hb:knows b v with
   |none=>rw[hb]at k;exact k
   |some z=>
    rw[hb]at k;dsimp only at k ⊢;split at k
    ·simp at k;simp[k]
    ·simp at k;simp[k]
  ·rw[e];exact k
 |_=>exact k
def eX(c:Code)(Y:List Env):Prop:=∀(i:Nat)(x:Ins)(l:KL),c[i]? =some x->gt Y i=some l->∀j∈mayLead i x l,le (gt Y j) (some (behind x l))
def bP(n:Nat)(l:List Env):Prop:=∀j,Wf n (gt l j)
theorem abz(e f:Env):Sz43.both e f=My.both e f:=by cases e<;>cases f<;>rfl
def dI(v:KL)(js:ψ)(m:List Env):List Env:=js.foldl (λ(m:List Env)(j:Nat)=>m.set j (My.both ((m[j]?).bind id) (some v))) m
theorem uL{n:Nat}{v:KL}(hv:v.length=n):∀(js:ψ)(m:List Env),bP n m->(dI v js m).length=m.length/\bP n (dI v js m)/\(∀k,le (gt (dI v js m) k) (gt m k))/\(∀j∈js,j<m.length->le (gt (dI v js m) j) (some v))/\ ∀Y:List Env,(∀k,le (gt Y k) (gt m k))->(∀j∈js,le (gt Y j) (some v))->∀k,le (gt Y k) (gt (dI v js m) k)
 |[],m,hw=>⟨rfl,hw,λ_=>le_refl _,λ_ h=>absurd h (by simp),λ_ h _=>h⟩
 |j::js,m,hw=>by
  have wv:Wf n (some v):=λl e=>by cases e;exact hv
  have hw1:bP n (m.set j (My.both (gt m j) (some v))):=λk=>by
   by_cases e:k=j
   ·subst e;by_cases hl:k<m.length
    ·rw[jE hl];exact Nz (hw k) wv
    ·rw[mq (by rw[gk];omega)];exact λl e=>by cases e
   ·rw[kY e];exact hw k
  have le1:∀k,le (gt (m.set j (My.both (gt m j) (some v))) k) (gt m k):=λk=>by
   by_cases e:k=j
   ·subst e;by_cases hl:k<m.length
    ·rw[jE hl];exact Nv (hw k) wv
    ·rw[mq (l:=m) (by omega)];exact λb e=>by cases e
   ·rw[kY e];exact le_refl _
  obtain⟨a1,a2,a3,a4,a5⟩:=uL hv js (m.set j (My.both (gt m j) (some v))) hw1;have eb:dI v (j::js) m=dI v js (m.set j (My.both (gt m j) (some v))):=rfl;rw[eb];refine⟨by rw[a1,gk],a2,λk=>le_trans (a3 k) (le1 k),λi hi hl=>?_,λY hY hj=>?_⟩
  ·rcases aX.mp hi with e |e
   ·subst e;refine le_trans (a3 i) ?_;rw[jE hl];exact Nw (hw i) wv
   ·exact a4 i e (by rw[gk];exact hl)
  ·refine a5 Y (λk=>?_) λi hi=>hj i (bM _ hi)
   by_cases e:k=j
   ·subst e;by_cases hl:k<m.length
    ·rw[jE hl];exact Ny (hY k) (hj k (by simp))
    ·rw[show gt (m.set k (My.both (gt m k) (some v))) k=none from mq (by rw[gk];omega)];exact λb e=>by cases e
   ·rw[kY e];exact hY k
def bK(c:Code)(l:List Env)(m:List Env)(at_:Nat):List Env:=match c[at_]?,(l[at_]?).bind id with
 |some i,some e=>dI (behind i e) (mayLead at_ i e) m
 |_,_=>m
theorem nJ(c:Code)(l:List Env):spread c l=(List.range c.length).foldl (bK c l) l:=by unfold spread bK dI;simp only[abz];rfl
theorem je{n:Nat}{c:Code}{l:List Env}(hl:bP n l):∀(as:ψ)(m:List Env),bP n m->(as.foldl (bK c l) m).length=m.length/\bP n (as.foldl (bK c l) m)/\(∀k,le (gt (as.foldl (bK c l) m) k) (gt m k))/\ (∀a∈as,∀i e,c[a]? =some i->gt l a=some e->∀j∈mayLead a i e,j<m.length->le (gt (as.foldl (bK c l) m) j) (some (behind i e)))/\ ∀Y:List Env,(∀k,le (gt Y k) (gt m k))->(∀a∈as,∀i e,c[a]? =some i->gt l a=some e->∀j∈mayLead a i e,le (gt Y j) (some (behind i e)))->∀k,le (gt Y k) (gt (as.foldl (bK c l) m) k)
 |[],m,hw=>⟨rfl,hw,λ_=>le_refl _,λ_ h=>absurd h (by simp),λ_ h _=>h⟩
 |a::as,m,hw=>by
  have one:(bK c l m a).length=m.length/\bP n (bK c l m a)/\(∀k,le (gt (bK c l m a) k) (gt m k))/\(∀i e,c[a]? =some i->gt l a=some e->∀j∈mayLead a i e,j<m.length->le (gt (bK c l m a) j) (some (behind i e)))/\
    ∀Y:List Env,(∀k,le (gt Y k) (gt m k))->(∀i e,c[a]? =some i->gt l a=some e->∀j∈mayLead a i e,le (gt Y j) (some (behind i e)))->∀k,le (gt Y k) (gt (bK c l m a) k):=by
   cases hi:c[a]? with
   |none=>
    have e:bK c l m a=m:=by unfold bK;rw[hi]
    rw[e];exact⟨rfl,hw,λ_=>le_refl _,λ_ _ h=>(by cases h),λ_ h _=>h⟩
   |some i=>
    cases he:gt l a with
    |none=>
     have e:bK c l m a=m:=by unfold bK;unfold gt at he;rw[hi,he]
     rw[e];exact⟨rfl,hw,λ_=>le_refl _,λ_ _ _ h=>(by cases h),λ_ h _=>h⟩
    |some v=>
     have e:bK c l m a=dI (behind i v) (mayLead a i v) m:=by unfold bK;unfold gt at he;rw[hi,he]
     have hv:(behind i v).length=n:=by rw[ND];exact hl a v he
     obtain⟨b1,b2,b3,b4,b5⟩:=uL hv (mayLead a i v) m hw;rw[e];refine⟨b1,b2,b3,λi' e' h1 h2=>?_,λY hY hj=>b5 Y hY (hj i v rfl rfl)⟩;cases h1;cases h2;exact b4
  obtain⟨o1,o2,o3,o4,o5⟩:=one;obtain⟨f1,f2,f3,f4,f5⟩:=je hl as (bK c l m a) o2;rw[qA];refine⟨f1.trans o1,f2,λk=>le_trans (f3 k) (o3 k),λb hb i e h1 h2 j hj hl'=>?_,λY hY hj=>?_⟩
  ·rcases aX.mp hb with z |z
   ·subst z;exact le_trans (f3 j) (o4 i e h1 h2 j hj hl')
   ·exact f4 b z i e h1 h2 j hj (by rw[o1];exact hl')
  ·exact f5 Y (o5 Y hY (hj a (by simp))) λb hb=>hj b (bM _ hb)
def uM(c:Code):Prop:=∀(i:Nat)(x:Ins)(l:KL),c[i]? =some x->∀j∈mayLead i x l,j<=c.length
theorem g_{c:Code}{i:Nat}{x:Ins}(h:c[i]? =some x):i<c.length:=(bN.mp h).1
section
variable{n:Nat}{c:Code}
theorem uN{l:List Env}(hl:bP n l):(spread c l).length=l.length:=by rw[nJ];exact(je hl _ l hl).1
theorem qb{l:List Env}(hl:bP n l):bP n (spread c l):=by rw[nJ];exact(je hl _ l hl).2.1
theorem NH{l:List Env}(hl:bP n l)(k:Nat):le (gt (spread c l) k) (gt l k):=by rw[nJ];exact(je hl _ l hl).2.2.1 k
theorem DM{l Y:List Env}(hl:bP n l)(S:eX c Y)(h:∀k,le (gt Y k) (gt l k))(k:Nat):le (gt Y k) (gt (spread c l) k):=by
 rw[nJ];refine(je hl (List.range c.length) l hl).2.2.2.2 Y h (λa _ i e h1 h2 j hj=>?_) k;obtain⟨a',e1,l1⟩:=h a e h2;refine le_trans (S a i a' h1 e1 j (NG l1 hj)) λb eb=>?_
 cases eb;exact⟨_,rfl,NF l1 i⟩
theorem DN{l:List Env}(hl:bP n l)(hb:uM c)(ln:l.length=c.length+1)(h:spread c l=l):eX c l:=by intro i x v h1 h2 j hj;have:=(je hl (List.range c.length) l hl).2.2.2.1 i (qv.mpr (g_ h1)) x v h1 h2 j hj (by have:=hb i x v h1 j hj;omega);rw[<-nJ,h]at this;exact this
theorem dt{α:Type}(f:α->α):∀(k:Nat)(x:α),repeated f (k+1) x=f (repeated f k x)
 |0,_=>rfl
 |k+1,x=>dt f k (f x)
theorem yN{α:Type}(f:α->α){x:α}(h:f x=x):∀k,repeated f k x=x
 |0=>rfl
 |k+1=>by show repeated f k (f x)=x;rw[h];exact yN f h k
theorem qc(l:List Env)(hl:bP n l):∀k,(repeated (spread c) k l).length=l.length/\bP n (repeated (spread c) k l)/\∀j,le (gt (repeated (spread c) k l) j) (gt l j)
 |0=>⟨rfl,hl,λ_=>le_refl _⟩
 |k+1=>by obtain⟨h1,h2,h3⟩:=qc l hl k;rw[dt];exact⟨(uN h2).trans h1,qb h2,λj=>le_trans (NH h2 j) (h3 j)⟩
theorem uO:∀(k:Nat)(l:List Env),bP n l->hts n l<k->spread c (repeated (spread c) k l)=repeated (spread c) k l
 |0,_,_,h=>absurd h (by omega)
 |k+1,l,hl,h=>by
  by_cases e:spread c l=l
  ·rw[yN _ e,e]
  ·show spread c (repeated (spread c) k (spread c l))=repeated (spread c) k (spread c l);have:=(uI (uN (c:=c) hl) (qb hl) (NH hl)).2 e;exact uO k _ (qb hl) (by omega)
def cK(n:Nat)(c:Code):List Env:=(some (List.replicate n (some 0)))::List.replicate c.length none
theorem rS(n:Nat)(c:Code):(cK n c).length=c.length+1:=by simp[cK]
theorem nK(n:Nat)(c:Code):gt (cK n c) 0=some (List.replicate n (some 0)):=rfl
theorem jf(n:Nat)(c:Code)(j:Nat):gt (cK n c) (j+1)=none:=by unfold gt cK;rw[F0,n8];split<;>rfl
theorem jF(n:Nat)(c:Code):bP n (cK n c):=λj=>by
 cases j with
 |zero=>rw[nK];intro l e;cases e;simp
 |succ j=>rw[jf];exact λl e=>by cases e
theorem uP:∀{l:List Env},bP n l->hts n l<=l.length*(n+1)
 |[],_=>bS _
 |x::l,h=>by
  have ih:=uP (l:=l) λj=>h (j+1)
  have h0:=yL (h 0);unfold hts at*;rw[bx,iQ,bT,Nat.add_mul,Nat.one_mul];have:ht n (gt (x::l) 0)=ht n x:=rfl;omega
theorem NJ(hb:uM c):(known n c).length=c.length+1/\bP n (known n c)/\eX c (known n c)/\(∀j,le (gt (known n c) j) (gt (cK n c) j))/\∀Y,eX c Y->(∀j,le (gt Y j) (gt (cK n c) j))->∀j,le (gt Y j) (gt (known n c) j):=by
 have ek:known n c=repeated (spread c) ((c.length+1)*(n+1)+1) (cK n c):=rfl;rw[ek];obtain⟨h1,h2,h3⟩:=qc (c:=c) (cK n c) (jF n c) ((c.length+1)*(n+1)+1);have ht:=uP (jF n c);rw[rS]at ht h1;refine⟨h1,h2,DN h2 hb h1 (uO _ _ (jF n c) (by omega)),h3,λY S hY=>?_⟩;have all:∀k j,le (gt Y j) (gt (repeated (spread c) k (cK n c)) j):=by
  intro k
  induction k with
  |zero=>exact hY
  |succ k ih=>rw[dt];exact DM (qc (c:=c) (cK n c) (jF n c) k).2.1 S ih
 exact all _
end
section
variable{α:Type} [DecidableEq α]{n:Nat}{c:Code}
def iJ(x:EE α)(v:LL α):LL α:=match x with
 |none=>v
 |some l=>gH l v
theorem DP(x:EE α)(v:LL α):My.both x (some v)=some (iJ x v):=by cases x<;>rfl
structure Sys(α:Type)(n:Nat)(c:Code) where
 fst:LL α
 len:fst.length=n
 bh:Ins->LL α->LL α
 bl:∀i l,(bh i l).length=l.length
 ld:Nat->Ins->LL α->List Nat
 bm:∀i a b,cV a b->cV (bh i a) (bh i b)
 lm:∀p i a b j,cV a b->j∈ld p i b->j∈ld p i a
 ib:∀p i l,c[p]? =some i->∀j∈ld p i l,j<=c.length
def Sys.eX(S:Sys α n c)(Y:List (EE α)):Prop:=∀(i:Nat)(x:Ins)(l:LL α),c[i]? =some x->gt Y i=some l->∀j∈S.ld i x l,le (gt Y j) (some (S.bh x l))
def Sys.start(S:Sys α n c):List (EE α):=some S.fst::List.replicate c.length none
theorem Sys.rS(S:Sys α n c):S.start.length=c.length+1:=by simp[Sys.start]
theorem Sys.nK(S:Sys α n c):gt S.start 0=some S.fst:=rfl
theorem Sys.jf(S:Sys α n c)(j:Nat):gt S.start (j+1)=none:=by unfold gt Sys.start;rw[F0,n8];split<;>rfl
theorem Sys.jF(S:Sys α n c):∀j,Wf n (gt S.start j):=λj=>by
 cases j with
 |zero=>rw[S.nK];intro l e;cases e;exact S.len
 |succ j=>rw[S.jf];exact λl e=>by cases e
def yO(v:LL α)(s:List (EE α)×List Nat)(w:Nat):List (EE α)×List Nat:=if some (iJ (gt s.1 w) v)=gt s.1 w then s else (s.1.set w (some (iJ (gt s.1 w) v)),s.2++[w])
def AllP(P:α->Prop)(l:LL α):Prop:=∀z,some z∈l->P z
theorem NK{z:α}:∀{l m:LL α},some z∈gH l m->some z∈l
 |[],_,h=>by simp[gH]at h
 |_::_,[],h=>by simp[gH]at h
 |x::l,y::m,h=>by
  rw[yK]at h;rcases aX.mp h with e |e
  ·by_cases q:x=y
   ·rw[ah q]at e;rw[e];exact dN
   ·rw[af q]at e;cases e
  ·exact bM _ (NK e)
theorem NM{P:α->Prop}{x:EE α}{v:LL α}(hx:∀l,x=some l->AllP P l)(hv:AllP P v):AllP P (iJ x v):=by
 cases x with
 |none=>exact hv
 |some l=>exact λz h=>hx l rfl z (NK h)
structure gB(S:Sys α n c)(P:α->Prop)(B:List (EE α))(W:ψ):Prop where
 len:B.length=c.length+1
 wf:∀j,Wf n (gt B j)
 wb:∀p∈W,p<=c.length/\∃l,gt B p=some l
 up:∀Y,S.eX Y->(∀j,le (gt Y j) (gt S.start j))->∀j,le (gt Y j) (gt B j)
 st:le (gt B 0) (gt S.start 0)
 ap:∀j l,gt B j=some l->AllP P l
 f_:∀i x l,c[i]? =some x->i ∉ W->gt B i=some l->∀j∈S.ld i x l,le (gt B j) (some (S.bh x l))
structure mr(S:Sys α n c)(P:α->Prop)(B:List (EE α))(ws:ψ)(v:LL α)(js:ψ)(B':List (EE α))(W':ψ):Prop where
 len:B'.length=c.length+1
 wf:∀j,Wf n (gt B' j)
 wb:∀p∈W',p<=c.length/\∃l,gt B' p=some l
 up:∀Y,S.eX Y->(∀j,le (gt Y j) (gt S.start j))->∀j,le (gt Y j) (gt B' j)
 dn:∀j,le (gt B' j) (gt B j)
 ap:∀j l,gt B' j=some l->AllP P l
 sub:∀q∈ws,q∈W'
 chg:∀i,gt B' i≠gt B i->i∈W'
 yP:∀j∈js,le (gt B' j) (some v)
 uQ:2*hts n B'+W'.length<=2*hts n B+ws.length
section
variable{S:Sys α n c}{P:α->Prop}{B:List (EE α)}{ws:ψ}{p:Nat}{x:Ins}{l:LL α}
theorem gB.init(h0:AllP P S.fst):gB S P S.start [0] where
 len:=S.rS
 wf:=S.jF
 wb:=λp hp=>by
  have:p=0:=by simpa using hp
  rw[this];exact⟨bS _,_,S.nK⟩
 up:=λ_ _ h=>h
 st:=le_refl _
 ap:=λj l e=>by
  cases j with
  |zero=>rw[S.nK]at e;cases e;exact h0
  |succ j=>rw[S.jf]at e;cases e
 f_:=λi x l _ hi e=>by
  cases i with
  |zero=>exact absurd (by simp) hi
  |succ i=>rw[S.jf]at e;cases e
theorem mr.start(I:gB S P B (ws++[p])){v:LL α}:mr S P B ws v [] B ws where
 len:=I.len
 wf:=I.wf
 wb:=λq hq=>I.wb q (fm _ hq)
 up:=I.up
 dn:=λ_=>le_refl _
 ap:=I.ap
 sub:=λ_ h=>h
 chg:=λ_ h=>absurd rfl h
 yP:=λ_ h=>absurd h (by simp)
 uQ:=aJ _
theorem mr.step(I:gB S P B (ws++[p]))(hx:c[p]? =some x)(hl:gt B p=some l)(hv:AllP P (S.bh x l)){js:ψ}{w:Nat}(hw:w∈S.ld p x l){B':List (EE α)}{W':ψ}(F:mr S P B ws (S.bh x l) js B' W'):mr S P B ws (S.bh x l) (js++[w]) (yO (S.bh x l) (B',W') w).1 (yO (S.bh x l) (B',W') w).2:=by
 have wl:w<B'.length:=by have:=S.ib p x l hx w hw;have:=F.len;omega
 have vl:(S.bh x l).length=n:=by rw[S.bl];exact I.wf p l hl
 have wv:Wf n (some (S.bh x l)):=λq e=>by cases e;exact vl
 have lr:=Nw (F.wf w) wv;have ll:=Nv (F.wf w) wv;have bw:=Nz (F.wf w) wv;rw[DP]at lr ll bw;have upw:∀Y,S.eX Y->(∀j,le (gt Y j) (gt S.start j))->le (gt Y w) (some (iJ (gt B' w) (S.bh x l))):=λY s hY=>by
  obtain⟨a,e1,l1⟩:=I.up Y s hY p l hl;have h1:=s p x a hx e1 w (S.lm _ _ _ _ _ l1 hw);have h2:le (gt Y w) (some (S.bh x l)):=le_trans h1 λb eb=>by cases eb;exact⟨_,rfl,S.bm x _ _ l1⟩
  have:=Ny (F.up Y s hY w) h2;rw[DP]at this;exact this
 unfold yO;by_cases e:some (iJ (gt B' w) (S.bh x l))=gt B' w
 ·rw[ah e];refine⟨F.len,F.wf,F.wb,F.up,F.dn,F.ap,F.sub,F.chg,λj hj=>?_,F.uQ⟩;rcases bL.mp hj with h |h
  ·exact F.yP j h
  ·have:j=w:=by simpa using h
   rw[this,<-e];exact lr
 ·rw[af e];have gs:∀j,gt (B'.set w (some (iJ (gt B' w) (S.bh x l)))) j=if j=w then some (iJ (gt B' w) (S.bh x l))else gt B' j:=λj=>by
   by_cases q:j=w
   ·rw[ah q,q];exact jE wl
   ·rw[af q];exact kY q
  have dn1:∀j,le (gt (B'.set w (some (iJ (gt B' w) (S.bh x l)))) j) (gt B' j):=λj=>by
   rw[gs];by_cases q:j=w
   ·rw[ah q,q];exact ll
   ·rw[af q];exact le_refl _
  refine⟨by rw[gk];exact F.len,λj=>?_,λq hq=>?_,λY s hY j=>?_,λj=>le_trans (dn1 j) (F.dn j),λj m em=>?_,λq hq=>fm _ (F.sub q hq),λi hi=>?_,λj hj=>?_,?_⟩
  ·rw[gs];by_cases q:j=w
   ·rw[ah q];exact bw
   ·rw[af q];exact F.wf j
  ·rw[gs];rcases bL.mp hq with h |h
   ·obtain⟨h1,h2⟩:=F.wb q h;refine⟨h1,?_⟩;by_cases z:q=w
    ·rw[ah z];exact⟨_,rfl⟩
    ·rw[af z];exact h2
   ·have:q=w:=by simpa using h
    rw[ah this,this];exact⟨by have:=F.len;omega,_,rfl⟩
  ·rw[gs];by_cases q:j=w
   ·rw[ah q,q];exact upw Y s hY
   ·rw[af q];exact F.up Y s hY j
  ·rw[gs]at em;by_cases q:j=w
   ·rw[ah q]at em;cases em;exact NM (λl' e'=>F.ap w l' e') hv
   ·rw[af q]at em;exact F.ap j m em
  ·rw[gs]at hi;by_cases q:i=w
   ·rw[q];exact jI _ (by simp)
   ·rw[af q]at hi;exact fm _ (F.chg i hi)
  ·rcases bL.mp hj with h |h
   ·exact le_trans (dn1 j) (F.yP j h)
   ·have:j=w:=by simpa using h
    rw[gs,ah this];exact lr
  ·have h1:=NC n (x:=some (iJ (gt B' w) (S.bh x l))) wl;have h2:=rR bw ll e;have h3:=F.uQ;show 2*hts n (B'.set w (some (iJ (gt B' w) (S.bh x l))))+(W'++[w]).length<=_;rw[a8,cE];omega
theorem mr.done(I:gB S P B (ws++[p]))(hx:c[p]? =some x)(hl:gt B p=some l){B':List (EE α)}{W' js:ψ}(hjs:∀j∈S.ld p x l,j∈js)(F:mr S P B ws (S.bh x l) js B' W'):gB S P B' W' where
 len:=F.len
 wf:=F.wf
 wb:=F.wb
 up:=F.up
 st:=le_trans (F.dn 0) I.st
 ap:=F.ap
 f_:=λi y m hi hn em j hj=>by
  have eq:gt B' i=gt B i:=by
   by_cases q:gt B' i=gt B i
   ·exact q
   ·exact absurd (F.chg i q) hn
  rw[eq]at em;by_cases q:i=p
  ·subst q;rw[hx]at hi;cases hi;rw[hl]at em;cases em;exact F.yP j (hjs j hj)
  ·refine le_trans (F.dn j) (I.f_ i y m hi (λz=>?_) em j hj);rcases bL.mp z with z |z
   ·exact hn (F.sub i z)
   ·exact q (by simpa using z)
theorem gB.pop(I:gB S P B (ws++[p]))(hp:p=c.length):gB S P B ws:=⟨I.len,I.wf,λq hq=>I.wb q (fm _ hq),I.up,I.st,I.ap,λi y m hi hn em j hj=>I.f_ i y m hi (λz=>by
 rcases bL.mp z with z |z
 ·exact hn z
 ·have:i=p:=by simpa using z
  have:=g_ hi;omega) em j hj⟩
theorem gB.sol(I:gB S P B []):S.eX B/\(∀j,le (gt B j) (gt S.start j))/\∀Y,S.eX Y->(∀j,le (gt Y j) (gt S.start j))->∀j,le (gt Y j) (gt B j):=by
 refine⟨λi x l h1 h2 j hj=>I.f_ i x l h1 (by simp) h2 j hj,λj=>?_,I.up⟩;cases j with
 |zero=>exact I.st
 |succ j=>rw[S.jf];exact λb e=>by cases e
end
end
noncomputable def rT(p:Nat)(x:Ins)(l:KL):List Nat:=match x with
 | .stop=>[]
 | .goto t=>[t]
 | .cond a t=>(match knows l a with
  |none=>[p+1,t]
  |some z=>if z=0 then [p+1]else [t])
 |_=>[p+1]
theorem uR{p j:Nat}{x:Ins}{l:KL}:j∈rT p x l ↔ j∈mayLead p x l:=by
 cases x with
 |cond a t=>
  rw[uK];show j∈(match knows l a with |none=>[p+1,t] |some z=>if z=0 then [p+1]else [t]) ↔ _;cases knows l a with
  |none=>simp only[aX,dB,dC];exact Or.comm
  |some z=>exact jt
 |_=>exact jt
theorem X6{P:Int->Prop}{x:Ins}{l:KL}(hl:AllP P l)(h:∀z,jd x l=some z->P z):AllP P (behind x l):=by
 rw[zw];cases givesOf x with
 |none=>exact hl
 |some d=>
  intro z hz;rcases Rr hz with e |e
  ·exact hl z e
  ·exact h z e.symm
def DQ(n:Nat){c:Code}(hb:uM c):Sys Int n c where
 fst:=List.replicate n (some 0)
 len:=qy
 bh:=behind
 bl:=ND
 ld:=rT
 bm:=λi a b h=>NF h i
 lm:=λp i a b j h k=>uR.mpr (NG h (uR.mp k))
 ib:=λp i l h j hj=>hb p i l h j (uR.mp hj)
theorem gB.known{n:Nat}{c:Code}{P:Int->Prop}{B:List Env}(hb:uM c)(I:gB (DQ n hb) P B [])(j:Nat):gt B j=knownAt (Sz43.known n c) j:=by obtain⟨k1,k2,k3,k4,k5⟩:=NJ (n:=n) hb;obtain⟨s1,s2,s3⟩:=I.sol;refine aby (k5 B (λi x l h1 h2 j hj=>s1 i x l h1 h2 j (uR.mpr hj)) s2 j) (s3 _ (λi x l h1 h2 j hj=>k3 i x l h1 h2 j (uR.mp hj)) k4 j)
theorem NN{α:Type}{p q:α->Bool}:∀(l:List α),(∀j∈l,p j=true->q j=true)->(l.filter p).length<=(l.filter q).length/\(l.filter p=l.filter q\/(l.filter p).length<(l.filter q).length)
 |[],_=>⟨aJ _,.inl rfl⟩
 |a::l,h=>by
  obtain⟨i1,i2⟩:=NN l λj hj=>h j (bM _ hj)
  have h0:=h a dN;rw[qK,qK];cases hp:p a with
  |true=>
   rw[h0 hp,ah rfl,ah rfl,bT,bT];refine⟨by omega,?_⟩;rcases i2 with e |e
   ·exact .inl (by rw[e])
   ·exact .inr (by omega)
  |false=>
   cases hq:q a with
   |true=>rw[af (by decide),ah rfl,bT];exact⟨by omega,.inr (by omega)⟩
   |false=>rw[af (by decide),af (by decide)];exact⟨i1,i2⟩
def dh(n:Nat)(p:List Nat->Nat->Bool)(l:ψ):List Nat:=(List.range n).filter (p l)
theorem jZ{n:Nat}{p:List Nat->Nat->Bool}{l:ψ}{j:Nat}:j∈dh n p l ↔ j<n/\p l j=true:=by unfold dh;rw[fk,qv]
section
variable{n:Nat}{p:List Nat->Nat->Bool}(mono:∀l m,(∀x∈l,x∈m)->∀j,p l j=true->p m j=true)
include mono
theorem NO:∀k,∀x∈repeated (dh n p) k [],x∈repeated (dh n p) (k+1) []
 |0,x,h=>nomatch h
 |k+1,x,h=>by rw[dt]at h ⊢;rw[jZ]at h ⊢;exact⟨h.1,mono _ _ (NO k) _ h.2⟩
theorem DR:∀k,repeated (dh n p) (k+1) []=repeated (dh n p) k []\/k<(repeated (dh n p) (k+1) []).length
 |0=>by
  cases e:repeated (dh n p) (0+1) []with
  |nil=>exact .inl rfl
  |cons a l=>exact .inr (by simp)
 |k+1=>by
  rcases DR k with e |e
  ·exact .inl ((dt _ _ _).trans ((c7 _ e).trans (dt _ _ _).symm))
  ·have h1:repeated (dh n p) (k+1) []=(List.range n).filter (p (repeated (dh n p) k [])):=by
    rw[dt];rfl
   have h2:repeated (dh n p) (k+2) []=(List.range n).filter (p (repeated (dh n p) (k+1) [])):=by rw[dt];rfl
   have:=(NN (p:=p (repeated (dh n p) k [])) (q:=p (repeated (dh n p) (k+1) [])) (List.range n) (λj _=>mono _ _ (NO (n:=n) mono k) j)).2;rw[<-h1,<-h2]at this;rcases this with e2 |e2
   ·exact .inl e2.symm
   ·exact .inr (qI e e2)
theorem yQ:dh n p (repeated (dh n p) (n+1) [])=repeated (dh n p) (n+1) []:=by
 have hl:(repeated (dh n p) (n+1) []).length<=n:=by rw[dt];exact bE (v_ _ _) (by rw[gJ];exact aJ _)
 rcases DR (n:=n) mono n with e |e
 ·exact(c7 (dh n p) e).trans (dt _ _ _).symm
 ·omega
end
inductive Reach(c:Code):Nat->Prop
 |zero:0<c.length->Reach c 0
 |step {i j:Nat} {x:Ins}:Reach c i->c[i]? =some x->j∈nexts i x->j<c.length->Reach c j
def rP(c:Code)(l:ψ)(j:Nat):Bool:=j==0||l.any λ(i:Nat)=>((c[i]?).map (nexts i)).any λm=>m.contains j
theorem yR{c:Code}{l:ψ}{j:Nat}:rP c l j=true ↔ j=0\/∃i∈l,∃x,c[i]? =some x/\j∈nexts i x:=by
 unfold rP;rw[zO,ke,mO];constructor
 ·rintro(h |⟨i,hi,h⟩)
  ·exact .inl h
  ·refine .inr ⟨i,hi,?_⟩;cases e:c[i]? with
   |none=>rw[e]at h;cases h
   |some x=>rw[e]at h;exact⟨x,rfl,by simpa using h⟩
 ·rintro(h |⟨i,hi,x,e,h⟩)
  ·exact .inl h
  ·refine .inr ⟨i,hi,?_⟩;rw[e];simpa using h
theorem X7(c:Code):reached c=repeated (dh c.length (rP c)) (c.length+1) []:=rfl
theorem NP(c:Code)(l m:ψ)(h:∀x∈l,x∈m)(j:Nat)(k:rP c l j=true):rP c m j=true:=by
 rw[yR]at k ⊢;rcases k with k |⟨i,hi,r⟩
 ·exact .inl k
 ·exact .inr ⟨i,h i hi,r⟩
theorem X8{c:Code}{j:Nat}:j∈reached c ↔ Reach c j:=by
 rw[X7];constructor
 ·generalize c.length+1=k;intro h
  induction k generalizing j with
  |zero=>exact nomatch h
  |succ k ih=>
   rw[dt,jZ,yR]at h;obtain⟨hj,h |⟨i,hi,x,e,h⟩⟩:=h
   ·subst h;exact .zero hj
   ·exact .step (ih hi) e h hj
 ·intro h
  induction h with
  |zero h=>rw[<-yQ (NP c),jZ,yR];exact⟨h,.inl rfl⟩
  |step h1 h2 h3 h4 ih=>rw[<-yQ (NP c),jZ,yR];exact⟨h4,.inr ⟨_,ih,_,h2,h3⟩⟩
inductive j0(c:Code)(v:Nat):Nat->Prop
 |use {i:Nat} {x:Ins}:c[i]? =some x->v∈usesOf x->j0 c v i
 |pass {i j:Nat} {x:Ins}:c[i]? =some x->j∈nexts i x->givesOf x≠some v->j0 c v j->j0 c v i
def nP(c:Code)(v:Nat)(l:ψ)(i:Nat):Bool:=match c[i]? with
 |some x=>(usesOf x).contains v||(givesOf x !=some v&&(nexts i x).any λj=>l.contains j)
 |none=>false
theorem uS{c:Code}{v:Nat}{l:ψ}{i:Nat}:nP c v l i=true ↔ ∃x,c[i]? =some x/\(v∈usesOf x\/(givesOf x≠some v/\∃j∈nexts i x,j∈l)):=by
 unfold nP;cases e:c[i]? with
 |none=>
  constructor
  ·intro h;cases h
  ·rintro⟨x,h,_⟩
   cases h
 |some x=>
  constructor
  ·intro h;refine⟨x,rfl,?_⟩;simpa using h
  ·rintro⟨y,h,k⟩
   cases h;simpa using k
theorem NQ(c:Code)(v:Nat)(l m:ψ)(h:∀x∈l,x∈m)(j:Nat)(k:nP c v l j=true):nP c v m j=true:=by
 rw[uS]at k ⊢;obtain⟨x,e,k⟩:=k;refine⟨x,e,k.imp_right ?_⟩
 rintro⟨g,i,hi,r⟩
 exact⟨g,i,hi,h i r⟩
theorem X9{c:Code}{l:ξ}{i v:Nat}:v∈(needOnce c l).getD i [] ↔ ∃x,c[i]? =some x/\(v∈usesOf x\/(givesOf x≠some v/\∃j∈nexts i x,v∈l.getD j [])):=by
 unfold needOnce;rw[dy,bC,Rt];cases e:c[i]? with
 |none=>
  constructor
  ·intro h;exact nomatch h
  ·rintro⟨x,h,_⟩
   cases h
 |some x=>
  show v∈List.eraseDups _ ↔ _;rw[List.mem_eraseDups,bL,fk,zP];constructor
  ·rintro(h |⟨h,g⟩)
   ·exact⟨x,rfl,.inl h⟩
   ·exact⟨x,rfl,.inr ⟨by simpa using g,by simpa using h⟩⟩
  ·rintro⟨y,h,k⟩
   cases h;rcases k with k |⟨g,j,hj,k⟩
   ·exact .inl k
   ·exact .inr ⟨⟨j,by simpa using hj,k⟩,by simpa using g⟩
theorem DS{c:Code}{v:Nat}:∀(k i:Nat),v∈(repeated (needOnce c) k (c.map λ_=>[])).getD i [] ↔ i∈repeated (dh c.length (nP c v)) k []
 |0,i=>by show v∈(c.map λ_=>([]:List Nat)).getD i [] ↔ i∈[];rw[dy,bC];cases c[i]? <;>simp
 |k+1,i=>by
  rw[dt,dt,X9,jZ,uS];constructor
  ·rintro⟨x,e,h⟩
   refine⟨g_ e,x,e,h.imp_right ?_⟩
   rintro⟨g,j,hj,r⟩
   exact⟨g,j,hj,(DS k j).mp r⟩
  ·rintro⟨_,x,e,h⟩
   refine⟨x,e,h.imp_right ?_⟩
   rintro⟨g,j,hj,r⟩
   exact⟨g,j,hj,(DS k j).mpr r⟩
theorem X_{c:Code}{i v:Nat}:v∈(needed c).getD i [] ↔ j0 c v i:=by
 show v∈(repeated (needOnce c) (c.length+1) (c.map λ_=>[])).getD i [] ↔ _;rw[DS];constructor
 ·generalize c.length+1=k;intro h
  induction k generalizing i with
  |zero=>exact nomatch h
  |succ k ih=>
   rw[dt,jZ,uS]at h;obtain⟨_,x,e,h |⟨g,j,hj,r⟩⟩:=h
   ·exact .use e h
   ·exact .pass e hj g (ih r)
 ·intro h
  induction h with
  |use e h=>rw[<-yQ (NQ c v),jZ,uS];exact⟨g_ e,_,e,.inl h⟩
  |pass e hj g _ ih=>rw[<-yQ (NQ c v),jZ,uS];exact⟨g_ e,_,e,.inr ⟨g,_,hj,ih⟩⟩
theorem Ya{c:Code}{i v:Nat}{x:Ins}:v∈neededBehind c i x ↔ ∃j∈nexts i x,j0 c v j:=by unfold neededBehind;rw[zP];exact exists_congr λj=>and_congr_right λ_=>X_
end My
namespace My.F
open Sz43
abbrev FE:=Option (List Fact)
def le(x y:FE):Prop:=∀b,y=some b->∃a,x=some a/\∀f∈a,f∈b
def sb(x y:FE):Prop:=∀b,y=some b->∃a,x=some a/\a.Sublist b
theorem Fp(x:FE):le x none:=λb e=>by cases e
theorem DT(x:FE):sb x none:=λb e=>by cases e
theorem le_refl(x:FE):le x x:=λb e=>⟨b,e,λ_ h=>h⟩
theorem qd(x:FE):sb x x:=λb e=>⟨b,e,List.Sublist.refl b⟩
theorem NS{x y:FE}(h:sb x y):le x y:=λb e=>by obtain⟨a,e2,h2⟩:=h b e;exact⟨a,e2,λf hf=>h2.subset hf⟩
theorem le_trans{x y z:FE}(h:le x y)(k:le y z):le x z:=λc e=>by obtain⟨b,e2,h2⟩:=k c e;obtain⟨a,e3,h3⟩:=h b e2;exact⟨a,e3,λf hf=>h2 f (h3 f hf)⟩
theorem DU{x y z:FE}(h:sb x y)(k:sb y z):sb x z:=λc e=>by obtain⟨b,e2,h2⟩:=k c e;obtain⟨a,e3,h3⟩:=h b e2;exact⟨a,e3,h3.trans h2⟩
def makes(i:Ins):Option Fact:=match i with
 | .copy d a=>if d=a then none else some (d,.same a)
 | .op k d a b=>if d=a\/d=b then none else some (d,.made k a b)
 |_=>none
def U(c:Code):List Fact:=c.filterMap makes
theorem Yb(c:Code):(U c).length<=c.length:=List.length_filterMap_le _ _
def nL(c:Code)(l:List Fact):Prop:=l.Nodup/\∀f∈l,f∈U c
def Wf(c:Code)(x:FE):Prop:=∀l,x=some l->nL c l
theorem yS{α:Type} [BEq α] [LawfulBEq α]:∀{l m:List α},l.Nodup->(∀x∈l,x∈m)->l.length<=m.length
 |[],_,_,_=>bS _
 |a::l,m,hn,h=>by
  rw[vN]at hn;have ha:a∈m:=h a dN;have:=yS (l:=l) (m:=m.erase a) hn.2 λx hx=>by refine(List.mem_erase_of_ne ?_).mpr (h x (bM _ hx));intro e;subst e;exact hn.1 hx
  rw[List.length_erase_of_mem ha]at this;have:=List.length_pos_of_mem ha;rw[bT];omega
theorem Yc{c:Code}{l:List Fact}(h:nL c l):l.length<=c.length:=bE (yS h.1 h.2) (Yb c)
theorem Yd(x y:FE):sb (common x y) x:=by
 cases x with
 |none=>exact DT _
 |some l=>
  cases y with
  |none=>exact qd _
  |some m=>intro b e;cases e;exact⟨_,rfl,List.filter_sublist⟩
theorem Ye(x y:FE):le (common x y) y:=by
 cases x with
 |none=>exact le_refl _
 |some l=>
  cases y with
  |none=>exact Fp _
  |some m=>intro b e;cases e;exact⟨_,rfl,λf hf=>by simpa using (fk.mp hf).2⟩
theorem Yf{z x y:FE}(h:le z x)(k:le z y):le z (common x y):=by
 cases x with
 |none=>exact k
 |some l=>
  cases y with
  |none=>exact h
  |some m=>intro b e;cases e;obtain⟨a,e1,h1⟩:=h l rfl;obtain⟨a',e2,h2⟩:=k m rfl;rw[e1]at e2;cases e2;exact⟨a,e1,λf hf=>fk.mpr ⟨h1 f hf,by simpa using h2 f hf⟩⟩
theorem Yg{c:Code}{l:List Fact}(h:nL c l)(p:Fact->Bool):nL c (l.filter p):=⟨h.1.filter p,λf hf=>h.2 f (fk.mp hf).1⟩
theorem Yh{c:Code}{x y:FE}(hx:Wf c x)(hy:Wf c y):Wf c (common x y):=by
 cases x with
 |none=>exact hy
 |some l=>
  cases y with
  |none=>exact hx
  |some m=>intro b e;cases e;exact Yg (hx l rfl) _
def ht(n:Nat):FE->Nat
 |none=>n+1
 |some l=>l.length
theorem rR{c:Code}{x y:FE}(hx:Wf c x)(h:sb x y)(k:x≠y):ht c.length x<ht c.length y:=by
 cases y with
 |none=>
  cases x with
  |none=>exact absurd rfl k
  |some l=>exact Nat.lt_succ_of_le (Yc (hx l rfl))
 |some b=>
  obtain⟨a,e,h2⟩:=h b rfl;subst e;show a.length<b.length;have:=h2.length_le;by_cases e:b.length<=a.length
  ·exact absurd (by rw[h2.eq_of_length_le e]) k
  ·omega
theorem uH{c:Code}{x y:FE}(hx:Wf c x)(h:sb x y):ht c.length x<=ht c.length y:=by
 by_cases e:x=y
 ·rw[e];exact aJ _
 ·exact qw (rR hx h e)
theorem yL{c:Code}{x:FE}(hx:Wf c x):ht c.length x<=c.length+1:=uH (y:=none) hx (DT _)
def hts(n:Nat)(l:List FE):Nat:=(l.map (ht n)).sum
def gt(l:List FE)(j:Nat):FE:=(l[j]?).bind id
theorem mq{l:List FE}{j:Nat}(h:l.length<=j):gt l j=none:=by unfold gt;rw[iM h];rfl
theorem jE{l:List FE}{j:Nat}{x:FE}(h:j<l.length):gt (l.set j x) j=x:=by unfold gt;rw[lC h];rfl
theorem kY{l:List FE}{j k:Nat}{x:FE}(h:k≠j):gt (l.set j x) k=gt l k:=by unfold gt;rw[nW (cq h)]
def bP(c:Code)(l:List FE):Prop:=∀j,Wf c (gt l j)
theorem uI{c:Code}:∀{l m:List FE},l.length=m.length->bP c l->(∀j,sb (gt l j) (gt m j))->hts c.length l<=hts c.length m/\(l≠m->hts c.length l<hts c.length m)
 |[],[],_,_,_=>⟨aJ _,λh=>absurd rfl h⟩
 |x::l,y::m,h,hw,hl=>by
  obtain⟨i1,i2⟩:=uI (c:=c) (l:=l) (m:=m) (by simpa using h) (λj=>hw (j+1)) λj=>hl (j+1)
  have w0:Wf c x:=hw 0;have l0:sb x y:=hl 0;have h0:=uH w0 l0;unfold hts at*;rw[bx,bx,iQ,iQ];refine⟨by omega,λk=>?_⟩;by_cases e:x=y
  ·subst e;have:=i2 λz=>k (by rw[z])
   omega
  ·have:=rR w0 l0 e;omega
theorem uP{c:Code}:∀{l:List FE},bP c l->hts c.length l<=l.length*(c.length+1)
 |[],_=>bS _
 |x::l,h=>by
  have ih:=uP (c:=c) (l:=l) λj=>h (j+1)
  have h0:ht c.length x<=c.length+1:=yL (h 0);unfold hts at*;rw[bx,iQ,bT,Nat.add_mul,Nat.one_mul];omega
theorem NT(i:Ins)(l:List Fact):told i l=match givesOf i with
  |none=>l
  |some d=>(match i with
   | .copy d a=>if d=a then l else (l.filter λ(f:Fact)=> !speaksOf d f)++(makes i).toList
   |_=>(l.filter λ(f:Fact)=> !speaksOf d f)++(makes i).toList):=by
 cases i with
 |copy d a=>
  show(if d=a then l else _)=if d=a then l else _
  split
  ·rfl
  ·next h=>simp only[makes,af h];rfl
 |op k d a b=>
  show(if d=a\/d=b then _ else _)=_++_;simp only[makes];split
  ·exact(ie _).symm
  ·rfl
 |num d z=>exact(ie _).symm
 |read d=>exact(ie _).symm
 |_=>rfl
def gb:Ins->Bool
 | .copy d a=>d==a
 |_=>false
theorem yT{i:Ins}{l:List Fact}{f:Fact}:f∈told i l ↔ (match givesOf i with
  |none=>f∈l
  |some d=>if gb i=true then f∈l else (f∈l/\speaksOf d f=false)\/makes i=some f):=by
 rw[NT];cases i with
 |copy d a=>
  show f∈(if d=a then l else _) ↔ if _ then _ else _
  by_cases h:d=a
  ·subst h;rw[ah rfl,ah (by simp[gb])]
  ·rw[af h,af (by simpa[gb]using h),bL,fk,F1];simp
 |op k d a b=>
  show f∈_++_ ↔ if _ then _ else _
  rw[af (by simp[gb]),bL,fk,F1];simp
 |num d z=>
  show f∈_++_ ↔ if _ then _ else _
  rw[af (by simp[gb]),bL,fk,F1];simp
 |read d=>
  show f∈_++_ ↔ if _ then _ else _
  rw[af (by simp[gb]),bL,fk,F1];simp
 |print a=>exact jt
 |goto a=>exact jt
 |cond a b=>exact jt
 |stop=>exact jt
theorem NU{a b:List Fact}(h:∀f∈a,f∈b)(i:Ins):∀f∈told i a,f∈told i b:=by
 intro f hf;rw[yT]at hf ⊢;cases e:givesOf i with
 |none=>rw[e]at hf;exact h f hf
 |some d=>
  rw[e]at hf;dsimp only at hf ⊢;split at hf
  ·next k=>rw[ah k];exact h f hf
  ·next k=>rw[af k];exact hf.imp_left λz=>⟨h f z.1,z.2⟩
theorem Yi{i:Ins}{f:Fact}{d:Nat}(h:makes i=some f)(g:givesOf i=some d):speaksOf d f=true:=by
 cases i with
 |copy d a=>
  cases g;unfold makes at h;simp only at h;split at h
  ·cases h
  ·cases h;simp[speaksOf]
 |op k d a b=>
  cases g;unfold makes at h;simp only at h;split at h
  ·cases h
  ·cases h;simp[speaksOf]
 |_=>cases h
theorem Yj{i:Ins}{l:List Fact}(h:l.Nodup):(told i l).Nodup:=by
 rw[NT];have main:∀d,givesOf i=some d->((l.filter λ(f:Fact)=> !speaksOf d f)++(makes i).toList).Nodup:=by
  intro d g;cases e:makes i with
  |none=>rw[Option.toList_none,ie];exact h.filter _
  |some f=>rw[Option.toList_some,vZ];refine⟨h.filter _,by simp,?_⟩;intro x hx y hy;have:=(fk.mp hx).2;simp at hy this;subst hy;intro z;subst z;rw[Yi e g]at this;cases this
 cases i with
 |copy d a=>
  show(if d=a then l else _).Nodup;split
  ·exact h
  ·exact main d rfl
 |op k d a b=>exact main d rfl
 |num d z=>exact main d rfl
 |read d=>exact main d rfl
 |_=>exact h
theorem Yk{c:Code}{i:Nat}{x:Ins}{l:List Fact}(hx:c[i]? =some x)(h:nL c l):nL c (told x l):=by
 refine⟨Yj h.1,λf hf=>?_⟩;rw[yT]at hf;cases e:givesOf x with
 |none=>rw[e]at hf;exact h.2 f hf
 |some d=>
  rw[e]at hf;dsimp only at hf;split at hf
  ·exact h.2 f hf
  ·rcases hf with hf |hf
   ·exact h.2 f hf.1
   ·exact nY.mpr ⟨x,br hx,hf⟩
end My.F
namespace My.F
open Sz43
def eX(c:Code)(Y:List FE):Prop:=∀(i:Nat)(x:Ins)(l:List Fact),c[i]? =some x->gt Y i=some l->∀j∈nexts i x,le (gt Y j) (some (told x l))
def dI(v:List Fact)(js:ψ)(m:List FE):List FE:=js.foldl (λ(m:List FE)(j:Nat)=>m.set j (common ((m[j]?).bind id) (some v))) m
theorem uL{c:Code}{v:List Fact}(hv:nL c v):∀(js:ψ)(m:List FE),bP c m->(dI v js m).length=m.length/\bP c (dI v js m)/\(∀k,sb (gt (dI v js m) k) (gt m k))/\(∀j∈js,j<m.length->le (gt (dI v js m) j) (some v))/\ ∀Y:List FE,(∀k,le (gt Y k) (gt m k))->(∀j∈js,le (gt Y j) (some v))->∀k,le (gt Y k) (gt (dI v js m) k)
 |[],m,hw=>⟨rfl,hw,λ_=>qd _,λ_ h=>absurd h (by simp),λ_ h _=>h⟩
 |j::js,m,hw=>by
  have wv:Wf c (some v):=λl e=>by cases e;exact hv
  have hw1:bP c (m.set j (common (gt m j) (some v))):=λk=>by
   by_cases e:k=j
   ·subst e;by_cases hl:k<m.length
    ·rw[jE hl];exact Yh (hw k) wv
    ·rw[mq (by rw[gk];omega)];exact λl e=>by cases e
   ·rw[kY e];exact hw k
  have le1:∀k,sb (gt (m.set j (common (gt m j) (some v))) k) (gt m k):=λk=>by
   by_cases e:k=j
   ·subst e;by_cases hl:k<m.length
    ·rw[jE hl];exact Yd _ _
    ·rw[mq (l:=m) (by omega)];exact DT _
   ·rw[kY e];exact qd _
  obtain⟨a1,a2,a3,a4,a5⟩:=uL hv js (m.set j (common (gt m j) (some v))) hw1;have eb:dI v (j::js) m=dI v js (m.set j (common (gt m j) (some v))):=rfl;rw[eb];refine⟨by rw[a1,gk],a2,λk=>DU (a3 k) (le1 k),λi hi hl=>?_,λY hY hj=>?_⟩
  ·rcases aX.mp hi with e |e
   ·subst e;refine le_trans (NS (a3 i)) ?_;rw[jE hl];exact Ye _ _
   ·exact a4 i e (by rw[gk];exact hl)
  ·refine a5 Y (λk=>?_) λi hi=>hj i (bM _ hi)
   by_cases e:k=j
   ·subst e;by_cases hl:k<m.length
    ·rw[jE hl];exact Yf (hY k) (hj k (by simp))
    ·rw[show gt (m.set k (common (gt m k) (some v))) k=none from mq (by rw[gk];omega)];exact Fp _
   ·rw[kY e];exact hY k
def bK(c:Code)(l:List FE)(m:List FE)(at_:Nat):List FE:=match c[at_]?,(l[at_]?).bind id with
 |some i,some e=>dI (told i e) (nexts at_ i) m
 |_,_=>m
theorem nJ(c:Code)(l:List FE):spreadFacts c l=(List.range c.length).foldl (bK c l) l:=rfl
theorem je{c:Code}{l:List FE}(hl:bP c l):∀(as:ψ)(m:List FE),bP c m->(as.foldl (bK c l) m).length=m.length/\bP c (as.foldl (bK c l) m)/\(∀k,sb (gt (as.foldl (bK c l) m) k) (gt m k))/\ (∀a∈as,∀i e,c[a]? =some i->gt l a=some e->∀j∈nexts a i,j<m.length->le (gt (as.foldl (bK c l) m) j) (some (told i e)))/\ ∀Y:List FE,(∀k,le (gt Y k) (gt m k))->(∀a∈as,∀i e,c[a]? =some i->gt l a=some e->∀j∈nexts a i,le (gt Y j) (some (told i e)))->∀k,le (gt Y k) (gt (as.foldl (bK c l) m) k)
 |[],m,hw=>⟨rfl,hw,λ_=>qd _,λ_ h=>absurd h (by simp),λ_ h _=>h⟩
 |a::as,m,hw=>by
  have one:(bK c l m a).length=m.length/\bP c (bK c l m a)/\(∀k,sb (gt (bK c l m a) k) (gt m k))/\(∀i e,c[a]? =some i->gt l a=some e->∀j∈nexts a i,j<m.length->le (gt (bK c l m a) j) (some (told i e)))/\
    ∀Y:List FE,(∀k,le (gt Y k) (gt m k))->(∀i e,c[a]? =some i->gt l a=some e->∀j∈nexts a i,le (gt Y j) (some (told i e)))->∀k,le (gt Y k) (gt (bK c l m a) k):=by
   cases hi:c[a]? with
   |none=>
    have e:bK c l m a=m:=by unfold bK;rw[hi]
    rw[e];exact⟨rfl,hw,λ_=>qd _,λ_ _ h=>(by cases h),λ_ h _=>h⟩
   |some i=>
    cases he:gt l a with
    |none=>
     have e:bK c l m a=m:=by unfold bK;unfold gt at he;rw[hi,he]
     rw[e];exact⟨rfl,hw,λ_=>qd _,λ_ _ _ h=>(by cases h),λ_ h _=>h⟩
    |some v=>
     have e:bK c l m a=dI (told i v) (nexts a i) m:=by unfold bK;unfold gt at he;rw[hi,he]
     have hv:nL c (told i v):=Yk hi (hl a v he);obtain⟨b1,b2,b3,b4,b5⟩:=uL hv (nexts a i) m hw;rw[e];refine⟨b1,b2,b3,λi' e' h1 h2=>?_,λY hY hj=>b5 Y hY (hj i v rfl rfl)⟩;cases h1;cases h2;exact b4
  obtain⟨o1,o2,o3,o4,o5⟩:=one;obtain⟨f1,f2,f3,f4,f5⟩:=je hl as (bK c l m a) o2;rw[qA];refine⟨f1.trans o1,f2,λk=>DU (f3 k) (o3 k),λb hb i e h1 h2 j hj hl'=>?_,λY hY hj=>?_⟩
  ·rcases aX.mp hb with z |z
   ·subst z;exact le_trans (NS (f3 j)) (o4 i e h1 h2 j hj hl')
   ·exact f4 b z i e h1 h2 j hj (by rw[o1];exact hl')
  ·exact f5 Y (o5 Y hY (hj a (by simp))) λb hb=>hj b (bM _ hb)
def fH(c:Code):Prop:=∀(i:Nat)(x:Ins),c[i]? =some x->∀j∈nexts i x,j<=c.length
section
variable{c:Code}
theorem uN{l:List FE}(hl:bP c l):(spreadFacts c l).length=l.length:=(je hl _ l hl).1
theorem qb{l:List FE}(hl:bP c l):bP c (spreadFacts c l):=(je hl _ l hl).2.1
theorem NV{l:List FE}(hl:bP c l)(k:Nat):sb (gt (spreadFacts c l) k) (gt l k):=(je hl _ l hl).2.2.1 k
theorem DM{l Y:List FE}(hl:bP c l)(S:eX c Y)(h:∀k,le (gt Y k) (gt l k))(k:Nat):le (gt Y k) (gt (spreadFacts c l) k):=by
 refine(je hl (List.range c.length) l hl).2.2.2.2 Y h (λa _ i e h1 h2 j hj=>?_) k;obtain⟨a',e1,l1⟩:=h a e h2;refine le_trans (S a i a' h1 e1 j hj) λb eb=>?_
 cases eb;exact⟨_,rfl,NU l1 i⟩
theorem DN{l:List FE}(hl:bP c l)(hb:fH c)(ln:l.length=c.length+1)(h:spreadFacts c l=l):eX c l:=by intro i x v h1 h2 j hj;have:=(je hl (List.range c.length) l hl).2.2.2.1 i (qv.mpr (g_ h1)) x v h1 h2 j hj (by have:=hb i x h1 j hj;omega);rw[<-nJ,h]at this;exact this
theorem qc(l:List FE)(hl:bP c l):∀k,(repeated (spreadFacts c) k l).length=l.length/\bP c (repeated (spreadFacts c) k l)/\∀j,sb (gt (repeated (spreadFacts c) k l) j) (gt l j)
 |0=>⟨rfl,hl,λ_=>qd _⟩
 |k+1=>by obtain⟨h1,h2,h3⟩:=qc l hl k;rw[dt];exact⟨(uN h2).trans h1,qb h2,λj=>DU (NV h2 j) (h3 j)⟩
theorem uO:∀(k:Nat)(l:List FE),bP c l->hts c.length l<k->spreadFacts c (repeated (spreadFacts c) k l)=repeated (spreadFacts c) k l
 |0,_,_,h=>absurd h (by omega)
 |k+1,l,hl,h=>by
  by_cases e:spreadFacts c l=l
  ·rw[yN _ e,e]
  ·show spreadFacts c (repeated (spreadFacts c) k (spreadFacts c l))=repeated (spreadFacts c) k (spreadFacts c l);have:=(uI (uN (c:=c) hl) (qb hl) (NV hl)).2 e;exact uO k _ (qb hl) (by omega)
def cK(c:Code):List FE:=some []::List.replicate c.length none
theorem rS(c:Code):(cK c).length=c.length+1:=by simp[cK]
theorem nK(c:Code):gt (cK c) 0=some []:=rfl
theorem jf(c:Code)(j:Nat):gt (cK c) (j+1)=none:=by unfold gt cK;rw[F0,n8];split<;>rfl
theorem jF(c:Code):bP c (cK c):=λj=>by
 cases j with
 |zero=>rw[nK];intro l e;cases e;exact⟨zD,λf h=>nomatch h⟩
 |succ j=>rw[jf];exact λl e=>by cases e
theorem yU(hb:fH c):(facts c).length=c.length+1/\bP c (facts c)/\eX c (facts c)/\gt (facts c) 0=some []/\∀Y,eX c Y->gt Y 0=some []->∀j,le (gt Y j) (gt (facts c) j):=by
 have ek:facts c=repeated (spreadFacts c) ((c.length+1)*(c.length+2)+1) (cK c):=rfl;rw[ek];obtain⟨h1,h2,h3⟩:=qc (c:=c) (cK c) (jF c) ((c.length+1)*(c.length+2)+1);have ht:=uP (jF c);rw[rS]at ht h1;have hm:(c.length+1)*(c.length+1)<=(c.length+1)*(c.length+2):=Nat.mul_le_mul_left _ (by omega);refine⟨h1,h2,DN h2 hb h1 (uO _ _ (jF c) (by omega)),?_,λY S hY=>?_⟩
 ·obtain⟨a,e,s⟩:=h3 0 [] (nK c);rw[e,List.sublist_nil.mp s]
 ·have all:∀k j,le (gt Y j) (gt (repeated (spreadFacts c) k (cK c)) j):=by
   intro k
   induction k with
   |zero=>
    intro j;cases j with
    |zero=>show le (gt Y 0) (some []);rw[hY];exact le_refl _
    |succ j=>show le _ (gt (cK c) (j+1));rw[jf];exact Fp _
   |succ k ih=>rw[dt];exact DM (qc (c:=c) (cK c) (jF c) k).2.1 S ih
  exact all _
theorem Yl(hb:fH c){Y:List FE}(S:eX c Y)(h0:gt Y 0=some [])(up:∀j,le (gt (facts c) j) (gt Y j))(j:Nat):(gt (facts c) j=none ↔ gt Y j=none)/\∀a b,gt (facts c) j=some a->gt Y j=some b->∀f,f∈a ↔ f∈b:=by
 have dn:=(yU hb).2.2.2.2 Y S h0 j;refine⟨⟨λe=>?_,λe=>?_⟩,λa b ea eb f=>⟨λh=>?_,λh=>?_⟩⟩
 ·cases hy:gt Y j with
  |none=>rfl
  |some b=>obtain⟨a,ea,_⟩:=up j b hy;rw[e]at ea;cases ea
 ·cases hy:gt (facts c) j with
  |none=>rfl
  |some b=>obtain⟨a,ea,_⟩:=dn b hy;rw[e]at ea;cases ea
 ·obtain⟨a',e',k⟩:=up j b eb;rw[ea]at e';cases e';exact k f h
 ·obtain⟨a',e',k⟩:=dn a ea;rw[eb]at e';cases e';exact k f h
end
end My.F
namespace My
open Sz43
theorem NW{n:Nat}{p:List Nat->Nat->Bool}(mono:∀l m,(∀x∈l,x∈m)->∀j,p l j=true->p m j=true):repeated (dh n p) (n+1) []=repeated (dh n p) n []:=by
 have hl:(repeated (dh n p) (n+1) []).length<=n:=by rw[dt];exact bE (v_ _ _) (by rw[gJ];exact aJ _)
 rcases DR (n:=n) mono n with e |e
 ·exact e
 ·omega
inductive Ends(c:Code):Nat->Nat->Prop
 |here {t:Nat}:(∀u,c[t]? ≠some (.goto u))->Ends c t t
 |on {t u v:Nat}:c[t]? =some (.goto u)->Ends c u v->Ends c t v
theorem NX{c:Code}{n t u:Nat}(h:c[t]? =some (.goto u)):follow c (n+1) t=follow c n u:=by
 show(match c[t]? with
  |some (.goto u)=>follow c n u
  |_=>some t)=_
 rw[h]
theorem NY{c:Code}{n t:Nat}(h:∀u,c[t]? ≠some (.goto u)):follow c (n+1) t=some t:=by
 show(match c[t]? with
  |some (.goto u)=>follow c n u
  |_=>some t)=_
 split
 ·next u e=>exact absurd e (h u)
 ·rfl
theorem DV(c:Code)(t:Nat):(∃u,c[t]? =some (.goto u))\/∀u,c[t]? ≠some (.goto u):=by
 by_cases h:∃u,c[t]? =some (.goto u)
 ·exact .inl h
 ·exact .inr λu e=>h ⟨u,e⟩
theorem uT{c:Code}:∀{n t u:Nat},follow c n t=some u->Ends c t u
 |0,_,_,h=>nomatch h
 |n+1,t,u,h=>by
  rcases DV c t with ⟨w,e⟩ |e
  ·rw[NX e]at h;exact .on e (uT h)
  ·rw[NY e]at h;cases h;exact .here e
theorem Ym{c:Code}{t u v:Nat}(h:Ends c t u)(k:Ends c t v):u=v:=by
 induction h with
 |here e=>
  cases k with
  |here _=>rfl
  |on e2 _=>exact absurd e2 (e _)
 |on e _ ih=>
  cases k with
  |here e2=>exact absurd e (e2 _)
  |on e2 k=>rw[e]at e2;cases e2;exact ih k
def fP(c:Code)(l:ψ)(t:Nat):Bool:=match c[t]? with
 |some (.goto u)=>l.contains u
 |_=>true
theorem DW{c:Code}{l:ψ}{t u:Nat}(h:c[t]? =some (.goto u)):fP c l t=l.contains u:=by unfold fP;rw[h]
theorem DX{c:Code}{l:ψ}{t:Nat}(h:∀u,c[t]? ≠some (.goto u)):fP c l t=true:=by
 unfold fP;split
 ·next u e=>exact absurd e (h u)
 ·rfl
theorem NZ(c:Code)(l m:ψ)(h:∀x∈l,x∈m)(t:Nat)(k:fP c l t=true):fP c m t=true:=by
 rcases DV c t with ⟨w,e⟩ |e
 ·rw[DW e]at k ⊢;simpa using h w (by simpa using k)
 ·exact DX e
theorem N0{c:Code}(hb:F.fH c):∀(k t:Nat),t<=c.length->(t∈repeated (dh (c.length+1) (fP c)) k [] ↔ (follow c k t).isSome=true)
 |0,t,_=>by
  constructor
  ·intro h;exact nomatch h
  ·intro h;cases h
 |k+1,t,ht=>by
  rw[dt,jZ];rcases DV c t with ⟨w,e⟩ |e
  ·rw[DW e,NX e,<-N0 hb k w (hb t _ e w (by simp[nexts]))];constructor
   ·rintro⟨_,h⟩
    simpa using h
   ·intro h;exact⟨by omega,by simpa using h⟩
  ·rw[DX e,NY e];exact⟨λ_=>rfl,λ_=>⟨by omega,rfl⟩⟩
theorem N1{c:Code}(hb:F.fH c){t u:Nat}(h:Ends c t u)(ht:t<=c.length):follow c (c.length+1) t=some u:=by
 have key:(follow c (c.length+1) t).isSome=true:=by
  rw[<-N0 hb _ t ht]
  induction h with
  |here e=>rw[<-NW (NZ c),dt,jZ];exact⟨by omega,DX e⟩
  |on e _ ih=>rw[<-NW (NZ c),dt,jZ];refine⟨by omega,?_⟩;rw[DW e];simpa using ih (hb _ _ e _ (by simp[nexts]))
 obtain⟨v,e⟩:=sG.mp key;rw[e,Ym h (uT e)]
theorem Yn{c:Code}(hb:F.fH c){t u:Nat}(ht:t<=c.length):follow c (c.length+1) t=some u ↔ Ends c t u:=⟨uT,λh=>N1 hb h ht⟩
theorem Yo{c:Code}(hb:F.fH c){t:Nat}(ht:t<=c.length):follow c (c.length+1) t=none ↔ ¬ ∃u,Ends c t u:=by
 constructor
 ·rintro e ⟨u,h⟩
  rw[N1 hb h ht]at e;cases e
 ·intro h;cases e:follow c (c.length+1) t with
  |none=>rfl
  |some u=>exact absurd ⟨u,uT e⟩ h
theorem DY:∀(l:ψ)(b:Nat),∃m,l.foldl (λ(b:Option Nat)(x:Nat)=>match b with
  |some y=>some (min x y)
  |none=>some x) (some b)=some m/\(m=b\/m∈l)/\m<=b/\∀x∈l,m<=x
 |[],b=>⟨b,rfl,.inl rfl,aJ _,λx h=>nomatch h⟩
 |a::l,b=>by
  obtain⟨m,e,h1,h2,h3⟩:=DY l (min a b);refine⟨m,e,?_,by omega,λx hx=>?_⟩
  ·rcases h1 with h1 |h1
   ·by_cases k:a<=b
    ·exact .inr (by rw[h1,Nat.min_eq_left k];exact dN)
    ·exact .inl (by omega)
   ·exact .inr (bM _ h1)
  ·rcases aX.mp hx with e |e
   ·omega
   ·exact h3 x e
theorem rV{l:ψ}{m:Nat}:least l=some m ↔ m∈l/\∀x∈l,m<=x:=by
 cases l with
 |nil=>
  constructor
  ·intro h;cases h
  ·rintro⟨h,_⟩
   exact nomatch h
 |cons a l=>
  obtain⟨k,e,h1,h2,h3⟩:=DY l a;have el:least (a::l)=some k:=e;have hk:k∈a::l:=h1.elim (λz=>z▸dN) λz=>bM _ z
  have hm:∀x∈a::l,k<=x:=λx hx=>(aX.mp hx).elim (λz=>z▸h2) (h3 x)
  rw[el];constructor
  ·intro z;cases z;exact⟨hk,hm⟩
  ·rintro⟨g1,g2⟩
   have:=hm m g1;have:=g2 k hk
   congr 1
   omega
theorem yV{l:ψ}:least l=none ↔ l=[]:=by
 cases l with
 |nil=>exact⟨λ_=>rfl,λ_=>rfl⟩
 |cons a l=>obtain⟨k,e,_⟩:=DY l a;have el:least (a::l)=some k:=e;rw[el];exact⟨λh=>(by cases h),λh=>(by cases h)⟩
theorem N2{l m:ψ}(h:∀x,x∈l ↔ x∈m):least l=least m:=by
 cases e:least l with
 |none=>
  rw[yV]at e;subst e;refine(yV.mpr ?_).symm;cases m with
  |nil=>rfl
  |cons a m=>exact nomatch (h a).mpr dN
 |some k=>rw[rV]at e;refine(rV.mpr ⟨(h k).mp e.1,λx hx=>e.2 x ((h x).mpr hx)⟩).symm
def rW(a:Nat)(f:Fact):Option Nat:=match f with
 |(d,.same y)=>if d=a then some y else none
 |_=>none
theorem zx(l:List Fact)(a:Nat):root l a=(least (l.filterMap (rW a))).getD a:=rfl
theorem N3{a y:Nat}{f:Fact}:rW a f=some y ↔ f=(a,.same y):=by
 obtain⟨d,h⟩:=f;cases h with
 |same z=>
  show(if d=a then some z else none)=some y ↔ _;by_cases e:d=a
  ·subst e;simp
  ·simp[e]
 |made k b c=>
  constructor
  ·intro h;cases h
  ·intro h;cases h
theorem yW{l:List Fact}{a y:Nat}:y∈l.filterMap (rW a) ↔ (a,Holds.same y)∈l:=by
 rw[nY];constructor
 ·rintro⟨f,hf,e⟩
  rw[N3]at e;exact e▸hf
 ·intro h;exact⟨_,h,N3.mpr rfl⟩
theorem yX{l m:List Fact}(h:∀f,f∈l ↔ f∈m)(a:Nat):root l a=root m a:=by rw[zx,zx,N2 λx=>yW.trans ((h _).trans yW.symm)]
theorem N4{l m:List Fact}(h:∀f,f∈l ↔ f∈m)(f:Fact):l.contains f=m.contains f:=by rw[gj];simpa using h f
theorem Yp{l m:List Fact}(h:∀f,f∈l ↔ f∈m)(i:Ins):shared l i=shared m i:=by
 cases i with
 |copy d a=>unfold shared;simp only[yX h,N4 h]
 |op k d a b=>
  unfold shared;have e:least ((l.filter λ(f:Fact)=>f.2==.made k (root m a) (root m b)).map λ(f:Fact)=>f.1)=least ((m.filter λ(f:Fact)=>f.2==.made k (root m a) (root m b)).map λ(f:Fact)=>f.1):=by
   refine N2 λx=>?_
   simp only[d_,fk,h]
  simp only[yX h,N4 h,e]
 |print a=>unfold shared;simp only[yX h]
 |cond a t=>unfold shared;simp only[yX h]
 |_=>rfl
def tgt:Ins->Option Nat
 | .goto t=>some t
 | .cond _ t=>some t
 |_=>none
structure hV(P:Int->Prop)(n m:Nat)(i:Ins):Prop where
 us:∀v∈usesOf i,v<n
 gv:∀d,givesOf i=some d->d<n
 nm:∀d z,i=.num d z->P z
 op:∀k d a b,i=.op k d a b->k<12
 tg:∀t,tgt i=some t->t<=m
def GoodC(P:Int->Prop)(n:Nat)(c:Code):Prop:=∀i∈c,hV P n c.length i
section
variable{P:Int->Prop}{n:Nat}{c:Code}
theorem Yq{i m:Nat}{x:Ins}(h:∀t,tgt x=some t->t<=m)(hi:i<m):∀j∈nexts i x,j<=m:=by
 intro j hj;cases x with
 |goto t=>simp[nexts]at hj;subst hj;exact h _ rfl
 |cond a t=>
  simp[nexts]at hj;rcases hj with e |e
  ·subst e;exact h _ rfl
  ·omega
 |stop=>simp[nexts]at hj
 |num d z=>simp[nexts]at hj;omega
 |copy d a=>simp[nexts]at hj;omega
 |op k d a b=>simp[nexts]at hj;omega
 |read d=>simp[nexts]at hj;omega
 |print a=>simp[nexts]at hj;omega
theorem GoodC.kZ(G:GoodC P n c):F.fH c:=λi x hx=>Yq (G x (br hx)).tg (g_ hx)
theorem Yr{i:Nat}{x:Ins}{l:KL}:∀j∈mayLead i x l,j∈nexts i x:=by
 intro j hj;cases x with
 |cond a t=>
  rw[uK]at hj;cases h:knows l a with
  |none=>rw[h]at hj;exact hj
  |some z=>
   rw[h]at hj;dsimp only at hj;split at hj
   ·simp at hj;simp[nexts,hj]
   ·simp at hj;simp[nexts,hj]
 |_=>exact hj
theorem GoodC.bounds(G:GoodC P n c):uM c:=λi x _ hx j hj=>G.kZ i x hx j (Yr j hj)
theorem rX{l:KL}(hl:AllP P l){v:Nat}{z:Int}(e:knows l v=some z):P z:=by
 unfold knows at e;cases hv:l[v]? with
 |none=>rw[hv]at e;cases e
 |some x=>rw[hv]at e;have e:x=some z:=e;exact hl z (by rw[<-e];exact br hv)
def k7(P:Int->Prop)(m:List Env):Prop:=∀j l,gt m j=some l->AllP P l
theorem Ys{m:List Env}{j:Nat}{x:Env}(h:k7 P m)(hx:∀l,x=some l->AllP P l):k7 P (m.set j x):=by
 intro k l e;by_cases q:k=j
 ·subst q;by_cases hl:k<m.length
  ·rw[jE hl]at e;exact hx l e
  ·rw[mq (by rw[gk];omega)]at e;cases e
 ·rw[kY q]at e;exact h k l e
theorem N5{v:KL}(hv:AllP P v):∀(js:ψ)(m:List Env),k7 P m->k7 P (dI v js m)
 |[],_,h=>h
 |j::js,m,h=>by show k7 P (dI v js (m.set j (both (gt m j) (some v))));refine N5 hv js _ (Ys h λl e=>?_);rw[DP]at e;cases e;exact NM (λl e=>h j l e) hv
variable(rk:∀k x y,P x->P y->P (reckon k x y))
include rk
theorem N6{i:Ins}{m:Nat}(O:hV P n m i){l:KL}(hl:AllP P l):AllP P (behind i l):=by
 refine X6 hl λz e=>?_
 cases i with
 |num d y=>have e:some y=some z:=e;cases e;exact O.nm d _ rfl
 |copy d v=>exact rX hl e
 |op k d v u=>
  rw[uJ]at e;cases h1:knows l v with
  |none=>rw[h1]at e;cases e
  |some x=>
   cases h2:knows l u with
   |none=>rw[h1,h2]at e;cases e
   |some y=>rw[h1,h2]at e;have e:some (reckon k x y)=some z:=e;cases e;exact rk _ _ _ (rX hl h1) (rX hl h2)
 |_=>cases e
theorem Yt(G:GoodC P n c){l:List Env}(hl:k7 P l):k7 P (spread c l):=by
 rw[nJ];have:∀(as:ψ)(m:List Env),k7 P m->k7 P (as.foldl (bK c l) m):=by
  intro as
  induction as with
  |nil=>exact λ_ h=>h
  |cons a as ih=>
   intro m h;rw[qA];refine ih _ ?_;unfold bK;split
   ·next i e hi he=>exact N5 (N6 rk (G i (br hi)) (hl a e he)) _ _ h
   ·exact h
 exact this _ _ hl
theorem Yu(h0:P 0)(G:GoodC P n c):k7 P (known n c):=by
 have ek:known n c=repeated (spread c) ((c.length+1)*(n+1)+1) (cK n c):=rfl;rw[ek];generalize (c.length+1)*(n+1)+1=k
 induction k with
 |zero=>
  intro j l e;cases j with
  |zero=>have e:some (List.replicate n (some (0:Int)))=some l:=e;cases e;intro z hz;have:=(List.mem_replicate.mp hz).2;cases this;exact h0
  |succ j=>have e:gt (cK n c) (j+1)=some l:=e;rw[jf]at e;cases e
 |succ k ih=>rw[dt];exact Yt rk G ih
omit rk
def bH(l:List (Option Ins))(t:Nat):Nat:=((l.take t).filter λ(y:Option Ins)=>y.isSome).length
theorem Q6(l:List (Option Ins)):closed l=l.filterMap λ(x:Option Ins)=>x.map (sent (bH l)):=rfl
theorem DZ{g:Ins->Ins}:∀(l:List (Option Ins)),(l.filterMap λ(x:Option Ins)=>x.map g).length=(l.filter λ(y:Option Ins)=>y.isSome).length
 |[]=>rfl
 |none::l=>DZ l
 |some x::l=>by show(g x::l.filterMap λ(x:Option Ins)=>x.map g).length=(some x::l.filter λ(y:Option Ins)=>y.isSome).length;rw[bT,bT,DZ l]
theorem D0(l:List (Option Ins)):(closed l).length=(l.filter λ(y:Option Ins)=>y.isSome).length:=DZ l
theorem Yv(l:List (Option Ins)):(closed l).length<=l.length:=by rw[D0];exact v_ _ _
theorem Yw(l:List (Option Ins))(t:Nat):bH l t<=(closed l).length:=by rw[D0];exact((Q_ t l).filter _).length_le
theorem N7{m m':Nat}{f:Nat->Nat}{i:Ins}(O:hV P n m i)(hf:∀t,t<=m->f t<=m'):hV P n m' (sent f i):=by
 cases i with
 |goto t=>exact⟨O.us,O.gv,λ_ _ e=>(by cases e),λ_ _ _ _ e=>(by cases e),λu e=>by cases e;exact hf _ (O.tg _ rfl)⟩
 |cond a t=>exact⟨O.us,O.gv,λ_ _ e=>(by cases e),λ_ _ _ _ e=>(by cases e),λu e=>by cases e;exact hf _ (O.tg _ rfl)⟩
 |_=>exact⟨O.us,O.gv,O.nm,O.op,λu e=>(by cases e)⟩
theorem Yx{l:List (Option Ins)}{m:Nat}(h:∀y,some y∈l->hV P n m y):GoodC P n (closed l):=by
 intro i hi;have hi':=hi;rw[Q6,nY]at hi';obtain⟨x,hx,e⟩:=hi';cases x with
 |none=>cases e
 |some y=>cases e;exact N7 (h y hx) λt _=>Yw l t
theorem yY{g:Ins×Nat->Option Ins}(h:∀i x y,c[i]? =some x->g (x,i)=some y->hV P n c.length y):GoodC P n (closed (c.zipIdx.map g))/\(closed (c.zipIdx.map g)).length<=c.length:=by refine⟨Yx (m:=c.length) λy hy=>?_,bE (Yv _) (by simp)⟩;obtain⟨⟨x,i⟩,hx,e⟩:=d_.mp hy;have:=Ru.mp hx;exact h i x y (by simpa using this) e
theorem D6{m d:Nat}{z:Int}(hd:d<n)(hz:P z):hV P n m (.num d z):=⟨λv h=>(by simp[usesOf]at h),λe h=>(by cases h;exact hd),λ_ _ e=>(by cases e;exact hz),λ_ _ _ _ e=>(by cases e),λ_ e=>(by cases e)⟩
theorem D7{m d a:Nat}(hd:d<n)(ha:a<n):hV P n m (.copy d a):=⟨λv h=>(by simp[usesOf]at h;omega),λe h=>(by cases h;exact hd),λ_ _ e=>(by cases e),λ_ _ _ _ e=>(by cases e),λ_ e=>(by cases e)⟩
include rk in
theorem D8(h0:P 0)(G:GoodC P n c):GoodC P n (fold n c)/\(fold n c).length<=c.length:=by
 refine yY (g:=λ(x:Ins×Nat)=>folded (knownAt (known n c) x.2) x.1) λi x y hx e=>?_
 have O:=G x (br hx);have e:folded (knownAt (known n c) i) x=some y:=e;cases hk:knownAt (known n c) i with
 |none=>rw[hk]at e;cases e
 |some l=>
  have hl:AllP P l:=Yu rk h0 G i l hk;rw[hk]at e;cases x with
  |num d z=>
   have e:(if knows l d=some z then none else some (Ins.num d z))=some y:=e;split at e
   ·cases e
   ·cases e;exact O
  |copy d a=>
   have e:(match knows l a with
    |some z=>if knows l d=some z then none else some (Ins.num d z)
    |none=>some (.copy d a))=some y:=e
   split at e
   ·next z hz=>
    split at e
    ·cases e
    ·cases e;exact D6 (O.gv d rfl) (rX hl hz)
   ·cases e;exact O
  |op k d a b=>
   have e:(match knows l a,knows l b with
    |some x,some y=>if knows l d=some (reckon k x y)then none else some (.num d (reckon k x y))
    |_,_=>some (.op k d a b))=some y:=e
   split at e
   ·next u v hu hv=>
    split at e
    ·cases e
    ·cases e;exact D6 (O.gv d rfl) (rk _ _ _ (rX hl hu) (rX hl hv))
   ·cases e;exact O
  |cond a t=>
   have e:(match knows l a with
    |some z=>if z=0 then none else some (Ins.goto t)
    |none=>some (.cond a t))=some y:=e
   split at e
   ·split at e
    ·cases e
    ·cases e;exact⟨λv h=>(by simp[usesOf]at h),λe h=>(by cases h),λ_ _ e=>(by cases e),λ_ _ _ _ e=>(by cases e),λu e=>(by cases e;exact O.tg _ rfl)⟩
   ·cases e;exact O
  |read d=>cases e;exact O
  |print d=>cases e;exact O
  |goto d=>cases e;exact O
  |stop=>cases e;exact O
theorem N8(G:GoodC P n c){f:Fact}(h:f∈F.U c):f.1<n/\∀y,f.2=.same y->y<n:=by
 obtain⟨i,hi,e⟩:=nY.mp h;have O:=G i hi;cases i with
 |copy d a=>
  unfold F.makes at e;simp only at e;split at e
  ·cases e
  ·cases e;exact⟨O.gv d rfl,λy h=>by cases h;exact O.us _ (by simp[usesOf])⟩
 |op k d a b=>
  unfold F.makes at e;simp only at e;split at e
  ·cases e
  ·cases e;exact⟨O.gv d rfl,λy h=>(by cases h)⟩
 |_=>cases e
theorem Yy{l:List Fact}(h:∀f∈l,∀y,f.2=.same y->y<n){a:Nat}(ha:a<n):root l a<n:=by
 rw[zx];cases e:least (l.filterMap (rW a))with
 |none=>exact ha
 |some m=>exact h _ (yW.mp (rV.mp e).1) m rfl
theorem Yz(G:GoodC P n c)(i:Nat):∀f∈factsAt (facts c) i,f∈F.U c:=by
 intro f hf;unfold factsAt at hf;cases e:((facts c)[i]?).bind id with
 |none=>rw[e]at hf;exact nomatch hf
 |some l=>rw[e]at hf;exact((F.yU G.kZ).2.1 i l e).2 f hf
theorem N9(G:GoodC P n c):GoodC P n (share c)/\(share c).length<=c.length:=by
 refine yY (g:=λ(x:Ins×Nat)=>shared (factsAt (facts c) x.2) x.1) λi x y hx e=>?_
 have O:=G x (br hx);have e:shared (factsAt (facts c) i) x=some y:=e;have hU:=Yz G i;generalize factsAt (facts c) i=l at e hU;have r:∀a,a<n->root l a<n:=λa ha=>Yy (λf hf=>(N8 G (hU f hf)).2) ha
 cases x with
 |copy d a=>
  have e:(if root l a=d\/l.contains (d,Holds.same (root l a))=true then none else some (Ins.copy d (root l a)))=some y:=e;split at e
  ·cases e
  ·cases e;exact D7 (O.gv d rfl) (r a (O.us _ (by simp[usesOf])))
 |op k d a b=>
  have e:(if l.contains (d,Holds.made k (root l a) (root l b))=true then none
   else match least ((l.filter λ(f:Fact)=>f.2==Holds.made k (root l a) (root l b)).map λ(f:Fact)=>f.1)with
   |some w=>some (Ins.copy d w)
   |none=>some (.op k d (root l a) (root l b)))=some y:=e
  have ha:=r a (O.us _ (by simp[usesOf]));have hb:=r b (O.us _ (by simp[usesOf]));split at e
  ·cases e
  ·split at e
   ·next w hw=>cases e;obtain⟨f,hf,ew⟩:=d_.mp (rV.mp hw).1;exact D7 (O.gv d rfl) (ew▸(N8 G (hU f (fk.mp hf).1)).1)
   ·cases e;exact⟨λv h=>(by simp[usesOf]at h;omega),O.gv,λ_ _ e=>(by cases e),λ_ _ _ _ e=>(by cases e;exact O.op _ _ _ _ rfl),λ_ e=>(by cases e)⟩
 |print a=>have e:some (Ins.print (root l a))=some y:=e;cases e;have ha:=r a (O.us _ (by simp[usesOf]));exact⟨λv h=>(by simp[usesOf]at h;omega),λ_ e=>(by cases e),λ_ _ e=>(by cases e),λ_ _ _ _ e=>(by cases e),λ_ e=>(by cases e)⟩
 |cond a t=>have e:some (Ins.cond (root l a) t)=some y:=e;cases e;have ha:=r a (O.us _ (by simp[usesOf]));exact⟨λv h=>(by simp[usesOf]at h;omega),λ_ e=>(by cases e),λ_ _ e=>(by cases e),λ_ _ _ _ e=>(by cases e),λu e=>(by cases e;exact O.tg _ rfl)⟩
 |num d z=>cases e;exact O
 |read d=>cases e;exact O
 |goto d=>cases e;exact O
 |stop=>cases e;exact O
theorem N_{g:Ins×Nat->Bool}(G:GoodC P n c):GoodC P n (closed (c.zipIdx.map λ(x:Ins×Nat)=>if g x=true then none else some x.1))/\(closed (c.zipIdx.map λ(x:Ins×Nat)=>if g x=true then none else some x.1)).length<=c.length:=by
 refine yY λi x y hx e=>?_
 split at e
 ·cases e
 ·cases e;exact G x (br hx)
theorem Oa(G:GoodC P n c):GoodC P n (spare c)/\(spare c).length<=c.length:=N_ (g:=needless c) G
theorem YA(G:GoodC P n c):GoodC P n (onward c)/\(onward c).length<=c.length:=N_ (g:=λ(x:Ins×Nat)=>leads (x.2+1) x.1) G
theorem Ob(G:GoodC P n c):GoodC P n (pruned c)/\(pruned c).length<=c.length:=by
 refine yY (g:=λ(x:Ins×Nat)=>if (reached c).contains x.2=true then some x.1 else none) λi x y hx e=>?_
 dsimp only at e;split at e
 ·cases e;exact G x (br hx)
 ·cases e
theorem YB(hb:F.fH c){t u:Nat}(h:Ends c t u)(ht:t<=c.length):u<=c.length:=by
 induction h with
 |here _=>exact ht
 |on e _ ih=>exact ih (hb _ _ e _ (by simp[nexts]))
theorem Oc(G:GoodC P n c):GoodC P n (straight c)/\(straight c).length<=c.length:=by
 have el:(straight c).length=c.length:=aI _;refine⟨λi hi=>?_,nZ el⟩;obtain⟨x,hx,e⟩:=d_.mp hi;subst e;refine N7 (G x hx) λt ht=>?_
 rw[el];cases e:follow c (c.length+1) t with
 |none=>exact ht
 |some u=>exact YB G.kZ (uT e) ht
include rk in
theorem YC(h0:P 0)(G:GoodC P n c):GoodC P n (once n c)/\(once n c).length<=c.length:=by obtain⟨g1,l1⟩:=D8 rk h0 G;obtain⟨g2,l2⟩:=N9 g1;obtain⟨g3,l3⟩:=Oa g2;obtain⟨g4,l4⟩:=Oc g3;obtain⟨g5,l5⟩:=Ob g4;obtain⟨g6,l6⟩:=YA g5;exact⟨g6,by unfold once;omega⟩
include rk in
theorem D9(h0:P 0)(G:GoodC P n c):∀k,GoodC P n (repeated (once n) k c)/\(repeated (once n) k c).length<=c.length
 |0=>⟨G,aJ _⟩
 |k+1=>by obtain⟨g,l⟩:=D9 h0 G k;rw[dt];obtain⟨g2,l2⟩:=YC rk h0 g;exact⟨g2,bE l2 l⟩
end
theorem uU{c:Code}{t:Nat}:t∈targets c ↔ t<=c.length/\c.any (leads t)=true:=by unfold targets;rw[fk,qv];exact and_congr_left λ_=>Nat.lt_succ_iff
theorem Od{t:Nat}{i:Ins}:leads t i=true ↔ tgt i=some t:=by cases i<;>simp[leads,tgt]
theorem D_{c:Code}{t:Nat}:c.any (leads t)=true ↔ ∃i∈c,tgt i=some t:=by rw[mO];exact exists_congr λi=>and_congr_right λ_=>Od
def eZ(n:Nat):List Nat:=if h:n<10 then [48+n]else eZ (n/10)++[48+n%10]
termination_by n
theorem rY{n:Nat}(h:n<10):eZ n=[48+n]:=by rw[eZ,dif_pos h]
theorem uV{n:Nat}(h:¬n<10):eZ n=eZ (n/10)++[48+n%10]:=by rw[eZ,dif_neg h]
theorem Oe:∀{d:Nat},d<10->(Nat.digitChar d).toNat=48+d:=by decide
theorem Of:∀(f n:Nat)(ds:List Char),n<f->(Nat.toDigitsCore 10 f n ds).map (λc=>c.toNat)=eZ n++ds.map λc=>c.toNat
 |0,_,_,h=>absurd h (by omega)
 |f+1,n,ds,h=>by
  rw[Nat.toDigitsCore];by_cases hn:n<10
  ·have e:n/10=0:=by omega
   rw[ah e,rY hn,bx,Oe (Nat.mod_lt n (by omega)),Nat.mod_eq_of_lt hn];rfl
  ·have e:n/10≠0:=by omega
   rw[af e,Of f (n/10) _ (by omega),uV hn,bx,Oe (Nat.mod_lt n (by omega)),mJ];rfl
theorem Og(n:Nat):(Nat.toDigits 10 n).map (λc=>c.toNat)=eZ n:=by unfold Nat.toDigits;rw[Of _ _ _ (by omega)];exact ie _
theorem rZ(z:Int):decimal z=if z<0 then 45::eZ z.natAbs else eZ z.natAbs:=by unfold decimal;rw[Og]
theorem Oh(n:Nat):∀c∈eZ n,48<=c/\c<=57:=by
 induction n using Nat.strongRecOn with
 |ind n ih=>
  by_cases h:n<10
  ·rw[rY h];intro c hc;simp at hc;omega
  ·rw[uV h];intro c hc;rcases bL.mp hc with e |e
   ·exact ih (n/10) (by omega) c e
   ·simp at e;omega
abbrev HL:=LL Holds
def gc:Holds->List Nat
 | .same y=>[y]
 | .made _ a b=>[a,b]
noncomputable def mw:Ins->Option Holds
 | .copy d a=>if d=a then none else some (.same a)
 | .op k d a b=>if d=a\/d=b then none else some (.made k a b)
 |_=>none
def nM(d:Nat)(o:Option Holds):Option Holds:=o.bind λh=>if d∈gc h then none else some h
def gf(i:Ins)(l:HL):HL:=match givesOf i with
 |none=>l
 |some d=>if F.gb i=true then l else (l.map (nM d)).set d (mw i)
def fh(p:Nat):Ins->List Nat
 | .stop=>[]
 | .goto t=>[t]
 | .cond _ t=>[p+1,t]
 |_=>[p+1]
theorem qe{p j:Nat}{x:Ins}:j∈fh p x ↔ j∈nexts p x:=by
 cases x with
 |cond a t=>simp only[fh,nexts,aX,dB,dC];exact Or.comm
 |_=>exact jt
theorem Oi(i:Ins)(l:HL):(gf i l).length=l.length:=by
 unfold gf;split
 ·rfl
 ·split
  ·rfl
  ·simp
theorem YD(i:Ins)(a b:HL)(h:cV a b):cV (gf i a) (gf i b):=by
 unfold gf;split
 ·exact h
 ·next d _=>
  split
  ·exact h
  ·refine⟨by simpa using h.1,λe z q=>?_⟩;by_cases ed:e=d
   ·subst ed;by_cases hl:e<a.length
    ·rw[lC (by simpa using hl)]at q;rw[lC (by rw[aI,<-h.1];exact hl)];exact q
    ·rw[iM (by simp;omega)]at q;cases q
   ·rw[nW (cq ed),bC]at q ⊢;cases ea:a[e]? with
    |none=>rw[ea]at q;cases q
    |some o=>
     rw[ea]at q;cases o with
     |none=>cases q
     |some hh=>rw[h.2 e hh ea];exact q
def uW(n:Nat){c:Code}(hb:F.fH c):Sys Holds n c where
 fst:=List.replicate n none
 len:=qy
 bh:=gf
 bl:=Oi
 ld:=λp i _=>fh p i
 bm:=YD
 lm:=λp i a b j _ k=>k
 ib:=λp i l h j hj=>hb p i h j (qe.mp hj)
def toF(l:HL):List Fact:=l.zipIdx.filterMap λ(x:Option Holds×Nat)=>x.1.map λh=>(x.2,h)
theorem k9{l:HL}{d:Nat}{h:Holds}:(d,h)∈toF l ↔ l[d]? =some (some h):=by
 unfold toF;rw[nY];constructor
 ·rintro⟨⟨o,j⟩,hm,e⟩
  obtain⟨hh,eo,e2⟩:=cF.mp e;cases e2;have:=List.mem_zipIdx' hm;obtain⟨h1,h2⟩:=this;have eo:o=some h:=eo;rw[aL h1,<-h2,eo]
 ·intro e;refine⟨(some h,d),?_,rfl⟩;exact List.mk_mem_zipIdx_iff_getElem?.mpr e
theorem Ea(i:Ins)(d:Nat)(g:givesOf i=some d):F.makes i=(mw i).map λh=>(d,h):=by
 cases i with
 |copy e a=>cases g;unfold F.makes mw;dsimp only;split<;>rfl
 |op k e a b=>cases g;unfold F.makes mw;dsimp only;split<;>rfl
 |_=>rfl
theorem yZ(d e:Nat)(h:Holds):speaksOf d (e,h)=false ↔ e≠d/\d ∉ gc h:=by
 unfold speaksOf;cases h with
 |same y=>simp[gc];intro _;exact⟨λh e=>h e.symm,λh e=>h e.symm⟩
 |made k a b=>simp[gc];intro _;exact⟨λh=>⟨λe=>h.1 e.symm,λe=>h.2 e.symm⟩,λh=>⟨λe=>h.1 e.symm,λe=>h.2 e.symm⟩⟩
theorem Oj{i:Ins}{l:HL}(hd:∀d,givesOf i=some d->d<l.length)(f:Fact):f∈told i (toF l) ↔ f∈toF (gf i l):=by
 obtain⟨e,h⟩:=f;rw[F.yT];unfold gf;cases g:givesOf i with
 |none=>exact jt
 |some d=>
  dsimp only;by_cases sc:F.gb i=true
  ·rw[ah sc,ah sc]
  ·rw[af sc,af sc,k9,k9,Ea i d g];by_cases ed:e=d
   ·subst ed;rw[lC (by simpa using hd e g),yZ];constructor
    ·rintro(h1 |h1)
     ·exact absurd rfl h1.2.1
     ·obtain⟨x,ex,e2⟩:=cF.mp h1;cases e2;rw[ex]
    ·intro h1
     right
     have h1:mw i=some h:=by simpa using h1
     rw[h1];rfl
   ·rw[nW (cq ed),bC,yZ];constructor
    ·rintro(h1 |h1)
     ·rw[h1.1];show some (if d∈gc h then none else some h)=_;rw[af h1.2.2]
     ·obtain⟨x,ex,e2⟩:=cF.mp h1;cases e2;exact absurd rfl ed
    ·intro h1
     left
     cases ea:l[e]? with
     |none=>rw[ea]at h1;cases h1
     |some o=>
      rw[ea]at h1;cases o with
      |none=>cases h1
      |some x=>
       have h1:some (if d∈gc x then none else some x)=some (some h):=h1;by_cases q:d∈gc x
       ·rw[ah q]at h1;cases h1
       ·rw[af q]at h1;cases h1;exact⟨rfl,ed,q⟩
def Fn(l:List Fact):Prop:=∀d h h',(d,h)∈l->(d,h')∈l->h=h'
def nN(x:F.FE):Prop:=∀l,x=some l->Fn l
theorem YE{i:Ins}{l:List Fact}(h:Fn l):Fn (told i l):=by
 intro d x y hx hy;rw[F.yT]at hx hy;cases g:givesOf i with
 |none=>rw[g]at hx hy;exact h d x y hx hy
 |some e=>
  rw[g]at hx hy;dsimp only at hx hy;by_cases sc:F.gb i=true
  ·rw[ah sc]at hx hy;exact h d x y hx hy
  ·rw[af sc,Ea i e g]at hx hy;rcases hx with hx |hx<;>rcases hy with hy |hy
   ·exact h d x y hx.1 hy.1
   ·obtain⟨z,ez,e2⟩:=cF.mp hy;cases e2;exact absurd rfl ((yZ _ _ x).mp hx.2).1
   ·obtain⟨z,ez,e2⟩:=cF.mp hx;cases e2;exact absurd rfl ((yZ _ _ y).mp hy.2).1
   ·obtain⟨z,ez,e2⟩:=cF.mp hx;obtain⟨z',uX,e2'⟩:=cF.mp hy;cases e2;cases e2';rw[ez]at uX;cases uX;rfl
theorem Ol{v:List Fact}(hv:Fn v):∀(js:ψ)(m:List F.FE),(∀j,nN (F.gt m j))->∀j,nN (F.gt (F.dI v js m) j)
 |[],_,h=>h
 |w::js,m,h=>by
  refine Ol hv js _ λj=>?_
  by_cases e:j=w
  ·subst e;by_cases hl:j<m.length
   ·rw[F.jE hl];have hj:=h j;unfold F.gt at hj;cases q:(m[j]?).bind id with
    |none=>intro l z;cases z;exact hv
    |some a=>intro l z;cases z;rw[q]at hj;intro d x y hx hy;exact hj a rfl d x y (fk.mp hx).1 (fk.mp hy).1
   ·rw[F.mq (by rw[gk];omega)];intro l z;cases z
  ·rw[F.kY e];exact h j
theorem YF{c:Code}{l:List F.FE}(h:∀j,nN (F.gt l j)):∀j,nN (F.gt (spreadFacts c l) j):=by
 have all:∀(as:ψ)(m:List F.FE),(∀j,nN (F.gt m j))->∀j,nN (F.gt (as.foldl (F.bK c l) m) j):=by
  intro as
  induction as with
  |nil=>exact λm h=>h
  |cons a as ih=>
   intro m hm;refine ih _ λj=>?_
   unfold F.bK;split
   ·next i e h1 h2=>exact Ol (YE (h a e h2)) _ m hm j
   ·exact hm j
 exact all _ l h
theorem Eb(c:Code):∀j,nN (F.gt (facts c) j):=by
 have all:∀k,∀j,nN (F.gt (repeated (spreadFacts c) k (F.cK c)) j):=by
  intro k
  induction k with
  |zero=>
   intro j;cases j with
   |zero=>intro l e;cases e;intro d x y hx;exact nomatch hx
   |succ j=>rw[show repeated (spreadFacts c) 0 (F.cK c)=F.cK c from rfl,F.jf];intro l e;cases e
  |succ k ih=>rw[dt];exact YF ih
 exact all _
def k_(n:Nat)(l:List Fact):HL:=(List.range n).map λd=>(l.find? λf=>f.1==d).map λf=>f.2
theorem y1(n:Nat)(l:List Fact):(k_ n l).length=n:=by simp[k_]
theorem y2{n:Nat}{l:List Fact}(hl:Fn l){d:Nat}{h:Holds}:(k_ n l)[d]? =some (some h) ↔ d<n/\(d,h)∈l:=by
 unfold k_;rw[bC];by_cases hd:d<n
 ·rw[Rv hd];show some _=some _ ↔ _;constructor
  ·intro e;have e:=b_ e;obtain⟨f,e1,e2⟩:=cF.mp e;have h1:=List.find?_some e1;have h2:=Rw e1;have h1:f.1=d:=by simpa using h1
   refine⟨hd,?_⟩;rw[<-h1,<-e2];exact h2
  ·rintro⟨_,hm⟩
   cases q:l.find? λf=>f.1==d with
   |none=>have:=Rp.mp q _ hm;simp at this
   |some f=>
    have h1:=List.find?_some q;have h2:=Rw q;obtain⟨f1,f2⟩:=f;have h1:f1=d:=by simpa using h1
    subst h1;show some ((l.find? λf=>f.1==f1).map λf=>f.2)=_;rw[q,<-hl f1 f2 h h2 hm];rfl
 ·rw[iM (by simp;omega)];constructor
  ·intro e;cases e
  ·intro e;exact absurd e.1 hd
theorem YG{α β:Type}(f:LL α->β)(l:List (EE α))(j:Nat):((l.map (Option.map f))[j]?).bind id=(gt l j).map f:=by
 unfold gt;rw[bC];cases l[j]? with
 |none=>rfl
 |some x=>rfl
theorem YH{n:Nat}{c:Code}(hb:F.fH c)(hg:∀i∈c,∀d,givesOf i=some d->d<n){B:List (EE Holds)}(ln:B.length=c.length+1)(wf:∀j,Wf n (gt B j))(S:(uW n hb).eX B)(st:le (gt B 0) (some (List.replicate n none))) (up:∀Y,(uW n hb).eX Y->(∀j,le (gt Y j) (gt (uW n hb).start j))->∀j,le (gt Y j) (gt B j))(j:Nat):(F.gt (facts c) j=none ↔ gt B j=none)/\∀l,gt B j=some l->∀f,f∈factsAt (facts c) j ↔ f∈toF l:=by
 have gy:∀j,F.gt (B.map (Option.map toF)) j=(gt B j).map toF:=YG toF B;obtain⟨k1,k2,k3,k4,k5⟩:=F.yU hb;have fwf:∀j l,F.gt (facts c) j=some l->∀f∈l,f.1<n:=by
  intro j l e f hf;have:=(k2 j l e).2 f hf;obtain⟨i,hi,em⟩:=nY.mp this;cases g:givesOf i with
  |none=>cases i<;>first |(cases g;done) |(cases em;done)
  |some d=>rw[Ea i d g]at em;obtain⟨x,_,e2⟩:=cF.mp em;rw[<-e2];exact hg i hi d g
 have SY:F.eX c (B.map (Option.map toF)):=by intro i x l hx hl w hw;rw[gy]at hl;obtain⟨l',e1,e2⟩:=cF.mp hl;subst e2;intro b eb;cases eb;obtain⟨a,ea,la⟩:=S i x l' hx e1 w (qe.mpr hw) _ rfl;refine⟨toF a,by rw[gy,ea];rfl,λf hf=>?_⟩;rw[Oj λd g=>by rw[wf i l' e1];exact hg x (br hx) d g];obtain⟨d,h⟩:=f;rw[k9]at hf ⊢;exact la.2 d h hf
 have Y0:F.gt (B.map (Option.map toF)) 0=some []:=by
  obtain⟨a,ea,la⟩:=st _ rfl;rw[gy,ea];show some (toF a)=some []
  congr 1
  rw[abC]
  rintro⟨d,h⟩ hf
  rw[k9]at hf;have:=la.2 d h hf;rw[n8]at this;split at this<;>cases this
 have upF:∀j,F.le (F.gt (facts c) j) (F.gt (B.map (Option.map toF)) j):=by
  intro j b eb;rw[gy]at eb;obtain⟨b',e1,e2⟩:=cF.mp eb;subst e2;have gz:∀j,gt ((facts c).map (Option.map (k_ n))) j=(F.gt (facts c) j).map (k_ n):=λj=>by
   unfold gt F.gt;rw[bC];cases(facts c)[j]? with
   |none=>rfl
   |some x=>rfl
  have Z:=up ((facts c).map (Option.map (k_ n))) (λi x l hx hl w hw=>?_) (λj=>?_) j
  ·obtain⟨a,ea,la⟩:=Z b' e1;rw[gz]at ea;obtain⟨a0,e3,e4⟩:=cF.mp ea;subst e4;refine⟨a0,e3,λf hf=>?_⟩;obtain⟨d,h⟩:=f;rw[k9];exact la.2 d h ((y2 (Eb c j a0 e3)).mpr ⟨fwf j a0 e3 _ hf,hf⟩)
  ·rw[gz]at hl;obtain⟨l',e3,e4⟩:=cF.mp hl;subst e4;intro q eq;cases eq;obtain⟨a,ea,la⟩:=k3 i x l' hx e3 w (qe.mp hw) _ rfl;refine⟨k_ n a,by rw[gz,ea];rfl,?_,λd h hf=>?_⟩
   ·show _=(gf x (k_ n l')).length;rw[Oi,y1,y1]
   ·obtain⟨_,hm⟩:=(y2 (Eb c w a ea)).mp hf;have h1:=la _ hm;show(gf x (k_ n l'))[d]? =some (some h);rw[<-k9,<-Oj λd g=>by rw[y1];exact hg x (br hx) d g];refine F.NU (λf hf=>?_) x _ h1;obtain⟨d',h'⟩:=f;rw[k9,y2 (Eb c i l' e3)];exact⟨fwf i l' e3 _ hf,hf⟩
  ·cases j with
   |zero=>rw[gz,k4];intro q eq;cases eq;refine⟨_,rfl,by rw[y1];exact qy.symm,λd h hf=>?_⟩;obtain⟨_,hm⟩:=(y2 (l:=[]) λd h h' e=>nomatch e).mp hf;exact nomatch hm
   |succ j=>rw[Sys.jf];exact λb e=>by cases e
 obtain⟨m1,m2⟩:=F.Yl hb SY Y0 upF j;refine⟨m1.trans ?_,λl el f=>?_⟩
 ·rw[gy];cases gt B j<;>simp
 ·have ey:F.gt (B.map (Option.map toF)) j=some (toF l):=by rw[gy,el];rfl
  cases ef:F.gt (facts c) j with
  |none=>rw[m1.mp ef]at ey;cases ey
  |some a=>
   have:factsAt (facts c) j=a:=by unfold factsAt;unfold F.gt at ef;rw[ef];rfl
   rw[this];exact m2 a _ ef ey f
noncomputable def du(l:HL)(v:Nat):Nat:=match (l[v]?).bind id with
 |some (.same y)=>y
 |_=>v
noncomputable def y3(l:HL):Ins->Option Ins
 | .copy d a=>if du l a=d\/l[d]? =some (some (.same (du l a)))then none else some (.copy d (du l a))
 | .op k d a b=>if l[d]? =some (some (.made k (du l a) (du l b)))then none else (match l.findIdx? λo=>o==some (.made k (du l a) (du l b))with
  |some w=>some (.copy d w)
  |none=>some (.op k d (du l a) (du l b)))
 | .print a=>some (.print (du l a))
 | .cond a t=>some (.cond (du l a) t)
 |i=>some i
theorem uY(l:HL)(v:Nat):root (toF l) v=du l v:=by
 rw[zx];unfold du;have key:∀y,y∈(toF l).filterMap (rW v) ↔ l[v]? =some (some (.same y)):=λy=>yW.trans k9
 cases e:least ((toF l).filterMap (rW v))with
 |none=>
  rw[yV]at e;rw[e]at key;show v=_;cases q:(l[v]?).bind id with
  |none=>rfl
  |some h=>
   cases h with
   |same y=>
    have:l[v]? =some (some (.same y)):=by
     cases z:l[v]? with
     |none=>rw[z]at q;cases q
     |some o=>rw[z]at q;have q:o=some (.same y):=q;rw[q]
    exact nomatch (key y).mpr this
   |made k a b=>rfl
 |some m=>have:=(key m).mp (rV.mp e).1;rw[this];rfl
theorem Om{l:HL}{d:Nat}{h:Holds}:(toF l).contains (d,h)=true ↔ l[d]? =some (some h):=by rw[<-k9];simp
theorem YI(l:HL)(h:Holds):least (((toF l).filter λ(f:Fact)=>f.2==h).map λ(f:Fact)=>f.1)=l.findIdx? λo=>o==some h:=by
 have key:∀x,x∈((toF l).filter λ(f:Fact)=>f.2==h).map (λ(f:Fact)=>f.1) ↔ l[x]? =some (some h):=by
  intro x;rw[d_,<-k9];constructor
  ·rintro⟨⟨d,h'⟩,hf,e⟩
   obtain⟨h1,h2⟩:=fk.mp hf;have h2:h'=h:=by simpa using h2
   have e:d=x:=e;subst h2 e;exact h1
  ·intro hm;exact⟨_,fk.mpr ⟨hm,by simp⟩,rfl⟩
 cases e:l.findIdx? λo=>o==some h with
 |none=>rw[yV,abC];intro x hx;rw[key]at hx;have:=F2.mp e _ (br hx);simp at this
 |some m=>
  obtain⟨h1,h2,h3⟩:=mM.mp e;rw[rV,key];have h2:l[m]=some h:=by simpa using h2
  refine⟨by rw[aL h1,h2],λx hx=>?_⟩;rw[key]at hx;by_cases q:m<=x
  ·exact q
  ·have hxl:x<l.length:=(bN.mp hx).1;have:=h3 x (by omega);rw[aL hxl]at hx;rw[b_ hx]at this;simp at this
theorem r_{α:Type}{p q:Prop} [Decidable p] [Decidable q](h:p ↔ q)(a b:α):(if p then a else b)=if q then a else b:=by
 by_cases k:p
 ·rw[ah k,ah (h.mp k)]
 ·rw[af k,af λz=>k (h.mpr z)]
theorem abA(l:HL)(i:Ins):shared (toF l) i=y3 l i:=by
 cases i with
 |copy d a=>show(if root (toF l) a=d\/(toF l).contains (d,Holds.same (root (toF l) a))=true then none else some (Ins.copy d (root (toF l) a)))=_;rw[uY];exact r_ (or_congr_right Om) _ _
 |op k d a b=>
  show(if (toF l).contains (d,Holds.made k (root (toF l) a) (root (toF l) b))=true then none else match least (((toF l).filter λ(f:Fact)=>f.2==Holds.made k (root (toF l) a) (root (toF l) b)).map λ(f:Fact)=>f.1)with
   |some w=>some (Ins.copy d w)
   |none=>some (.op k d (root (toF l) a) (root (toF l) b)))=_
  rw[uY,uY,YI];exact r_ Om _ _
 |print a=>show some (Ins.print (root (toF l) a))=_;rw[uY];rfl
 |cond a t=>show some (Ins.cond (root (toF l) a) t)=_;rw[uY];rfl
 |_=>rfl
theorem Ec(L:List (Option Ins)):bH L 0=0:=by simp[bH]
theorem Oo{L:List (Option Ins)}{q:Nat}{x:Ins}(h:L[q]? =some (some x)):bH L (q+1)=bH L q+1:=by unfold bH;rw[iO,h,sR,a8];rfl
theorem Oq{L:List (Option Ins)}{q:Nat}(h:L[q]? =some none):bH L (q+1)=bH L q:=by unfold bH;rw[iO,h,sR,a8];rfl
theorem Ot{g:Ins->Ins}:∀{L:List (Option Ins)}{q:Nat}{x:Ins},L[q]? =some (some x)->(L.filterMap λ(x:Option Ins)=>x.map g)[bH L q]? =some (g x)
 |[],_,_,h=>(by simp at h)
 |o::L,0,x,h=>by
  have h:o=some x:=by simpa using h
  subst h;rw[Ec];rfl
 |o::L,q+1,x,h=>by
  have ih:=Ot (g:=g) (L:=L) (q:=q) (x:=x) (by simpa using h);cases o with
  |none=>
   have e:bH (none::L) (q+1)=bH L q:=by simp[bH]
   rw[e];exact ih
  |some y=>
   have e:bH (some y::L) (q+1)=bH L q+1:=by simp[bH]
   rw[e];exact ih
theorem YJ{L:List (Option Ins)}{q:Nat}{x:Ins}(h:L[q]? =some (some x)):(closed L)[bH L q]? =some (sent (bH L) x):=Ot h
theorem Ed:∀(L:List (Option Ins))(j:Nat),j<(L.filter λ(y:Option Ins)=>y.isSome).length->∃q x,L[q]? =some (some x)/\bH L q=j
 |[],j,h=>absurd h (by simp)
 |none::L,j,h=>by obtain⟨q,x,h1,h2⟩:=Ed L j h;exact⟨q+1,x,by simpa using h1,by rw[<-h2];simp[bH]⟩
 |some y::L,0,h=>⟨0,y,rfl,Ec _⟩
 |some y::L,j+1,h=>by obtain⟨q,x,h1,h2⟩:=Ed L j (by simpa using h);exact⟨q+1,x,by simpa using h1,by rw[<-h2];simp[bH]⟩
theorem YK{l:KL}{x y:Ins}{i j:Nat}(h:folded (some l) x=some y)(k:j∈mayLead i x l):j∈nexts i y:=by
 cases x with
 |num d z=>
  have h:(if knows l d=some z then none else some (Ins.num d z))=some y:=h;split at h
  ·cases h
  ·cases h;exact k
 |copy d a=>
  have h:(match knows l a with
   |some z=>if knows l d=some z then none else some (Ins.num d z)
   |none=>some (.copy d a))=some y:=h
  split at h
  ·split at h<;>cases h
   exact k
  ·cases h;exact k
 |op n d a b=>
  have h:(match knows l a,knows l b with
   |some x,some y=>if knows l d=some (reckon n x y)then none else some (.num d (reckon n x y))
   |_,_=>some (.op n d a b))=some y:=h
  split at h
  ·split at h<;>cases h
   exact k
  ·cases h;exact k
 |cond a t=>
  have h:(match knows l a with
   |some z=>if z=0 then none else some (Ins.goto t)
   |none=>some (.cond a t))=some y:=h
  rw[uK]at k;cases q:knows l a with
  |none=>rw[q]at h k;cases h;exact k
  |some z=>
   rw[q]at h k;dsimp only at h k;split at h
   ·cases h
   ·next hz=>rw[af hz]at k;cases h;exact k
 |_=>cases h;exact k
theorem YL{l:KL}{x:Ins}{i j:Nat}(h:folded (some l) x=none)(k:j∈mayLead i x l):j=i+1:=by
 cases x with
 |cond a t=>
  have h:(match knows l a with
   |some z=>if z=0 then none else some (Ins.goto t)
   |none=>some (.cond a t))=none:=h
  rw[uK]at k;cases q:knows l a with
  |none=>rw[q]at h;cases h
  |some z=>
   rw[q]at h k;dsimp only at h k;split at h
   ·next hz=>rw[ah hz]at k;simpa using k
   ·cases h
 |num d z=>simpa[mayLead,nexts]using k
 |copy d a=>simpa[mayLead,nexts]using k
 |op n d a b=>simpa[mayLead,nexts]using k
 |_=>cases h
theorem YM{f:Nat->Nat}{y:Ins}{i j:Nat}(hf:f (i+1)=f i+1)(k:j∈nexts i y):f j∈nexts (f i) (sent f y):=by
 cases y with
 |goto t=>simp[nexts]at k;simp[nexts,sent,k]
 |cond a t=>
  simp[nexts]at k;rcases k with k |k
  ·simp[nexts,sent,k]
  ·simp[nexts,sent,k,hf]
 |stop=>simp[nexts]at k
 |_=>simp[nexts]at k;simp[nexts,sent,k,hf]
theorem YN{P:Int->Prop}{n:Nat}{c:Code}(rk:∀k x y,P x->P y->P (reckon k x y))(h0:P 0)(G:GoodC P n c)(j:Nat)(hj:j<(fold n c).length):F.gt (facts (fold n c)) j≠none:=by
 obtain⟨L,eL⟩:∃L,L=c.zipIdx.map λ(x:Ins×Nat)=>folded (knownAt (known n c) x.2) x.1:=⟨_,rfl⟩
 have ef:fold n c=closed L:=by rw[eL];rfl
 have G':=(D8 rk h0 G).1;rw[ef]at hj G' ⊢;obtain⟨_,_,fs,f0,_⟩:=F.yU G'.kZ;obtain⟨k1,k2,k3,k4,k5⟩:=NJ (n:=n) G.bounds;have getL:∀q x,c[q]? =some x->L[q]? =some (folded (gt (known n c) q) x):=by intro q x h;rw[eL,bC,Rt,h];simp;rfl
 obtain⟨R,eR⟩:∃R:Nat->Bool,R=λq=>(F.gt (facts (closed L)) (bH L q)).isSome:=⟨_,rfl⟩
 obtain⟨Y,eY⟩:∃Y:List Env,Y=(List.range (c.length+1)).map λq=>if R q=true then gt (known n c) q else none:=⟨_,rfl⟩
 have gY:∀q,q<=c.length->gt Y q=if R q=true then gt (known n c) q else none:=by intro q hq;unfold gt;rw[eY,bC,Rv (by omega)];rfl
 have SY:eX c Y:=by
  intro i x l hx hl w hw;have hi:=g_ hx;rw[gY i (by omega)]at hl;by_cases ri:R i=true
  ·rw[ah ri]at hl;have hwl:=G.bounds i x l hx w hw;have rw_:R w=true:=by
    have gl:=getL i x hx;rw[hl]at gl;cases hf:folded (some l) x with
    |none=>rw[hf]at gl;rw[YL hf hw];rw[eR]at ri ⊢;dsimp only at ri ⊢;rw[Oq gl];exact ri
    |some y=>rw[hf]at gl;have hc:=YJ gl;have hn:=YM (f:=bH L) (Oo gl) (YK hf hw);rw[eR]at ri ⊢;dsimp only at ri ⊢;obtain⟨fl,efl⟩:=sG.mp ri;obtain⟨a,ea,_⟩:=fs _ _ fl hc efl _ hn _ rfl;rw[ea];rfl
   rw[gY w hwl,ah rw_];exact k3 i x l hx hl w hw
  ·rw[af ri]at hl;cases hl
 have Yle:∀q,le (gt Y q) (gt (cK n c) q):=by
  intro q;cases q with
  |zero=>
   have r0:R 0=true:=by rw[eR];dsimp only;rw[Ec,f0];rfl
   rw[gY 0 (by omega),ah r0];exact k4 0
  |succ q=>rw[jf];exact λb e=>by cases e
 rw[D0]at hj;obtain⟨q,x,hq,eq⟩:=Ed L j hj;rw[<-eq];have uZ:q<c.length:=by have:=(bN.mp hq).1;rw[eL]at this;simpa using this
 have gl:=getL q c[q] (aL uZ);rw[hq]at gl;have gl:=b_ gl;cases hk:gt (known n c) q with
 |none=>rw[hk]at gl;cases gl
 |some l=>
  obtain⟨a,ea,_⟩:=k5 Y SY Yle q l hk;rw[gY q (by omega)]at ea;by_cases ri:R q=true
  ·intro z;rw[eR]at ri;dsimp only at ri;rw[z]at ri;cases ri
  ·rw[af ri]at ea;cases ea
def nO(b m:Nat):Nat:=b-(b&&& m)
theorem YO(v b m:Nat):(nO b m).testBit v=(b.testBit v&& !m.testBit v):=by
 have e:=Bits.AY b (b&&& m);rw[<-Nat.and_assoc,Nat.and_self]at e;have l:nO b m=b^^^(b&&& m):=by unfold nO;omega
 rw[l,vW,jJ];cases b.testBit v<;>cases m.testBit v<;>rfl
def u5(i:Ins):Nat:=(usesOf i).foldl (λb v=>b|||2^v) 0
def mx(N:ψ)(ws:ψ):Nat:=ws.foldl (λb w=>b|||N.getD w 0) 0
def dv(p:Nat)(i:Ins)(N:ψ):Nat:=(match givesOf i with
 |some d=>nO (mx N (fh p i)) (2^d)
 |none=>mx N (fh p i))|||u5 i
theorem Ee(f:Nat->Nat)(v:Nat):∀(l:ψ)(b:Nat),(l.foldl (λb x=>b|||f x) b).testBit v=true ↔ b.testBit v=true\/∃x∈l,(f x).testBit v=true
 |[],b=>by simp
 |x::l,b=>by
  rw[qA,Ee f v l,sO,zO];simp only[aX];constructor
  ·rintro((h |h) |⟨y,hy,h⟩)
   ·exact .inl h
   ·exact .inr ⟨x,.inl rfl,h⟩
   ·exact .inr ⟨y,.inr hy,h⟩
  ·rintro(h |⟨y,rfl |hy,h⟩)
   ·exact .inl (.inl h)
   ·exact .inl (.inr h)
   ·exact .inr ⟨y,hy,h⟩
theorem u7{p v:Nat}{i:Ins}{N:ψ}:(dv p i N).testBit v=true ↔ v∈usesOf i\/(givesOf i≠some v/\∃w∈nexts p i,(N.getD w 0).testBit v=true):=by
 unfold dv;rw[sO,zO,or_comm];have hu:(u5 i).testBit v=true ↔ v∈usesOf i:=by unfold u5;rw[Ee (λv=>2^v) v];simp[Rx]
 have hw:(mx N (fh p i)).testBit v=true ↔ ∃w∈nexts p i,(N.getD w 0).testBit v=true:=by unfold mx;rw[Ee (λw=>N.getD w 0) v];simp only[Ry,qD,false_or];exact exists_congr λw=>and_congr_left λ_=>qe
 rw[hu];refine or_congr_right ?_;cases g:givesOf i with
 |none=>dsimp only;rw[hw];simp
 |some d=>dsimp only;rw[YO,fM,hw,Rx];simp;exact and_comm
structure gC(c:Code)(n:Nat)(N:ψ):Prop where
 len:N.length=c.length+1
 snd:∀p v,(N.getD p 0).testBit v=true->j0 c v p
 up:∀p i v,c[p]? =some i->(N.getD p 0).testBit v=true->(dv p i N).testBit v=true
def lg(n:Nat)(N:ψ):Nat:=(N.map λb=>2^n-b).sum
section
variable{P:Int->Prop}{n:Nat}{c:Code}
theorem Ou(G:GoodC P n c){v p:Nat}(h:j0 c v p):v<n:=by
 induction h with
 |use e hv=>exact(G _ (br e)).us _ hv
 |pass _ _ _ _ ih=>exact ih
theorem Ef{N:ψ}{p q b:Nat}(h:p<N.length):(N.set p b).getD q 0=if q=p then b else N.getD q 0:=by
 rw[dy,dy];by_cases e:q=p
 ·subst e;rw[ah rfl,lC h];rfl
 ·rw[af e,nW (cq e)]
theorem gC.start:gC c n (List.replicate (c.length+1) 0):=by
 have z:∀p,(List.replicate (c.length+1) 0).getD p 0=0:=λp=>by rw[dy,n8];split<;>rfl
 exact⟨qy,λp v h=>(by rw[z]at h;simp at h),λp i v _ h=>(by rw[z]at h;simp at h)⟩
theorem gC.lt(G:GoodC P n c){N:ψ}(I:gC c n N)(p:Nat):N.getD p 0<2^n:=by
 refine Nat.lt_pow_two_of_testBit _ λv hv=>?_
 cases q:(N.getD p 0).testBit v with
 |false=>rfl
 |true=>have:=Ou G (I.snd p v q);omega
theorem gC.needs{N:ψ}(I:gC c n N){p:Nat}{i:Ins}(hi:c[p]? =some i){v:Nat}(h:(dv p i N).testBit v=true):j0 c v p:=by
 rw[u7]at h;rcases h with h |⟨g,w,hw,h⟩
 ·exact .use hi h
 ·exact .pass hi hw g (I.snd w v h)
theorem gC.blt(G:GoodC P n c){N:ψ}(I:gC c n N){p:Nat}{i:Ins}(hi:c[p]? =some i):dv p i N<2^n:=by
 refine Nat.lt_pow_two_of_testBit _ λv hv=>?_
 cases q:(dv p i N).testBit v with
 |false=>rfl
 |true=>have:=Ou G (I.needs hi q);omega
theorem sum_set(f:Nat->Nat):∀{N:ψ}{p b:Nat},p<N.length->((N.set p b).map f).sum+f (N.getD p 0)=(N.map f).sum+f b
 |[],_,_,h=>absurd h (by simp)
 |y::r,0,b,_=>by show((b::r).map f).sum+f y=((y::r).map f).sum+f b;rw[bx,bx,iQ,iQ];omega
 |y::r,p+1,b,h=>by have ih:=sum_set f (N:=r) (p:=p) (b:=b) (by simpa using h);show((y::r.set p b).map f).sum+f (r.getD p 0)=((y::r).map f).sum+f b;rw[bx,bx,iQ,iQ];omega
theorem gC.step(G:GoodC P n c){N:ψ}(I:gC c n N){p:Nat}{i:Ins}(hi:c[p]? =some i)(ne:dv p i N≠N.getD p 0):gC c n (N.set p (dv p i N))/\lg n (N.set p (dv p i N))<lg n N:=by
 have hp:p<N.length:=by have:=g_ hi;have:=I.len;omega
 have grow:∀q v,(N.getD q 0).testBit v=true->((N.set p (dv p i N)).getD q 0).testBit v=true:=by
  intro q v h;rw[Ef hp];split
  ·next e=>subst e;exact I.up q i v hi h
  ·exact h
 refine⟨⟨by rw[gk];exact I.len,λq v h=>?_,λq x v hx h=>?_⟩,?_⟩
 ·rw[Ef hp]at h;split at h
  ·next e=>subst e;exact I.needs hi h
  ·exact I.snd q v h
 ·have mono:(dv q x N).testBit v=true->(dv q x (N.set p (dv p i N))).testBit v=true:=by
   rw[u7,u7]
   rintro(k |⟨g,w,hw,k⟩)
   ·exact .inl k
   ·exact .inr ⟨g,w,hw,grow w v k⟩
  refine mono ?_;rw[Ef hp]at h;split at h
  ·next e=>subst e;rw[hi]at hx;cases hx;exact h
  ·exact I.up q x v hx h
 ·have hs:=sum_set (λb=>2^n-b) (b:=dv p i N) hp;have le:N.getD p 0<=dv p i N:=by
   have:N.getD p 0|||dv p i N=dv p i N:=qJ λv=>by
    rw[sO];cases q:(N.getD p 0).testBit v with
    |false=>rfl
    |true=>rw[I.up p i v hi q];rfl
   rw[<-this];exact Nat.left_le_or
  have h1:=I.blt G hi;unfold lg;have h2:=I.lt G p;generalize N.getD p 0=y at*;generalize dv p i N=z at*;omega
theorem gC.done{N:ψ}(I:gC c n N)(h:∀p i,c[p]? =some i->N.getD p 0=dv p i N){p v:Nat}:(N.getD p 0).testBit v=true ↔ j0 c v p:=by
 refine⟨I.snd p v,λk=>?_⟩
 induction k with
 |use e hv=>rw[h _ _ e,u7];exact .inl hv
 |pass e hj g _ ih=>rw[h _ _ e,u7];exact .inr ⟨g,_,hj,ih⟩
noncomputable def y4(b:Nat)(i:Ins):Option Ins:=match i with
 | .num d _=>if b&&& 2^d=0 then none else some i
 | .copy d _=>if b&&& 2^d=0 then none else some i
 | .op _ d _ _=>if b&&& 2^d=0 then none else some i
 |i=>some i
theorem YP{b d:Nat}:b&&& 2^d=0 ↔ b.testBit d=false:=by
 constructor
 ·intro h;have:(b&&& 2^d).testBit d=false:=by rw[h];exact Ry d
  rw[jJ,Nat.testBit_two_pow_self,FX]at this;exact this
 ·intro h;refine qJ λv=>?_
  rw[jJ,Rx,Ry];by_cases e:d=v
  ·subst e;rw[h];rfl
  ·simp[e]
theorem YQ{b i:Nat}{x:Ins}(hb:∀v,b.testBit v=true ↔ j0 c v (i+1)):(if needless c (x,i)=true then none else some x)=y4 b x:=by
 have one:∀d,nexts i x=[i+1]->((!(neededBehind c i x).contains d)=true ↔ b&&& 2^d=0):=by intro d hn;rw[YP,Bool.not_eq_true',<-oh,<-oh,hb];refine not_congr ?_;rw[zM,Ya,hn];simp
 cases x with
 |num d z=>exact r_ (one d rfl) _ _
 |copy d a=>exact r_ (one d rfl) _ _
 |op k d a e=>exact r_ (one d rfl) _ _
 |_=>rfl
end
structure iE(c:Code)(t:Nat)(S:ψ)(at_:Nat):Prop where
 nd:S.Nodup
 lt:∀s∈S,s<c.length
 go:∀s∈S,∃u,c[s]? =some (.goto u)/\(u∈S\/u=at_)
 fst:t∈S\/t=at_
 le:at_<=c.length
 ends:∀u,Ends c at_ u->Ends c t u
theorem iE.round{c:Code}{t a:Nat}{S:ψ}(hb:F.fH c)(ht:t<=c.length)(I:iE c t S a)(h:a∈S):(follow c (c.length+1) t).getD t=t:=by
 have no:∀s u,Ends c s u->s∈S->False:=by
  intro s u e
  induction e with
  |here k=>intro hs;obtain⟨u,e,_⟩:=I.go _ hs;exact k u e
  |on e _ ih=>intro hs;obtain⟨u,e2,k⟩:=I.go _ hs;rw[e]at e2;cases e2;exact ih (k.elim id λz=>z▸h)
 have:follow c (c.length+1) t=none:=(Yo hb ht).mpr λ⟨u,e⟩=>no t u e (I.fst.elim id λz=>z▸h)
 rw[this];rfl
theorem iE.stop{c:Code}{t a:Nat}{S:ψ}(hb:F.fH c)(ht:t<=c.length)(I:iE c t S a)(h:∀u,c[a]? ≠some (.goto u)):(follow c (c.length+1) t).getD t=a:=by rw[(Yn hb ht).mpr (I.ends a (.here h))];rfl
theorem iE.next{c:Code}{t a u:Nat}{S:ψ}(hb:F.fH c)(I:iE c t S a)(h:c[a]? =some (.goto u))(hn:a ∉ S):iE c t (S++[a]) u where
 nd:=by
  rw[vZ];refine⟨I.nd,by simp,λx hx y hy=>?_⟩;have:y=a:=by simpa using hy
  rintro rfl
  exact hn (this▸hx)
 lt:=λs hs=>by
  rcases bL.mp hs with k |k
  ·exact I.lt s k
  ·have:s=a:=by simpa using k
   rw[this];exact g_ h
 go:=λs hs=>by
  rcases bL.mp hs with k |k
  ·obtain⟨w,e,k⟩:=I.go s k;refine⟨w,e,.inl (bL.mpr ?_)⟩;exact k.imp_right λz=>by simp[z]
  ·have:s=a:=by simpa using k
   rw[this];exact⟨u,h,.inr rfl⟩
 fst:=.inl (bL.mpr (I.fst.imp_right λz=>by simp[z]))
 le:=hb a _ h u (by simp[nexts])
 ends:=λw e=>I.ends w (.on h e)
theorem iE.start{c:Code}{t:Nat}(ht:t<=c.length):iE c t [] t:=⟨zD,λs h=>(nomatch h),λs h=>(nomatch h),.inr rfl,ht,λu e=>e⟩
theorem iE.size{c:Code}{t a:Nat}{S:ψ}(I:iE c t S a):S.length<=c.length:=by
 have:=F.yS (m:=List.range c.length) I.nd λx hx=>qv.mpr (I.lt x hx)
 rwa [gJ]at this
structure j6(c:Code)(S W:ψ):Prop where
 nd:S.Nodup
 le:∀s∈S,s<=c.length
 zero:0∈S
 rc:∀s∈S,s<c.length->Reach c s
 sub:∀p∈W,p∈S
 f_:∀s x,s∈S->s ∉ W->c[s]? =some x->∀j∈nexts s x,j∈S
theorem j6.start{c:Code}:j6 c [0] [0]:=⟨by simp,λs h=>by simp at h;omega,by simp,λs h k=>by
 have:s=0:=by simpa using h
 subst this;exact .zero k,λp h=>h,λs x h k=>absurd h k⟩
theorem j6.done{c:Code}{S:ψ}(I:j6 c S []){j:Nat}(hj:j<c.length):j∈S ↔ (reached c).contains j=true:=by
 rw[zM,X8];refine⟨λh=>I.rc j h hj,λh=>?_⟩
 induction h with
 |zero _=>exact I.zero
 |step h1 h2 h3 h4 ih=>exact I.f_ _ _ (ih (g_ h2)) (by simp) h2 _ h3
structure jG(c:Code)(p:Nat)(x:Ins)(ws:ψ)(js:ψ)(S W:ψ):Prop where
 nd:S.Nodup
 le:∀s∈S,s<=c.length
 zero:0∈S
 rc:∀s∈S,s<c.length->Reach c s
 sub:∀q∈W,q∈S
 f_:∀s y,s∈S->s ∉ W->s≠p->c[s]? =some y->∀j∈nexts s y,j∈S
 got:∀j∈js,j∈S
 pin:p∈S
theorem jG.start{c:Code}{p:Nat}{x:Ins}{S ws:ψ}(I:j6 c S (ws++[p])):jG c p x ws [] S ws where
 nd:=I.nd
 le:=I.le
 zero:=I.zero
 rc:=I.rc
 sub:=λq h=>I.sub q (fm _ h)
 f_:=λs y h k ne e=>I.f_ s y h (λz=>(bL.mp z).elim k λz=>ne (by simpa using z)) e
 got:=λj h=>nomatch h
 pin:=I.sub p (by simp)
theorem jG.old{c:Code}{p:Nat}{x:Ins}{ws js S W:ψ}(I:jG c p x ws js S W){w:Nat}(h:w∈S):jG c p x ws (js++[w]) S W:=⟨I.nd,I.le,I.zero,I.rc,I.sub,I.f_,λj hj=>(bL.mp hj).elim (I.got j) λz=>by
  have:j=w:=by simpa using z
  rw[this];exact h,I.pin⟩
theorem jG.new{c:Code}{p:Nat}{x:Ins}{ws js S W:ψ}(hb:F.fH c)(hx:c[p]? =some x)(I:jG c p x ws js S W){w:Nat}(hw:w∈nexts p x)(h:w ∉ S):jG c p x ws (js++[w]) (S++[w]) (W++[w]) where
 nd:=by
  rw[vZ];refine⟨I.nd,by simp,λx hx y hy=>?_⟩;have:y=w:=by simpa using hy
  rintro rfl
  exact h (this▸hx)
 le:=λs hs=>by
  rcases bL.mp hs with k |k
  ·exact I.le s k
  ·have:s=w:=by simpa using k
   rw[this];exact hb p x hx w hw
 zero:=fm _ I.zero
 rc:=λs hs hl=>by
  rcases bL.mp hs with k |k
  ·exact I.rc s k hl
  ·have:s=w:=by simpa using k
   subst this;exact .step (I.rc p I.pin (g_ hx)) hx hw hl
 sub:=λq hq=>by
  rcases bL.mp hq with k |k
  ·exact fm _ (I.sub q k)
  ·exact jI _ k
 f_:=λs y hs hn ne e j hj=>by
  rcases bL.mp hs with k |k
  ·exact fm _ (I.f_ s y k (λz=>hn (fm _ z)) ne e j hj)
  ·exact absurd (jI _ k) hn
 got:=λj hj=>by
  rcases bL.mp hj with k |k
  ·exact fm _ (I.got j k)
  ·exact jI _ k
 pin:=fm _ I.pin
theorem jG.done{c:Code}{p:Nat}{x:Ins}{ws js S W:ψ}(hx:c[p]? =some x)(hj:∀j∈nexts p x,j∈js)(I:jG c p x ws js S W):j6 c S W where
 nd:=I.nd
 le:=I.le
 zero:=I.zero
 rc:=I.rc
 sub:=I.sub
 f_:=λs y h k e j h'=>by
  by_cases q:s=p
  ·subst q;rw[hx]at e;cases e;exact I.got j (hj j h')
  ·exact I.f_ s y h k q e j h'
theorem j6.pop{c:Code}{S ws:ψ}(I:j6 c S (ws++[c.length])):j6 c S ws where
 nd:=I.nd
 le:=I.le
 zero:=I.zero
 rc:=I.rc
 sub:=λq h=>I.sub q (fm _ h)
 f_:=λs y h k e j hj=>I.f_ s y h (λz=>(bL.mp z).elim k λz=>by
  have:s=c.length:=by simpa using z
  have:=g_ e;omega) e j hj
noncomputable def a9(v l:Nat->Bytes):Ins->List Bytes
 | .num d z=>[v d,ascii "=",decimal z]
 | .copy d a=>[v d,ascii "=",v a]
 | .op k d a b=>[v d,ascii "=",v a,ops.getD k [],v b]
 | .read d=>[v d,ascii "=",ascii "read"]
 | .print a=>[ascii "print",v a]
 | .goto t=>[ascii "goto",l t]
 | .cond a t=>[ascii "if",v a,ascii "goto",l t]
 | .stop=>[ascii "end"]
def vM(vs:ζ)(i:Nat):Bytes:=vs.getD i []
def lM(c:Code)(t:Nat):Bytes:=108::decimal (((targets c).findIdx? λu=>u==t).getD 0:Nat)
def d8(vs:ζ)(c:Code)(i:Nat):List (List Bytes):=((c[i]?).map λx=>[a9 (vM vs) (lM c) x]).getD []
def fJ(vs:ζ)(c:Code)(i:Nat):List (List Bytes):=(if (targets c).contains i=true then [[ascii "label",lM c i]]else [])++d8 vs c i
def gF(vs:ζ)(c:Code):List (List Bytes):=(List.range (c.length+1)).flatMap (fJ vs c)
def c6(ws:ζ):Bytes:=List.intercalate [32] ws++[10]
theorem Fq(p:Program):p.text=(gF p.vars p.code).flatMap c6:=by
 unfold Program.text gF;rw[List.flatMap_assoc];dsimp only
 congr 1
 funext i;unfold fJ d8;rw[oj]
 congr 1
 ·split
  ·simp[c6,lM]
  ·rfl
 ·cases p.code[i]? with
  |none=>rfl
  |some x=>show _=List.flatMap c6 [a9 (vM p.vars) (lM p.code) x];rw[Rz];cases x<;>rfl
theorem y6(f:Nat->Bool)(c:Nat)(r:Bytes):parted f (c::r)=match parted f r with
  |l::m=>if f c=true then []::l::m else (c::l)::m
  |[]=>[[c]]:=rfl
theorem Eg{f:Nat->Bool}{x:Nat}(hx:f x=true){r:Bytes}:∀{a:Bytes},(∀y∈a,f y=false)->parted f (a++x::r)=a::parted f r
 |[],_=>by
  show parted f (x::r)=_;rw[y6];cases h:parted f r with
  |nil=>
   cases r with
   |nil=>cases h
   |cons y r=>
    rw[y6]at h;split at h
    ·split at h<;>cases h
    ·cases h
  |cons l m=>simp[hx]
 |y::a,h=>by
  have ih:=Eg hx (r:=r) (a:=a) λz hz=>h z (bM _ hz)
  show parted f (y::(a++x::r))=_;rw[y6,ih];simp[h y dN]
theorem Ov{f:Nat->Bool}:∀{a:Bytes},(∀y∈a,f y=false)->parted f a=[a]
 |[],_=>rfl
 |y::a,h=>by
  have ih:=Ov (f:=f) (a:=a) λz hz=>h z (bM _ hz)
  rw[y6,ih];simp[h y dN]
def u9(k c:Nat):Bool:=c==k
theorem Ow:∀{ws:ζ},ws≠[]->(∀w∈ws,∀y∈w,u9 32 y=false)->parted (u9 32) (List.intercalate [32] ws)=ws
 |[],h,_=>absurd rfl h
 |[w],_,h=>by
  have e:List.intercalate [32] [w]=w:=by simp[List.intercalate,List.intersperse]
  rw[e];exact Ov (h w (by simp))
 |w::u::ws,_,h=>by
  have e:List.intercalate [32] (w::u::ws)=w++32::List.intercalate [32] (u::ws):=by simp[List.intercalate,List.intersperse]
  rw[e,Eg (by decide) (h w (by simp)),Ow (by simp) λx hx=>h x (bM _ hx)]
theorem YR{ws:ζ}{y:Nat}(h:y∈List.intercalate [32] ws):y=32\/∃w∈ws,y∈w:=by
 induction ws with
 |nil=>simp[List.intercalate]at h
 |cons w ws ih=>
  cases ws with
  |nil=>
   have e:List.intercalate [32] [w]=w:=by simp[List.intercalate,List.intersperse]
   rw[e]at h;exact .inr ⟨w,by simp,h⟩
  |cons u ws=>
   have e:List.intercalate [32] (w::u::ws)=w++32::List.intercalate [32] (u::ws):=by simp[List.intercalate,List.intersperse]
   rw[e,bL,aX]at h;rcases h with h |h |h
   ·exact .inr ⟨w,by simp,h⟩
   ·exact .inl h
   ·exact(ih h).imp_right λ⟨x,hx,k⟩=>⟨x,bM _ hx,k⟩
def qf(w:Bytes):Prop:=∀y∈w,y≠32/\y≠10
def PlainL(ws:ζ):Prop:=ws≠[]/\∀w∈ws,qf w
theorem Eh:∀{L:List (List Bytes)},(∀ws∈L,PlainL ws)->parted (u9 10) (L.flatMap c6)=L.map (List.intercalate [32])++[[]]
 |[],_=>rfl
 |ws::L,h=>by
  have ih:=Eh (L:=L) λx hx=>h x (bM _ hx)
  rw[om];unfold c6;rw[mJ];show parted (u9 10) (List.intercalate [32] ws++10::L.flatMap c6)=_;rw[Eg (by decide) λy hy=>?_,ih]
  ·rfl
  ·rcases YR hy with e |⟨w,hw,hy⟩
   ·rw[e]
    decide
   ·exact beq_false_of_ne ((h ws (by simp)).2 w hw y hy).2
theorem YS{L M:List (List Bytes)}(hL:∀ws∈L,PlainL ws)(hM:∀ws∈M,PlainL ws)(h:L.flatMap c6=M.flatMap c6):L=M:=by
 have e:=Eh hL;rw[h,Eh hM]at e;have e:=List.append_cancel_right e;have back:∀{N:List (List Bytes)},(∀ws∈N,PlainL ws)->(N.map (List.intercalate [32])).map (parted (u9 32))=N:=by
  intro N hN;rw[fu]
  conv=>rhs;rw[<-F3 N]
  exact wc λws hw=>Ow (hN ws hw).1 λw k y hy=>beq_false_of_ne ((hN ws hw).2 w k y hy).1
 rw[<-back hL,<-back hM,e]
def Ei(l:Bytes):Nat:=l.foldl (λn c=>10*n+(c-48)) 0
theorem Ox(n:Nat):Ei (eZ n)=n:=by
 induction n using Nat.strongRecOn with
 |ind n ih=>
  by_cases h:n<10
  ·rw[rY h];show 10*0+(48+n-48)=n;omega
  ·rw[uV h];unfold Ei;rw[zK];show 10*Ei (eZ (n/10))+(48+n%10-48)=n;rw[ih _ (by omega)];omega
theorem YT(n:Nat):eZ n≠[]:=by
 by_cases h:n<10
 ·rw[rY h];simp
 ·rw[uV h];simp
theorem Ej(n:Nat):∃c r,eZ n=c::r/\48<=c/\c<=57:=by
 cases h:eZ n with
 |nil=>exact absurd h (YT n)
 |cons c r=>exact⟨c,r,rfl,Oh n c (by rw[h];simp)⟩
theorem Oy(z:Int):∃c r,decimal z=c::r/\c<=57:=by
 rw[rZ];split
 ·exact⟨45,_,rfl,by decide⟩
 ·obtain⟨c,r,e,h⟩:=Ej z.natAbs;exact⟨c,r,e,h.2⟩
theorem Oz(z:Int):qf (decimal z):=by
 intro y hy;rw[rZ]at hy;have d:=λh=>Oh z.natAbs y h
 split at hy
 ·rcases aX.mp hy with e |e
  ·omega
  ·have:=d e;omega
 ·have:=d hy;omega
theorem OC{a b:Int}(h:decimal a=decimal b):a=b:=by
 rw[rZ,rZ]at h;obtain⟨c,r,e,k⟩:=Ej a.natAbs;obtain⟨c',r',e',k'⟩:=Ej b.natAbs;have inj:eZ a.natAbs=eZ b.natAbs->a.natAbs=b.natAbs:=λq=>by rw[<-Ox a.natAbs,q,Ox]
 split at h<;>split at h
 ·have:=inj (sP h).2;omega
 ·rw[e']at h;have:=(sP h).1;omega
 ·rw[e]at h;have:=(sP h).1;omega
 ·have:=inj h;omega
structure fK(vs:ζ):Prop where
 nd:vs.Nodup
 nm:∀w∈vs,isName w=true
theorem YU{w:Bytes}(h:isName w=true):∃c r,w=c::r/\97<=c:=by
 unfold isName at h;simp only[fM]at h;cases w with
 |nil=>cases h.2.1
 |cons c r=>have:letter c=true:=h.2.1;unfold letter at this;simp at this;exact⟨c,r,rfl,this.1⟩
theorem YV{w:Bytes}(h:isName w=true):qf w:=by unfold isName at h;simp only[fM]at h;intro y hy;have:=zL.mp h.2.2.1 y hy;unfold letter digit at this;simp at this;omega
theorem OD{w k:Bytes}(h:isName w=true)(hk:k∈kept):w≠k:=by unfold isName at h;simp only[fM]at h;intro e;subst e;have:=h.2.2.2;simp[hk]at this
section
variable{P:Int->Prop}{n:Nat}{c d:Code}{vs:ζ}
theorem u_(N:fK vs){i:Nat}(h:i<vs.length):isName (vM vs i)=true:=by unfold vM;rw[dy,aL h];exact N.nm _ (vY h)
theorem YW(N:fK vs){i j:Nat}(hi:i<vs.length)(hj:j<vs.length)(h:vM vs i=vM vs j):i=j:=by unfold vM at h;rw[dy,dy,aL hi,aL hj]at h;exact(Q7 N.nd).mp h
theorem OE(c:Code)(t:Nat):qf (lM c t):=by
 intro y hy;unfold lM at hy;rcases aX.mp hy with e |e
 ·omega
 ·exact Oz _ y e
theorem YX:∀k,k<12->qf (ops.getD k []):=by
 have:∀k,k<12->∀y∈ops.getD k [],y≠32/\y≠10:=by decide
 exact this
theorem YY(N:fK vs){m:Nat}{x:Ins}(O:hV P vs.length m x)(l:Nat->Bytes)(hl:∀t,qf (l t)):PlainL (a9 (vM vs) l x):=by
 have pv:∀i,i<vs.length->qf (vM vs i):=λi h=>YV (u_ N h)
 have fix:∀w∈([ascii "=",ascii "read",ascii "print",ascii "goto",ascii "if",ascii "end"]:List Bytes),∀y∈w,y≠32/\y≠10:=by decide
 refine⟨by cases x<;>simp[a9],λw hw=>?_⟩;cases x with
 |num d z=>
  simp only[a9,aX,dB,dC]at hw;rcases hw with e |e |e<;>subst e
  ·exact pv d (O.gv d rfl)
  ·exact fix _ (by simp)
  ·exact Oz z
 |copy d a=>
  simp only[a9,aX,dB,dC]at hw;rcases hw with e |e |e<;>subst e
  ·exact pv d (O.gv d rfl)
  ·exact fix _ (by simp)
  ·exact pv a (O.us a (by simp[usesOf]))
 |op k d a b=>
  simp only[a9,aX,dB,dC]at hw;rcases hw with e |e |e |e |e<;>subst e
  ·exact pv d (O.gv d rfl)
  ·exact fix _ (by simp)
  ·exact pv a (O.us a (by simp[usesOf]))
  ·exact YX k (O.op k d a b rfl)
  ·exact pv b (O.us b (by simp[usesOf]))
 |read d=>
  simp only[a9,aX,dB,dC]at hw;rcases hw with e |e |e<;>subst e
  ·exact pv d (O.gv d rfl)
  ·exact fix _ (by simp)
  ·exact fix _ (by simp)
 |print a=>
  simp only[a9,aX,dB,dC]at hw;rcases hw with e |e<;>subst e
  ·exact fix _ (by simp)
  ·exact pv a (O.us a (by simp[usesOf]))
 |goto t=>
  simp only[a9,aX,dB,dC]at hw;rcases hw with e |e<;>subst e
  ·exact fix _ (by simp)
  ·exact hl t
 |cond a t=>
  simp only[a9,aX,dB,dC]at hw;rcases hw with e |e |e |e<;>subst e
  ·exact fix _ (by simp)
  ·exact pv a (O.us a (by simp[usesOf]))
  ·exact fix _ (by simp)
  ·exact hl t
 |stop=>simp only[a9,aX,dB,dC]at hw;subst hw;exact fix _ (by simp)
theorem OF(N:fK vs)(G:GoodC P vs.length c):∀ws∈gF vs c,PlainL ws:=by
 intro ws hw;obtain⟨i,_,hw⟩:=zP.mp hw;rcases bL.mp hw with h |h
 ·split at h
  ·have:ws=[ascii "label",lM c i]:=by simpa using h
   subst this;refine⟨by simp,λw k=>?_⟩;simp only[aX,dB,dC]at k;rcases k with e |e<;>subst e
   ·have:∀y∈ascii "label",y≠32/\y≠10:=by decide
    exact this
   ·exact OE c i
  ·exact nomatch h
 ·unfold d8 at h;cases hx:c[i]? with
  |none=>rw[hx]at h;exact nomatch h
  |some x=>
   rw[hx]at h;have:ws=a9 (vM vs) (lM c) x:=by simpa using h
   subst this;exact YY N (G x (br hx)) _ (OE c)
def jg(ws:ζ):Bool:=ws.head?==some (ascii "label")
theorem OG(N:fK vs){m:Nat}{x:Ins}(O:hV P vs.length m x)(l:Nat->Bytes):jg (a9 (vM vs) l x)=false:=by
 have nl:∀i,i<vs.length->vM vs i≠ascii "label":=λi h=>OD (u_ N h) (by decide)
 unfold jg;cases x with
 |num d z=>simpa[a9]using nl d (O.gv d rfl)
 |copy d a=>simpa[a9]using nl d (O.gv d rfl)
 |op k d a b=>simpa[a9]using nl d (O.gv d rfl)
 |read d=>simpa[a9]using nl d (O.gv d rfl)
 |print a=>simp[a9];decide
 |goto t=>simp[a9];decide
 |cond a t=>simp[a9];decide
 |stop=>simp[a9];decide
theorem OH(N:fK vs)(G:GoodC P vs.length c)(i:Nat):(fJ vs c i).filter (λws=> !jg ws)=d8 vs c i:=by
 unfold fJ;rw[sR];have h1:(if (targets c).contains i=true then [[ascii "label",lM c i]]else []).filter (λws=> !jg ws)=[]:=by
  split
  ·simp[jg]
  ·rfl
 rw[h1,FD];unfold d8;cases hx:c[i]? with
 |none=>rfl
 |some x=>show List.filter _ [_]=[_];have:=OG N (G x (br hx)) (lM c);simp[this]
theorem Ek(vs:ζ)(c:Code):∀t,t<=c.length->(List.range t).flatMap (d8 vs c)=(c.take t).map (a9 (vM vs) (lM c))
 |0,_=>rfl
 |t+1,h=>by
  have hl:t<c.length:=h;have gx:c[t]? =some c[t]:=aL hl;rw[sQ,oj,Ek vs c t (by omega),iO,dA,Rz]
  congr 1
  unfold d8;rw[gx];rfl
theorem OJ(N:fK vs)(G:GoodC P vs.length c):(gF vs c).filter (λws=> !jg ws)=c.map (a9 (vM vs) (lM c)):=by
 unfold gF;have e:∀l:List Nat,(l.flatMap (fJ vs c)).filter (λws=> !jg ws)=l.flatMap (d8 vs c):=by
  intro l
  induction l with
  |nil=>rfl
  |cons i l ih=>rw[om,sR,ih,OH N G,om]
 rw[e,sQ,oj,Ek vs c c.length (aJ _),kh,Rz];have:d8 vs c c.length=[]:=by unfold d8;rw[iM (aJ _)];rfl
 rw[this,ie]
def vb(w:Bytes):List (List Bytes)->Nat
 |[]=>0
 |ws::r=>if ws=[ascii "label",w]then 0 else (if jg ws=true then 0 else 1)+vb w r
theorem OK{w:Bytes}{r:List (List Bytes)}:∀{a:List (List Bytes)},[ascii "label",w] ∉ a->vb w (a++r)=(a.filter λws=> !jg ws).length+vb w r
 |[],_=>(og _).symm
 |ws::a,h=>by
  have ih:=OK (w:=w) (r:=r) (a:=a) λz=>h (bM _ z)
  have ne:ws≠[ascii "label",w]:=λz=>h (z▸dN)
  show(if ws=[ascii "label",w]then 0 else (if jg ws=true then 0 else 1)+vb w (a++r))=_;rw[af ne,ih,qK];cases q:jg ws with
  |true=>simp
  |false=>simp;omega
theorem YZ{t u:Nat}(ht:t∈targets c)(hu:u∈targets c)(h:lM c t=lM c u):t=u:=by
 unfold lM at h;have h:=OC (sP h).2;have h:((targets c).findIdx? λx=>x==t).getD 0=((targets c).findIdx? λx=>x==u).getD 0:=by omega
 cases e:(targets c).findIdx? λx=>x==t with
 |none=>have:=F2.mp e t ht;simp at this
 |some a=>
  cases e':(targets c).findIdx? λx=>x==u with
  |none=>have:=F2.mp e' u hu;simp at this
  |some b=>
   rw[e,e']at h;have h:a=b:=h;subst h;obtain⟨h1,h2,_⟩:=mM.mp e;obtain⟨h1',h2',_⟩:=mM.mp e';have h2:(targets c)[a]=t:=by simpa using h2
   have h2':(targets c)[a]=u:=by simpa using h2'
   rw[<-h2,<-h2']
theorem OL(N:fK vs)(G:GoodC P vs.length c){t:Nat}(ht:t∈targets c):vb (lM c t) (gF vs c)=t:=by
 have hl:=(uU.mp ht).1;obtain⟨k,e⟩:∃k,c.length+1=t+(k+1):=⟨c.length-t,by omega⟩;unfold gF;rw[e,List.range_add,oj,OK]
 ·have e1:∀l:List Nat,(l.flatMap (fJ vs c)).filter (λws=> !jg ws)=l.flatMap (d8 vs c):=by
   intro l
   induction l with
   |nil=>rfl
   |cons i l ih=>rw[om,sR,ih,OH N G,om]
  rw[e1,Ek vs c t hl,aI,vO,Nat.min_eq_left hl,FF,bx,om];have e2:fJ vs c (t+0)=[ascii "label",lM c t]::d8 vs c t:=by unfold fJ;rw[Nat.add_zero,ah (by simpa using ht)];rfl
  rw[e2];show t+(if _ then 0 else _)=t;rw[ah rfl];rfl
 ·intro hm;obtain⟨i,hi,hm⟩:=zP.mp hm;have hi:=qv.mp hi;rcases bL.mp hm with h |h
  ·split at h
   ·next k=>
    have h:[ascii "label",lM c t]=[ascii "label",lM c i]:=by simpa using h
    have:lM c t=lM c i:=by simpa using h
    have:=YZ ht (by simpa using k) this;omega
   ·exact nomatch h
  ·unfold d8 at h;cases hx:c[i]? with
   |none=>rw[hx]at h;exact nomatch h
   |some x=>
    rw[hx]at h;have h:[ascii "label",lM c t]=a9 (vM vs) (lM c) x:=by simpa using h
    have:=OG N (G x (br hx)) (lM c);rw[<-h]at this;simp[jg]at this
theorem Y1(N:fK vs){m m':Nat}{x y:Ins}(O:hV P vs.length m x)(O':hV P vs.length m' y){l l':Nat->Bytes}(hl:∀t u,tgt x=some t->tgt y=some u->l t=l' u->t=u)(h:a9 (vM vs) l x=a9 (vM vs) l' y):x=y:=by
 have vi:∀i j,i<vs.length->j<vs.length->vM vs i=vM vs j->i=j:=λi j a b e=>YW N a b e
 have vd:∀i z,i<vs.length->vM vs i≠decimal z:=λi z hi e=>by obtain⟨a,r,e1,k1⟩:=YU (u_ N hi);obtain⟨b,r',e2,k2⟩:=Oy z;rw[e1,e2]at e;have:=(sP e).1;omega
 have vr:∀i,i<vs.length->vM vs i≠ascii "read":=λi hi=>OD (u_ N hi) (by decide)
 have rd:∀z,ascii "read" ≠decimal z:=λz e=>by obtain⟨b,r',e2,k2⟩:=Oy z;rw[e2]at e;have:=(sP e).1;have:114=b:=this;omega
 have ho:∀k,k<12->∀k',k'<12->ops.getD k []=ops.getD k' []->k=k':=by decide
 have n1:ascii "print" ≠ascii "goto":=by decide
 cases x with
 |num d z=>
  cases y with
  |num d' z'=>simp only[a9,gK]at h;rw[vi d d' (O.gv d rfl) (O'.gv d' rfl) h.1,OC h.2.2.1]
  |copy d' a'=>simp only[a9,gK]at h;exact absurd h.2.2.1.symm (vd a' z (O'.us a' (by simp[usesOf])))
  |read d'=>simp only[a9,gK]at h;exact absurd h.2.2.1.symm (rd z)
  |_=>exact absurd (c7 List.length h) (qM rfl)
 |copy d a=>
  cases y with
  |num d' z'=>simp only[a9,gK]at h;exact absurd h.2.2.1 (vd a z' (O.us a (by simp[usesOf])))
  |copy d' a'=>simp only[a9,gK]at h;rw[vi d d' (O.gv d rfl) (O'.gv d' rfl) h.1,vi a a' (O.us a (by simp[usesOf])) (O'.us a' (by simp[usesOf])) h.2.2.1]
  |read d'=>simp only[a9,gK]at h;exact absurd h.2.2.1 (vr a (O.us a (by simp[usesOf])))
  |_=>exact absurd (c7 List.length h) (qM rfl)
 |op k d a b=>
  cases y with
  |op k' d' a' b'=>simp only[a9,gK]at h;rw[vi d d' (O.gv d rfl) (O'.gv d' rfl) h.1,vi a a' (O.us a (by simp[usesOf])) (O'.us a' (by simp[usesOf])) h.2.2.1,ho k (O.op _ _ _ _ rfl) k' (O'.op _ _ _ _ rfl) h.2.2.2.1,vi b b' (O.us b (by simp[usesOf])) (O'.us b' (by simp[usesOf])) h.2.2.2.2.1]
  |_=>exact absurd (c7 List.length h) (qM rfl)
 |read d=>
  cases y with
  |num d' z'=>simp only[a9,gK]at h;exact absurd h.2.2.1 (rd z')
  |copy d' a'=>simp only[a9,gK]at h;exact absurd h.2.2.1.symm (vr a' (O'.us a' (by simp[usesOf])))
  |read d'=>simp only[a9,gK]at h;rw[vi d d' (O.gv d rfl) (O'.gv d' rfl) h.1]
  |_=>exact absurd (c7 List.length h) (qM rfl)
 |print a=>
  cases y with
  |print a'=>simp only[a9,gK]at h;rw[vi a a' (O.us a (by simp[usesOf])) (O'.us a' (by simp[usesOf])) h.2.1]
  |goto t=>simp only[a9,gK]at h;exact absurd h.1 n1
  |_=>exact absurd (c7 List.length h) (qM rfl)
 |goto t=>
  cases y with
  |print a'=>simp only[a9,gK]at h;exact absurd h.1.symm n1
  |goto u=>simp only[a9,gK]at h;rw[hl t u rfl rfl h.2.1]
  |_=>exact absurd (c7 List.length h) (qM rfl)
 |cond a t=>
  cases y with
  |cond a' u=>simp only[a9,gK]at h;rw[vi a a' (O.us a (by simp[usesOf])) (O'.us a' (by simp[usesOf])) h.2.1,hl t u rfl rfl h.2.2.2.1]
  |_=>exact absurd (c7 List.length h) (qM rfl)
 |stop=>
  cases y with
  |stop=>rfl
  |_=>exact absurd (c7 List.length h) (qM rfl)
theorem OM{α β:Type}{f g:α->β}:∀{a b:List α},a.map f=b.map g->(∀x∈a,∀y∈b,f x=g y->x=y)->a=b
 |[],[],_,_=>rfl
 |[],_::_,h,_=>by simp at h
 |_::_,[],h,_=>by simp at h
 |x::a,y::b,h,k=>by rw[bx,bx,gK]at h;rw[k x (by simp) y (by simp) h.1,OM h.2 λu hu v hv=>k u (bM _ hu) v (bM _ hv)]
theorem Y2(N:fK vs)(G:GoodC P vs.length c)(G':GoodC P vs.length d)(h:(Program.mk vs c).text=(Program.mk vs d).text):c=d:=by
 rw[Fq,Fq]at h;have h:=YS (OF N G) (OF N G') h;have e:=OJ N G;rw[show(gF vs c)=gF vs d from h,OJ N G']at e;refine OM e.symm λx hx y hy k=>Y1 N (G x hx) (G' y hy) (λt u ht hu q=>?_) k
 have tt:t∈targets c:=uU.mpr ⟨(G x hx).tg t ht,D_.mpr ⟨x,hx,ht⟩⟩;have tu:u∈targets d:=uU.mpr ⟨(G' y hy).tg u hu,D_.mpr ⟨y,hy,hu⟩⟩;have a:=OL N G tt;have b:=OL N G' tu;rw[show(gF vs c)=gF vs d from h,q]at a;omega
end
theorem Y3{w:Bytes}{z:Int}(h:numberOf w=some z): -9223372036854775808<=z/\z<9223372036854775808:=by
 have e63:(2:Nat)^63=9223372036854775808:=by decide
 unfold numberOf at h;split at h
 ·cases q:natOf _ with
  |none=>rw[q]at h;cases h
  |some n=>
   rw[q,e9,e63]at h;split at h
   ·cases h;omega
   ·cases h
 ·cases q:natOf w with
  |none=>rw[q]at h;cases h
  |some n=>
   rw[q,e9,e63]at h;split at h
   ·cases h;omega
   ·cases h
abbrev y8(z:Int):Prop:= -9223372036854775808<=z/\z<9223372036854775808
structure ON(x:Line):Prop where
 nm:∀n∈varsOf x,isName n=true
 num:∀d z,x=.num d z->y8 z
 op:∀k d a b,x=.op k d a b->k<12
theorem OO{ws:ζ}{x:Line}(h:lineOf ws=some x):ON x:=by
 match ws,h with
 |[],h=>simp[lineOf]at h
 |[a],h=>
  simp only[lineOf]at h;split at h<;>cases h
  exact⟨λn k=>(nomatch k),λ_ _ e=>(by cases e),λ_ _ _ _ e=>(by cases e)⟩
 |[a,b],h=>
  simp only[lineOf]at h;split at h
  ·cases h
  ·next hb=>
   have hb:isName b=true:=by simpa using hb
   split at h
   ·cases h;exact⟨λn k=>(nomatch k),λ_ _ e=>(by cases e),λ_ _ _ _ e=>(by cases e)⟩
   ·split at h
    ·cases h;exact⟨λn k=>(nomatch k),λ_ _ e=>(by cases e),λ_ _ _ _ e=>(by cases e)⟩
    ·split at h<;>cases h
     exact⟨λn k=>by simp[varsOf]at k;rw[k];exact hb,λ_ _ e=>(by cases e),λ_ _ _ _ e=>(by cases e)⟩
 |[d',e',a],h=>
  simp only[lineOf]at h;split at h
  ·cases h
  ·next hd=>
   have hd:isName d'=true:=by
    cases q:isName d' with
    |true=>rfl
    |false=>exact absurd (.inl q) hd
   split at h
   ·cases h;exact⟨λn k=>by simp[varsOf]at k;rw[k];exact hd,λ_ _ e=>(by cases e),λ_ _ _ _ e=>(by cases e)⟩
   ·split at h
    ·rename_i z' hz
     cases h;exact⟨λn k=>by simp[varsOf]at k;rw[k];exact hd,λ_ _ e=>(by cases e;exact Y3 hz),λ_ _ _ _ e=>(by cases e)⟩
    ·split at h<;>cases h
     next ha=>exact⟨λn k=>by simp[varsOf]at k;rcases k with k |k<;>rw[k]<;>assumption,λ_ _ e=>(by cases e),λ_ _ _ _ e=>(by cases e)⟩
 |[i,a,g,n],h=>
  simp only[lineOf]at h;split at h<;>cases h
  next hh=>exact⟨λn k=>by simp[varsOf]at k;rw[k];exact hh.2.1,λ_ _ e=>(by cases e),λ_ _ _ _ e=>(by cases e)⟩
 |[d',e',a,o,b],h=>
  simp only[lineOf]at h;split at h
  ·cases h
  ·next hh=>
   have nt:∀w,¬isName w=false->isName w=true:=λw h=>by simpa using h
   have h1:=nt d' λz=>hh (.inl z)
   have h2:=nt a λz=>hh (.inr (.inr (.inl z)))
   have h3:=nt b λz=>hh (.inr (.inr (.inr z)))
   cases q:ops.findIdx? (λx=>x==o)with
   |none=>rw[q]at h;cases h
   |some k=>
    rw[q]at h;cases h;refine⟨λn k=>?_,λ_ _ e=>(by cases e),λ_ _ _ _ e=>?_⟩
    ·simp[varsOf]at k;rcases k with k |k |k<;>rw[k]<;>assumption
    ·cases e;exact(mM.mp q).1
 |a::b::c::d'::e'::f::r,h=>simp[lineOf]at h
structure sf(g:Got):Prop where
 mem:∀x∈g.items,∀n∈varsOf x.2,n∈g.vars
 El:∀x∈g.items,ON x.2
 cU:∀y∈g.labels,y.2<=g.items.length
 dk:g.items.length<=256
 dH:g.vars.length<=64
 nms:fK g.vars
theorem Y4{x:ζ}(hx:∀n∈x,isName n=true):∀{vs:ζ},fK vs->fK (x.foldl aO vs):=by
 induction x with
 |nil=>exact λh=>h
 |cons n x ih=>
  intro vs h;refine ih (λm hm=>hx m (bM _ hm)) ?_;unfold aO;split
  ·exact h
  ·next k=>
   have k:n ∉ vs:=by simpa using k
   refine⟨?_,λw hw=>?_⟩
   ·rw[vZ];refine⟨h.nd,by simp,λa ha b hb=>?_⟩;have:b=n:=by simpa using hb
    rintro rfl
    exact k (this▸ha)
   ·rcases bL.mp hw with e |e
    ·exact h.nm w e
    ·have:w=n:=by simpa using e
     rw[this];exact hx n (by simp)
theorem Y5{g g':Got}{k:Nat}{ws:ζ}(G:sf g)(h:put g k ws=some g'):sf g':=by
 by_cases hn:ws=[]
 ·unfold put at h;rw[ah hn]at h;cases h;exact G
 by_cases hl:ws.length=2/\ws.getD 0 []=ascii "label"
 ·have ew:ws=[ascii "label",ws.getD 1 []]:=by
   obtain⟨l2,e⟩:=hl
   match ws,l2,e with
   |[a,b],_,e=>have e:a=ascii "label":=e;rw[e];rfl
  rw[ew,M4]at h;split at h
  ·cases h
  ·cases h;refine⟨G.mem,G.El,λy hy=>?_,G.dk,G.dH,G.nms⟩;rcases bL.mp hy with e |e
   ·exact G.cU y e
   ·have:y=(ws.getD 1 [],g.items.length):=by simpa using e
    rw[this];exact aJ _
 ·rw[M3 hn hl]at h;cases q:lineOf ws with
  |none=>rw[q]at h;cases h
  |some x=>
   rw[q]at h;have h:(if 256<=g.items.length\/64<((varsOf x).foldl aO g.vars).length then none else some {g with items:=g.items++[(k,x)],vars:=(varsOf x).foldl aO g.vars})=some g':=h;split at h
   ·cases h
   ·rename_i hb
    cases h;refine⟨λy hy n hnn=>?_,λy hy=>?_,λy hy=>?_,?_,?_,Y4 (OO q).nm G.nms⟩
    ·rcases bL.mp hy with e |e
     ·exact yq (G.mem y e n hnn)
     ·have:y=(k,x):=by simpa using e
      rw[this]at hnn;exact M2 hnn
    ·rcases bL.mp hy with e' |e'
     ·exact G.El y e'
     ·have:y=(k,x):=by simpa using e'
      rw[this];exact OO q
    ·have:=G.cU y hy;show y.2<=(g.items++[(k,x)]).length;rw[a8];omega
    ·show(g.items++[(k,x)]).length<=256;rw[a8,cE];omega
    ·show((varsOf x).foldl aO g.vars).length<=64;omega
theorem OP:∀{lines:List (List Bytes)}{g g':Got}{k:Nat},sf g->puts g k lines=.ok g'->sf g'
 |[],_,_,_,G,h=>by cases h;exact G
 |ws::r,g,g',k,G,h=>by
  rw[Nh]at h;cases q:put g k ws with
  |none=>rw[q]at h;cases h
  |some g1=>rw[q]at h;exact OP (Y5 G q) h
theorem Y6{v:ζ}{w:Bytes}(h:w∈v):seek v w<v.length:=by
 unfold seek;have:(v.findIdx? λx=>x==w).isSome=true:=by rw[zN,mO];exact⟨w,h,by simp⟩
 obtain⟨i,e⟩:=sG.mp this;rw[e];exact(mM.mp e).1
theorem Y7{labs:List (Bytes×Nat)}{n:Bytes}{m:Nat}(h:∀y∈labs,y.2<=m):(place labs n).getD 0<=m:=by
 unfold place;cases q:labs.find? (λx=>x.1==n)with
 |none=>exact bS _
 |some y=>exact h y (Rw q)
theorem Y8{g:Got}(G:sf g){x:Nat×Line}(hx:x∈g.items):hV y8 g.vars.length g.items.length (insOf g x.2):=by
 have hm:=G.mem x hx;have O:=G.El x hx;have sk:∀n,n∈varsOf x.2->seek g.vars n<g.vars.length:=λn h=>Y6 (hm n h)
 have pl:∀n,(place g.labels n).getD 0<=g.items.length:=λn=>Y7 G.cU
 cases q:x.2 with
 |label n=>exact⟨λv h=>(by cases h),λd h=>(by cases h),λd z h=>(by cases h),λ_ _ _ _ e=>(by cases e),λ_ e=>(by cases e)⟩
 |num d z=>rw[q]at sk;exact D6 (sk d (by simp[varsOf])) (O.num d z q)
 |copy d a=>rw[q]at sk;exact D7 (sk d (by simp[varsOf])) (sk a (by simp[varsOf]))
 |op k d a b=>rw[q]at sk;have h1:=sk a (by simp[varsOf]);have h2:=sk b (by simp[varsOf]);exact⟨λv h=>(by simp[insOf,usesOf]at h;omega),λd' h=>(by cases h;exact sk d (by simp[varsOf])),λd' z' h=>(by cases h),λ_ _ _ _ e=>(by cases e;exact O.op _ _ _ _ q),λ_ e=>(by cases e)⟩
 |read d=>rw[q]at sk;exact⟨λv h=>(by cases h),λd' h=>(by cases h;exact sk d (by simp[varsOf])),λd' z' h=>(by cases h),λ_ _ _ _ e=>(by cases e),λ_ e=>(by cases e)⟩
 |print a=>rw[q]at sk;have h1:=sk a (by simp[varsOf]);exact⟨λv h=>(by simp[insOf,usesOf]at h;omega),λd' h=>(by cases h),λd' z' h=>(by cases h),λ_ _ _ _ e=>(by cases e),λ_ e=>(by cases e)⟩
 |goto n=>exact⟨λv h=>(by cases h),λd' h=>(by cases h),λd' z' h=>(by cases h),λ_ _ _ _ e=>(by cases e),λ_ e=>(by cases e;exact pl n)⟩
 |cond a n=>rw[q]at sk;have h1:=sk a (by simp[varsOf]);exact⟨λv h=>(by simp[insOf,usesOf]at h;omega),λd' h=>(by cases h),λd' z' h=>(by cases h),λ_ _ _ _ e=>(by cases e),λ_ e=>(by cases e;exact pl n)⟩
 |stop=>exact⟨λv h=>(by cases h),λd h=>(by cases h),λd z h=>(by cases h),λ_ _ _ _ e=>(by cases e),λ_ e=>(by cases e)⟩
theorem Y9{t:Bytes}{p:Program}(h:parse t=.ok p):GoodC y8 p.vars.length p.code/\fK p.vars/\p.code.length<=256/\p.vars.length<=64:=by
 rw[Q4]at h;cases q:puts ⟨[],[],[]⟩ 1 ((parted (λ(c:Nat)=>c==10) t).map words)with
 |error k=>rw[q]at h;cases h
 |ok g=>
  rw[q]at h;have G:sf g:=OP ⟨λ_ h=>absurd h (by simp),λ_ h=>absurd h (by simp),λ_ h=>absurd h (by simp),bS _,bS _,⟨zD,λ_ h=>absurd h (by simp)⟩⟩ q;cases f:(cD g.items).find? (λx=>(place g.labels x.2.1).isNone)with
  |some x=>have h:(match (cD g.items).find? (λx=>(place g.labels x.2.1).isNone)with |some x=>Except.error x.2.2 |none=>Except.ok ⟨g.vars,g.items.map λ(x:Nat×Line)=>insOf g x.2⟩)=Except.ok p:=h;rw[f]at h;cases h
  |none=>
   have h:(match (cD g.items).find? (λx=>(place g.labels x.2.1).isNone)with |some x=>Except.error x.2.2 |none=>Except.ok ⟨g.vars,g.items.map λ(x:Nat×Line)=>insOf g x.2⟩)=Except.ok p:=h;rw[f]at h;cases h;refine⟨λi hi=>?_,G.nms,?_,G.dH⟩
   ·obtain⟨y,hy,rfl⟩:=d_.mp hi;rw[aI];exact Y8 G hy
   ·show(g.items.map _).length<=256;rw[aI];exact G.dk
end My
namespace My
open PySem L2
def fi(l:KL):List V:=l.map da
theorem Y_(l:KL):(fi l).length=l.length:=aI _
theorem vc{l:KL}{i:Nat}(h:i<l.length):(fi l)[i]? =some (da (knows l i)):=by unfold fi knows;rw[bC,aL h];rfl
theorem Em(x:Option Int):i5 (da x)=true:=by cases x<;>rfl
inductive OQ(t:Ad)(vs:ε)(H:Hp)(Q:VK)(e0:XK):Prop
 |mk (a kp:Addr) (i:Ins) (pl:V) (l:KL):vs=[.ref a,.ref kp]->dF t H a i pl->H kp=some (.lst (fi l))->(givesOf i).isSome=true->((∀v∈usesOf i,v<l.length))->AllP aN l->(∀H',ae H H'->Q (da (jd i l)) H')->OQ t vs H Q e0
theorem OS{te:TE}{g:TG}{D:L2.Ends}{σ:St}{H:Hp}(h:te σ H λx H1=>g x σ H1 D.nx):wB te g D σ H:=h
variable{P:Program}{w:World}{K:ax}{mg:τ}{base:Heap}{t:Ad}
theorem OT(T:Txt K mg t):aE P w K mg base aM 4 t.Bm t.JP ["instruction","known"] (OQ t):=by
 refine T.xW.ko ["instruction","known","numbers","variable"] λH Q hr h nd=>?_
 obtain⟨a,kp,i,pl,l,rfl,hI,hk,hg,hus,hP,k⟩:=h;refine⟨_,ak (aP (aQ bB (aA (pv 0)) bq) (aq (aC (aA (pv 0)))) aR) (ak (aP (aQ bB (aA (pv 0)) bq) (aq (aC e_)) aR) (ak (mZ (i:=2) (own:=[("variable",3)]) rfl nd rfl rfl rfl (lT (aA (pv 0))) ?b1 (λs H C cl fp=>bD 3 nd) (λs H C cl fp=>eE) (λs H C cl fp=>aU (r:=oM K) bc (pv 1) (pv 3) (λ_ _=>rfl))) (ak (aP (aQ Ar e_ (pv 2) (by with_unfolding_all rfl)) (aq (aC e_)) aR) (ak (aP (aQ bB (aA (pv 0)) bq) (aq (aC (aU bc (pv 2) aF))) aR) (aq (aC (pC (MC T) hr T.Cw T.xV (aa (aA (pv 0)) (aa (aU bc (pv 2) aF) (aa (aU bc (pv 2) aF) ag)))))))))),?_⟩
 ·show cX ["instruction","known","numbers","variable"] (bp I0) _ _;exact bk
 ·dsimp only[bI,Cx.bZ];obtain⟨dx,u,op,ha,hu,hop⟩:=hI;have cl:=T.cI;have comp:∀(Qn:VK)(us:ψ),H u=some (.tup (iw us))->(∀v∈us,v<l.length)->us.length<=10->(∀D H1,ae H H1->H1 D=some (.lst (us.map λv=>da (knows l v)))->Qn (.ref D) H1)->
    tM (Gm K (oH K (dX 0) "used")) (cW 3) wV (gQ (oM K) (dX 1) (dX 3)) [3] [χ a,χ kp,none,none] H Qn:=by
   intro Qn us hu hb hl kk;refine⟨_,rfl,a,_,dx,_,_,rfl,ha,cl,T.dR,eO,u,rfl,⟨_,aV.of hu⟩,λD hD=>?_⟩;refine l8 (xs:=iw us) (λv=>match v with | .int z=>da (knows l z.toNat) |v=>v) hD (by rw[bJ,aZ];omega) (λH2 s2=>rj (s2.oY (aV.of hu))) (λy=>rfl) ?_ ?_
   ·intro i y H2 hy s2 Q' k';obtain⟨c,hc,rfl⟩:=kL hy;exact⟨_,rfl,_,rfl,kp,_,_,_,rfl,rfl,aj.of (s2 _ _ hk),aY (vc (hb c (br hc))),k' H2 (ae.refl _)⟩
   ·intro H2 s2 hL2;refine kk D H2 s2 (hL2.trans ?_);unfold iw;rw[fu];rfl
  cases i with
  |num d z=>refine⟨_,rfl,a,_,dx,_,_,rfl,ha,cl,T.be,bo,rfl,_,rfl,?_⟩;exact aD ⟨_,rfl,a,_,dx,_,_,rfl,ha,cl,T.ue,Dt,k H (ae.refl H)⟩
  |read d=>refine⟨_,rfl,a,_,dx,_,_,rfl,ha,cl,T.be,bo,rfl,_,rfl,?_⟩;refine az ⟨_,rfl,a,_,dx,_,_,rfl,ha,cl,T.be,bo,rfl,_,rfl,?_⟩;exact aD (k H (ae.refl H))
  |copy d v=>
   refine⟨_,rfl,a,_,dx,_,_,rfl,ha,cl,T.be,bo,rfl,_,rfl,?_⟩;refine az ⟨_,rfl,a,_,dx,_,_,rfl,ha,cl,T.be,bo,rfl,_,rfl,?_⟩;refine az ?_;dsimp only[wz];refine d5 (OS ?_);refine comp _ [v] hu hus (by show 1<=10;decide) λD H1 s1 hL=>?_
   have hL:H1 D=some (.lst [da (knows l v)]):=hL;have ha1:=s1 _ _ ha;refine⟨_,rfl,D,_,rfl,.inl (aj.of hL),rfl,(by show(i5 (da (knows l v))&&true)=true;rw[Em];rfl),_,rfl,?_⟩;have eg:jd (.copy d v) l=knows l v:=rfl;rw[eg]at k;cases hz:knows l v with
   |none=>rw[hz]at k hL;exact aD (k H1 s1)
   |some z=>rw[hz]at k hL;refine az ⟨_,rfl,a,_,dx,_,_,rfl,ha1,cl,T.be,bo,rfl,_,rfl,?_⟩;exact aD ⟨_,rfl,D,_,_,_,rfl,rfl,aj.of hL,aY (j:=0) rfl,k H1 s1⟩
  |op n d v v'=>
   obtain⟨h12,q,eq,hq⟩:=hop;subst eq;refine⟨_,rfl,a,_,dx,_,_,rfl,ha,cl,T.be,bo,rfl,_,rfl,?_⟩;refine az ⟨_,rfl,a,_,dx,_,_,rfl,ha,cl,T.be,bo,rfl,_,rfl,?_⟩;refine az ?_;dsimp only[wz];refine d5 (OS ?_);refine comp _ [v,v'] hu hus (by show 2<=10;decide) λD H1 s1 hL=>?_
   have hL:H1 D=some (.lst [da (knows l v),da (knows l v')]):=hL;have ha1:=s1 _ _ ha;refine⟨_,rfl,D,_,rfl,.inl (aj.of hL),rfl,(by show(i5 (da (knows l v))&&(i5 (da (knows l v'))&&true))=true;rw[Em,Em];rfl),_,rfl,?_⟩;rw[uJ]at k;have fS:∀v z,knows l v=some z->aN z:=λv z e=>by
    unfold knows at e;cases hv:l[v]? with
    |none=>rw[hv]at e;cases e
    |some x=>rw[hv]at e;have e:x=some z:=e;exact hP z (by rw[<-e];exact br hv)
   cases hz:knows l v with
   |none=>rw[hz]at k;exact aD (k H1 s1)
   |some z=>
    rw[hz]at k hL;cases hz':knows l v' with
    |none=>rw[hz']at k;exact aD (k H1 s1)
    |some z'=>rw[hz']at k hL;refine az ⟨_,rfl,a,_,dx,_,_,rfl,ha1,cl,T.be,bo,rfl,_,rfl,?_⟩;exact az ⟨_,rfl,a,_,dx,_,_,rfl,ha1,cl,T.me,pR,_,rfl,D,_,_,_,rfl,rfl,aj.of hL,aY (j:=0) rfl,_,rfl,D,_,_,_,rfl,rfl,aj.of hL,aY (j:=1) rfl,q,n,z,z',rfl,h12,s1 _ _ hq,fS v z hz,fS v' z' hz',k H1 s1⟩
  |_=>cases hg
noncomputable def g4{α:Type}(n:α)(ws:List α):List α:=n::n::n::ws
noncomputable def g5{α:Type}(n:α)(ws:List α):List α:=ws.take 1++n::ws.drop 1
noncomputable def y9:Ins->List Nat->Ins
 | .copy d _,[a]=>.copy d a
 | .op k d _ _,[a,b]=>.op k d a b
 | .print _,[a]=>.print a
 | .cond _ t,[a]=>.cond a t
 |i,_=>i
inductive OU(t:Ad)(vs:ε)(H:Hp)(Q:VK)(e0:XK):Prop
 |mk (a:Addr) (i:Ins) (n:Nat):vs=[.ref a,.int (n:Int)]->IA t H a i->(tgt i).isSome=true->(∀b H',ae H H'->IA t H' b (sent (λ_=>n) i)->Q (.ref b) H')->OU t vs H Q e0
inductive OV(t:Ad)(vs:ε)(H:Hp)(Q:VK)(e0:XK):Prop
 |mk (a u:Addr) (i:Ins) (us:ψ):vs=[.ref a,.ref u]->IA t H a i->H u=some (.tup (iw us))->us.length=(usesOf i).length->us≠[]->(∀b H',ae H H'->IA t H' b (y9 i us)->Q (.ref b) H')->OV t vs H Q e0
inductive OW(t:Ad)(vs:ε)(H:Hp)(Q:VK)(e0:XK):Prop
 |mk (a:Addr) (i:Ins):vs=[.ref a]->IA t H a i->Q (.bl (F.gb i)) H->OW t vs H Q e0
inductive OX(t:Ad)(vs:ε)(H:Hp)(Q:VK)(e0:XK):Prop
 |mk (p:Nat) (a:Addr) (i:Ins):vs=[.int (p:Int),.ref a]->IA t H a i->(∀D H',ae H H'->H D=none->H' D=some (.lst (iw (fh p i)))->Q (.ref D) H')->OX t vs H Q e0
theorem OY(T:Txt K mg t):mX K t.ma jX ["place"] (gG 1 (g4 .none)) (gG 1 (g4 .aw)):=by
 obtain⟨oc,od,kV,doc,pm,an,cdv,ct,osl,e,lk,hcd⟩:=T.nh;obtain⟨o,n,ho,hs⟩:=T.pI;refine uC (λs x y z ws X hw=>?_) λq=>.cons rfl (.cons rfl (.cons rfl q))
 obtain⟨u,rfl⟩:=uo hw;rw[e];exact vX X rfl ho hs rfl rfl
theorem Za(T:Txt K mg t):mX K t.ma jX ["given","operator","place"] (gG 3 (g5 .none)) (gG 3 (g5 .aw)):=by
 obtain⟨oc,od,kV,doc,pm,an,cdv,ct,osl,e,lk,hcd⟩:=T.nh;obtain⟨o,n,ho,hs⟩:=T.pI;refine uC (λs x y z ws X hw=>?_) λq=>(q.take 1).append (.cons rfl (q.drop 1))
 obtain⟨u,v,v',rfl⟩:=rH hw;rw[e];exact vX X rfl ho hs rfl rfl
theorem OZ(T:Txt K mg t):aE P w K mg base aM 3 t.Bc t.Js ["instruction","place"] (OU t):=by
 refine T.xT.ko ["instruction","place"] λH Q hr h nd=>?_
 obtain⟨a,i,n,rfl,hI,ht,k⟩:=h;refine⟨_,aq (aC (l7 T.gZ (iA T) hr rfl T.gX (OY T) dE (aa (aA (pv 0)) (aa (aA (pv 0)) ag)) (ir (pv 1) lV))),?_⟩;obtain⟨dx,u,op,ha,hu,hop⟩:=id hI;have cl:=T.cI;refine⟨_,rfl,a,_,dx,_,_,rfl,ha,cl,T.be,bo,_,rfl,a,_,dx,_,_,rfl,ha,cl,T.dR,eO,_,rfl,?_⟩;intro x cY nx cP iB;refine⟨x,cY,_,_,_,_,_,_,rfl,au,λH' h1 h2=>⟨rfl,?_⟩⟩;have s5:=fG nx cP h2;cases i with
 |goto v=>exact k x H' s5 ⟨cY,u,.aw,h1,s5 _ _ hu,rfl⟩
 |cond v v'=>exact k x H' s5 ⟨cY,u,.aw,h1,s5 _ _ hu,rfl⟩
 |_=>cases ht
theorem Zb(T:Txt K mg t):aE P w K mg base aM 3 t.Bd t.Jt ["instruction","used"] (OV t):=by
 refine T.Cc.ko ["instruction","used","given"] λH Q hr h nd=>?_
 obtain⟨a,u',i,us,rfl,hI,d7,hl,hne,k⟩:=h;refine⟨_,ak (aS 2 nd (aA (pv 0))) (aq (aC (l7 T.gZ (iA T) hr rfl T.gX (Za T) dE (aa (aA (pv 0)) (aa (pv 1) ag)) (ir (pv 2) (ir (aA (pv 0)) (ir (aA (pv 0)) lV)))))),?_⟩
 obtain⟨dx,u,op,ha,hu,hop⟩:=id hI;have cl:=T.cI;refine⟨_,rfl,a,_,dx,_,_,rfl,ha,cl,T.cA,cO,?_⟩;refine⟨_,rfl,a,_,dx,_,_,rfl,ha,cl,T.be,bo,_,rfl,_,rfl,_,rfl,a,_,dx,_,_,rfl,ha,cl,T.me,pR,_,rfl,a,_,dx,_,_,rfl,ha,cl,T.eJ,fX,?_⟩;intro x cY nx cP iB;refine⟨x,cY,_,_,_,_,_,_,rfl,au,λH' h1 h2=>⟨rfl,?_⟩⟩;have s5:=fG nx cP h2;cases i with
 |copy d v=>
  match us,hl with
  |[y],_=>exact k x H' s5 ⟨cY,u',op,h1,s5 _ _ d7,hop⟩
 |print v=>
  match us,hl with
  |[y],_=>exact k x H' s5 ⟨cY,u',op,h1,s5 _ _ d7,hop⟩
 |cond v v'=>
  match us,hl with
  |[y],_=>exact k x H' s5 ⟨cY,u',op,h1,s5 _ _ d7,hop⟩
 |op n d v v'=>
  match us,hl with
  |[y,y'],_=>obtain⟨h12,q,eq,hq⟩:=hop;exact k x H' s5 ⟨cY,u',op,h1,s5 _ _ d7,h12,q,eq,s5 _ _ hq⟩
 |_=>
  match us,hl with
  |[],_=>exact absurd rfl hne
theorem O1(T:Txt K mg t):aE P w K mg base aM 1 t.A_ t.Jn ["instruction"] (OW t):=by
 refine T.xQ.ko ["instruction"] λH Q hr h nd=>?_
 obtain⟨a,i,rfl,hI,k⟩:=h;refine⟨_,aq (aC (z5 (qW bB (aA (pv 0)) bq) (zZ (qW bB (aU gR (aA (pv 0)) aF) (aA (pv 0)))))),?_⟩;obtain⟨dx,u,op,ha,hu,hop⟩:=id hI;have cl:=T.cI;refine⟨_,rfl,a,_,dx,_,_,rfl,ha,cl,T.be,bo,rfl,_,rfl,?_⟩;cases i with
 |copy d v=>
  refine aD ⟨_,rfl,a,_,dx,_,_,rfl,ha,cl,T.dR,eO,_,_,_,_,rfl,rfl,aV.of hu,aY (j:=0) rfl,_,rfl,a,_,dx,_,_,rfl,ha,cl,T.cA,cO,rfl,?_⟩;have e:F.gb (.copy d v)=decide (V.int (v:Int)=V.int (d:Int)):=by rw[dU,gj];simp[F.gb];exact eq_comm
  rw[e]at k;exact k
 |_=>exact az k
theorem y_(T:Txt K mg t):aE P w K mg base aM 1 t.A6 t.Jj ["place","instruction"] (OX t):=by
 refine T.rB.ko ["place","instruction"] λH Q hr h nd=>?_
 obtain⟨p,a,i,rfl,hI,k⟩:=h;refine⟨_,ak (aP (aQ bB (aA (pv 1)) bq) (aq (aC (bV ag))) aR) (ak (aP (aQ bB (aA (pv 1)) bq) (aq (aC (bV (aa (aA (pv 1)) ag)))) aR) (ak (aP (aQ bB (aA (pv 1)) bq) (aq (aC (bV (aa (bG iq (pv 0) aF) (aa (aA (pv 1)) ag))))) aR) (aq (aC (bV (aa (bG iq (pv 0) aF) ag)))))),?_⟩
 obtain⟨dx,u,op,ha,hu,hop⟩:=id hI;have cl:=T.cI;have za:V.int ((p:Int)+1)=V.int ((p+1:Nat):Int):=by rw[Rq];rfl
 refine⟨_,rfl,a,_,dx,_,_,rfl,ha,cl,T.be,bo,rfl,_,rfl,?_⟩;cases i with
 |stop=>exact aD ⟨bS _,λD hD=>k D _ (ae.new hD) hD au⟩
 |goto u=>refine az ⟨_,rfl,a,_,dx,_,_,rfl,ha,cl,T.be,bo,rfl,_,rfl,?_⟩;exact aD ⟨_,rfl,a,_,dx,_,_,rfl,ha,cl,T.eJ,fX,z1,λD hD=>k D _ (ae.new hD) hD au⟩
 |cond v u=>refine az ⟨_,rfl,a,_,dx,_,_,rfl,ha,cl,T.be,bo,rfl,_,rfl,?_⟩;refine az ⟨_,rfl,a,_,dx,_,_,rfl,ha,cl,T.be,bo,rfl,_,rfl,?_⟩;refine aD ⟨_,rfl,_,_,rfl,rfl,_,rfl,a,_,dx,_,_,rfl,ha,cl,T.eJ,fX,z2,λD hD=>?_⟩;rw[za];exact k D _ (ae.new hD) hD au
 |_=>refine az ⟨_,rfl,a,_,dx,_,_,rfl,ha,cl,T.be,bo,rfl,_,rfl,?_⟩;refine az ⟨_,rfl,a,_,dx,_,_,rfl,ha,cl,T.be,bo,rfl,_,rfl,?_⟩;refine az ⟨_,rfl,_,_,rfl,rfl,z1,λD hD=>?_⟩;rw[za];exact k D _ (ae.new hD) hD au
structure Kd(K:ax)(α:Type) [DecidableEq α] where
 at_:Hp->V->α->Prop
 nl:∀{H H' v a},at_ H v a->NL H H'->at_ H' v a
 dat:α->PyData
 dp:∀{H v a},at_ H v a->Dp K H v (dat a)
 ok:α->Prop
 zb:∀{H v a},at_ H v a->ok a
 eqv:∀{a b},ok a->ok b->PyData.eqv (dat a) (dat b)=decide (a=b)
 En:∀a,PyData.eqv (dat a) .none=false
 Eo:∀a,PyData.eqv .none (dat a)=false
 lay:∀a,(dat a).canLay0=true
 dep:∀a,(dat a).depth<=8
section
variable{K:ax}{α:Type} [DecidableEq α](D:Kd K α)
def OA(H:Hp)(v:V):Option α->Prop
 |none=>v=.aw
 |some a=>D.at_ H v a
def bW:Option α->PyData
 |none=>.none
 |some a=>D.dat a
def qg:Option α->Prop
 |none=>True
 |some a=>D.ok a
def LA(H:Hp)(p:Addr)(l:LL α):Prop:=∃vs,H p=some (.lst vs)/\Paired (λo v=>OA D H v o) l vs
def dJ(H:Hp)(v:V):EE α->Prop
 |none=>v=.aw
 |some l=>∃p,v=.ref p/\LA D H p l
def zc:EE α->PyData
 |none=>.none
 |some l=>.list (l.map (bW D))
variable{D}
theorem OA.nl{H H':Hp}{v:V}{o:Option α}(h:OA D H v o)(k:NL H H'):OA D H' v o:=by
 cases o with
 |none=>exact h
 |some a=>exact D.nl h k
theorem OA.dp{H:Hp}{v:V}{o:Option α}(h:OA D H v o):Dp K H v (bW D o):=by
 cases o with
 |none=>have h:v=.aw:=h;rw[h];exact .aw
 |some a=>exact D.dp h
theorem OA.ok{H:Hp}{v:V}{o:Option α}(h:OA D H v o):qg D o:=by
 cases o with
 |none=>trivial
 |some a=>exact D.zb h
theorem zd{x y:Option α}(hx:qg D x)(hy:qg D y):PyData.eqv (bW D x) (bW D y)=decide (x=y):=by
 cases x with
 |none=>
  cases y with
  |none=>rfl
  |some b=>exact D.Eo b
 |some a=>
  cases y with
  |none=>exact D.En a
  |some b=>show PyData.eqv (D.dat a) (D.dat b)=_;rw[D.eqv hx hy,gj];simp
theorem O2(o:Option α):(bW D o).canLay0=true:=by
 cases o with
 |none=>rfl
 |some a=>exact D.lay a
theorem O3(o:Option α):(bW D o).depth<=8:=by
 cases o with
 |none=>exact FT (show PyData.depth .none<9 by unfold PyData.depth;omega)
 |some a=>exact D.dep a
theorem ve(o:Option α):SeqAt.shaped (bW D o)=true:=by unfold SeqAt.shaped;rw[fM];have:=O3 (D:=D) o;exact⟨O2 o,bj (by omega)⟩
theorem O4:∀{a b:LL α},(∀x∈a,qg D x)->(∀x∈b,qg D x)->PyData.eqvAll (a.map (bW D)) (b.map (bW D))=decide (a=b)
 |[],[],_,_=>rfl
 |[],_::_,_,_=>rfl
 |_::_,[],_,_=>rfl
 |x::a,y::b,ha,hb=>by show(PyData.eqv (bW D x) (bW D y)&&PyData.eqvAll (a.map (bW D)) (b.map (bW D)))=_;rw[zd (ha x (by simp)) (hb y (by simp)),O4 (λz h=>ha z (bM _ h)) λz h=>hb z (bM _ h),gj];simp
theorem O5:∀l:LL α,PyData.canLayAll0 (l.map (bW D))=true
 |[]=>rfl
 |x::r=>by show((bW D x).canLay0&&PyData.canLayAll0 (r.map (bW D)))=true;rw[O2,O5 r];rfl
theorem O6:∀l:LL α,PyData.depthAll (l.map (bW D))<=8
 |[]=>by show PyData.depthAll []<=8;exact FT (show PyData.depthAll []<9 by unfold PyData.depthAll;omega)
 |x::r=>by have h1:=O6 r;have h2:=O3 (D:=D) x;show max (bW D x).depth (PyData.depthAll (r.map (bW D)))<=8;omega
theorem O7(e:EE α):SeqAt.shaped (zc D e)=true:=by
 unfold SeqAt.shaped;rw[fM];cases e with
 |none=>exact⟨rfl,bj (show PyData.depth .none<=64 by decide)⟩
 |some l=>have:=O6 (D:=D) l;refine⟨O5 l,bj ?_⟩;show PyData.depthAll _+1<=64;omega
theorem Ep{H:Hp}{l:LL α}{vs:ε}(h:Paired (λo v=>OA D H v o) l vs):jS K H vs (l.map (bW D)):=by
 induction h with
 |nil=>exact .nil
 |cons r _ ih=>exact .cons r.dp ih
theorem Er{H:Hp}{l:LL α}{vs:ε}(h:Paired (λo v=>OA D H v o) l vs):∀x∈l,qg D x:=by
 induction h with
 |nil=>intro x hx;cases hx
 |cons r _ ih=>
  intro x hx;rcases aX.mp hx with e |e
  ·rw[e];exact r.ok
  ·exact ih x e
theorem dJ.dp{H:Hp}{v:V}{e:EE α}(h:dJ D H v e):Dp K H v (zc D e):=by
 cases e with
 |none=>have h:v=.aw:=h;rw[h];exact .aw
 |some l=>obtain⟨p,rfl,vs,hp,hv⟩:=h;exact .lst (aj.of hp) (Ep hv)
theorem dJ.eqv{H:Hp}{v v':V}{m:LL α}{e:EE α}(h:dJ D H v (some m))(h':dJ D H v' e):PyData.eqv (zc D (some m)) (zc D e)=decide (some m=e):=by
 obtain⟨p,rfl,vs,hp,hv⟩:=h;cases e with
 |none=>rfl
 |some l=>obtain⟨p',rfl,vs',hp',hv'⟩:=h';show PyData.eqvAll (m.map (bW D)) (l.map (bW D))=_;rw[O4 (Er hv) (Er hv'),gj];simp
theorem LA.mono{H H':Hp}{p:Addr}{l:LL α}(h:LA D H p l)(k:NL H H')(hp:∀vs,H p=some (.lst vs)->H' p=some (.lst vs)):LA D H' p l:=by obtain⟨vs,h1,h2⟩:=h;exact⟨vs,hp vs h1,Paired.cR h2 λo v q=>q.nl k⟩
theorem LA.same{H H':Hp}{p:Addr}{l:LL α}(h:LA D H p l)(s:ae H H'):LA D H' p l:=h.mono s.nl λvs e=>s _ _ e
theorem dJ.mono{H H':Hp}{v:V}{e:EE α}(h:dJ D H v e)(k:NL H H')(hp:∀p vs,v=.ref p->H p=some (.lst vs)->H' p=some (.lst vs)):dJ D H' v e:=by
 cases e with
 |none=>exact h
 |some l=>obtain⟨p,rfl,h⟩:=h;exact⟨p,rfl,h.mono k λvs e=>hp p vs rfl e⟩
theorem dJ.same{H H':Hp}{v:V}{e:EE α}(h:dJ D H v e)(s:ae H H'):dJ D H' v e:=h.mono s.nl λ_ _ _ e=>s _ _ e
theorem Zc{l m:LL α}{i:Nat}{x y:Option α}(h1:l[i]? =some x)(h2:m[i]? =some y):(gH l m)[i]? =some (if x=y then x else none):=by unfold gH;have e:(l.zip m)[i]? =some (x,y):=List.getElem?_zip_eq_some.mpr ⟨h1,h2⟩;rw[bC,e];rfl
end
inductive O8{K:ax}{α:Type} [DecidableEq α](D:Kd K α)(vs:ε)(H:Hp)(Q:VK)(e0:XK):Prop
 |mk (kv:V) (b:Addr) (e:EE α) (v:LL α):vs=[kv,.ref b]->dJ D H kv e->LA D H b v->((∀l,e=some l->l.length=v.length))->v.length<=100->(∀q H',ae H H'->(q=b\/H q=none)->LA D H' q (iJ e v)->Q (.ref q) H')->O8 D vs H Q e0
theorem Zd{α:Type} [DecidableEq α](D:Kd K α)(T:Txt K mg t):aE P w K mg base aM 1 t.A7 t.Jk ["before","brought"] (O8 D):=by
 refine T.xO.ko ["before","brought","one","other"] λH Q hr h nd=>?_
 obtain⟨kv,b,e,v,rfl,hE,hb,hl,Ze,k⟩:=h;refine⟨_,ak (aP (cG (ig (pv 0))) (aq (aC (pv 1))) aR) (aq (aC (iy (g:=jQ K 2 (eC (cW 2) (eC (cW 3) kl))) (own:=[("one",2),("other",3)]) rfl nd (w9 rfl T.uk (aa (pv 0) (aa (pv 1) ag))) ?b1 (λs H C cl fp=>mU rfl (fQ (bD 2 nd) (fQ (bD 3 nd) mT))) (λs H C cl fp=>eE) (λs H C cl fp=>gM (aQ (r:=wQ K) (jT hr.units) (pv 2) (pv 3)) (pv 2) e_)))),?_⟩
 ·show cX ["before","brought","one","other"] (bp IV) _ _;exact bk
 ·cases e with
  |none=>have hE:kv=.aw:=hE;subst hE;refine⟨_,rfl,_,rfl,?_⟩;exact aD ⟨_,rfl,k b H (ae.refl H) (.inl rfl) hb⟩
  |some l=>
   obtain⟨p,rfl,xs,hp,hx⟩:=hE;obtain⟨zs,hbz,hz⟩:=id hb;have hll:=hl l rfl;have lx:l.length=xs.length:=bt hx;have lz:v.length=zs.length:=bt hz;refine⟨_,rfl,_,rfl,?_⟩;refine az ⟨_,rfl,_,rfl,p,b,_,_,rfl,aj.of hp,aj.of hbz,λD' hD=>?_⟩;refine yH (λ_=>true) (λi y H=>∀o,(gH l v)[i]? =some o->OA D H y o) hD (by rw[aZ];omega) (aj.of hp) (aj.of hbz) (by omega) (λi y H H' r k o ho=>(r o ho).nl k) (λx y=>rfl) (λi x z H2 hi hj s2 A B hA hB=>?_) λys H2 s2 hL pr=>?_
   ·have il:i<l.length:=by have:=(bN.mp hi).1;omega
    have iv:i<v.length:=by omega
    have h1:=cp hx (aL il) hi;have h2:=cp hz (aL iv) hj;have m:=Zc (aL il) (aL iv);have h1:=h1.nl s2.nl;have h2:=h2.nl s2.nl;refine aD (B:=B H2) ?_;refine⟨_,rfl,_,rfl,_,_,h1.dp,h2.dp,ve _,ve _,_,rfl,?_⟩;rw[zd h1.ok h2.ok];by_cases e:l[i]=v[i]
    ·rw[bj e];refine aD ⟨_,rfl,hA rfl _ _ (ae.refl _) λo ho=>?_⟩;rw[m,ah e]at ho;cases ho;exact h1
    ·rw[aW e];refine az (hA rfl _ _ (ae.refl _) λo ho=>?_);rw[m,af e]at ho;cases ho;rfl
   ·rw[kU,<-lx,<-Nr hll]at pr;exact k D' H2 s2 (.inr hD) ⟨ys,hL,kX pr⟩
structure gg{K:ax}{α:Type} [DecidableEq α](D:Kd K α)(t:Ad)(H:Hp)(li bf wt:Addr)(is:θ)(c:Sz43.Code)(vs:ε)(B:List (EE α))(W:ψ):Prop where
 lst:H li=some (.lst (is.map V.ref))
 ins:Paired (λa i=>IA t H a i) is c
 jh:H bf=some (.lst vs)
 env:Paired (λv e=>dJ D H v e) vs B
 nv:∀p,V.ref p∈vs->p≠bf/\p≠wt
 e6:H wt=some (.lst (iw W))
 n1:bf≠wt
 n2:li≠bf
 n3:li≠wt
section
variable{K:ax}{α:Type} [DecidableEq α]{D:Kd K α}{t:Ad}{H H':Hp}{li bf wt:Addr}{is:θ}{c:Sz43.Code}{vs:ε}{B:List (EE α)}{W:ψ}
theorem gg.same(k:gg D t H li bf wt is c vs B W)(s:ae H H'):gg D t H' li bf wt is c vs B W:=⟨s _ _ k.lst,Paired.cR k.ins λa i h=>h.nl s.nl,s _ _ k.jh,Paired.cR k.env λv e h=>h.same s,k.nv,s _ _ k.e6,k.n1,k.n2,k.n3⟩
theorem gg.O9{W':ψ}(k:gg D t H li bf wt is c vs B W):gg D t (upd H wt (.lst (iw W'))) li bf wt is c vs B W':=by
 have tp:∀b o,H b=some o->b≠wt->(upd H wt (.lst (iw W'))) b=some o:=λb o e n=>by rw[ay n];exact e
 have nl:NL H (upd H wt (.lst (iw W'))):=NL.rQ k.e6;exact⟨tp _ _ k.lst k.n3,Paired.cR k.ins λa i h=>h.nl nl,tp _ _ k.jh k.n1,Paired.mapM k.env λv e hv h=>h.mono nl λp xs ev e=>tp _ _ e (k.nv p (ev▸hv)).2,k.nv,au,k.n1,k.n2,k.n3⟩
theorem gg.setB{w q:Nat}{m:LL α}(k:gg D t H li bf wt is c vs B W)(hq:LA D H q m)(q1:q≠bf)(q2:q≠wt):gg D t (upd H bf (.lst (vs.set w (.ref q)))) li bf wt is c (vs.set w (.ref q)) (B.set w (some m)) W:=by
 have tp:∀b o,H b=some o->b≠bf->(upd H bf (.lst (vs.set w (.ref q)))) b=some o:=λb o e n=>by rw[ay n];exact e
 have nl:NL H (upd H bf (.lst (vs.set w (.ref q)))):=NL.rQ k.jh;have env':Paired (λv e=>dJ D (upd H bf (.lst (vs.set w (.ref q)))) v e) vs B:=Paired.mapM k.env λv e hv h=>h.mono nl λp xs ev e=>tp _ _ e (k.nv p (ev▸hv)).1
 refine⟨tp _ _ k.lst k.n2,Paired.cR k.ins λa i h=>h.nl nl,au,?_,λp hp=>?_,tp _ _ k.e6 k.n1.symm,k.n1,k.n2,k.n3⟩
 ·have Es:∀{F:V->EE α->Prop}{x:V}{y:EE α},F x y->∀{l₁:ε}{l₂:List (EE α)}{w:Nat},Paired F l₁ l₂->Paired F (l₁.set w x) (l₂.set w y):=by
   intro F x y hxy l₁ l₂ w h
   induction h generalizing w with
   |nil=>exact .nil
   |cons r t ih=>
    cases w with
    |zero=>exact .cons hxy t
    |succ w=>exact .cons r ih
  exact Es ⟨q,rfl,hq.mono nl λvs e=>tp _ _ e q1⟩ env'
 ·rcases Rr hp with e |e
  ·exact k.nv p e
  ·cases e;exact⟨q1,q2⟩
theorem gg.len(k:gg D t H li bf wt is c vs B W):vs.length=B.length:=bt k.env
theorem gg.get{w:Nat}(k:gg D t H li bf wt is c vs B W)(h:w<B.length):∃v,vs[w]? =some v/\dJ D H v (gt B w):=by have hv:vs[w]? =some (vs[w]'(by rw[k.len];exact h)):=aL _;exact⟨_,hv,cp k.env hv (DL h)⟩
end
theorem vf{α β:Type}(a:β):∀l:List α,l.map (λ_=>a)=List.replicate l.length a
 |[]=>rfl
 |_::r=>by rw[bx,vf a r];rfl
theorem qh(w:ψ)(c:Nat):iw (w++[c])=iw w++[.int (c:Int)]:=MH w c
section
variable{K:ax}{α:Type} [DecidableEq α]
def O_(t:Ad)(D:Kd K α){n:Nat}{c:Sz43.Code}(S:Sys α n c)(vs:ε)(H:Hp)(Q:VK):Prop:=∃(a kp:Addr)(i:Ins)(l:LL α),vs=[.ref a,.ref kp]/\IA t H a i/\LA D H kp l/\i∈c/\l.length=n/\ ∀b H',ae H H'->(b=kp\/H b=none)->LA D H' b (S.bh i l)->Q (.ref b) H'
def Pa(t:Ad)(D:Kd K α){n:Nat}{c:Sz43.Code}(S:Sys α n c)(vs:ε)(H:Hp)(Q:VK):Prop:=∃(p:Nat)(a kp:Addr)(i:Ins)(l:LL α),vs=[.int (p:Int),.ref a,.ref kp]/\IA t H a i/\LA D H kp l/\i∈c/\l.length=n/\ ∀L H',ae H H'->H L=none->H' L=some (.lst (iw (S.ld p i l)))->Q (.ref L) H'
inductive Pb(t:Ad)(D:Kd K α){n:Nat}{c:Sz43.Code}(S:Sys α n c)(fB fW:Addr)(vs:ε)(H:Hp)(Q:VK)(e0:XK):Prop
 |mk (li fs:Addr):vs=[.ref li,.ref fs,.ref fB,.ref fW]->g9 t H li c->LA D H fs S.fst->(∀bf ws B H',H' bf=some (.lst ws)->Paired (λv e=>dJ D H' v e) ws B->gB S (λ_=>True) B []->ae H H'->Q (.ref bf) H')->Pb t D S fB fW vs H Q e0
end
theorem Pc{α:Type} [DecidableEq α](D:Kd K α){n:Nat}{c:Sz43.Code}(S:Sys α n c)(T:Txt K mg t){fB fW:Addr}(kB:keepIn K (.ref fB)=true)(kW:keepIn K (.ref fW)=true)(h256:c.length<=256)(h64:n<=64) (hB:∀vs H Q,O_ t D S vs H Q->∃k fd ps sp,aE P w K mg base aM k fB fd ps sp/\k<=5/\Binds K fd ps []/\sp vs H Q E0) (hW:∀vs H Q,Pa t D S vs H Q->∃k fd ps sp,aE P w K mg base aM k fW fd ps sp/\k<=5/\Binds K fd ps []/\sp vs H Q E0):aE P w K mg base aM 6 t.A8 t.Jl ["instructions","first","behind","ways"] (Pb t D S fB fW):=by
 refine T.xP.ko ["instructions","first","behind","ways","before","waiting","place","instruction","brought","way","together"] λH Q hr h nd=>?_
 obtain⟨li,fs,rfl,⟨is,hli,cQ⟩,hfs,k⟩:=h;have hr1:=hr.mono (show 1<=5 by decide);refine⟨_,ak (mZ (i:=4) (own:=[("place",6)]) rfl nd rfl rfl rfl (wC rfl T.rG (aa (bG iq (b8 c_ rfl T.cS c8 (aa (pv 0) ag)) aF) ag)) ?b1 (λs H C cl fp=>bD 6 nd) (λs H C cl fp=>eE) (λs H C cl fp=>e_))
  (ak (oz (pv 1) (oy (pv 4) aF qu))
  (ak (aS 5 nd (bV (aa aF ag)))
  (ak (sV gn (aQ qV (b8 c_ rfl T.cS c8 (aa (pv 5) ag)) aF) (ak (aS 6 nd (wO fv RB RC Ax (pv 5))) (ak (aP (aQ bB (pv 6) (b8 c_ rfl T.cS c8 (aa (pv 0) ag))) (aq z8) aR) (ak (aS 7 nd (aU bc (pv 0) (pv 6))) (ak (aS 8 nd (xk (i:=2) (spT:=λf vs H Q=>f=fB/\O_ t D S vs H Q) (λf vs H Q h=>by obtain⟨rfl,h⟩:=h;obtain⟨k,fd,ps,sp,F,hk,hb,hs⟩:=hB vs H Q h;exact⟨k,fd,ps,sp,F,hr.mono hk,hb,hs⟩) rfl (Or.inl rfl) (aa (pv 7) (aa (aU bc (pv 4) (pv 6)) ag)))) (aq (gP gn rfl (gO (xk (i:=3) (spT:=λf vs H Q=>f=fW/\Pa t D S vs H Q) (λf vs H Q h=>by
     obtain⟨rfl,h⟩:=h;obtain⟨k,fd,ps,sp,F,hk,hb,hs⟩:=hW vs H Q h;exact⟨k,fd,ps,sp,F,hr.mono hk,hb,hs⟩) rfl (Or.inl rfl) (aa (pv 6) (aa (pv 7) (aa (aU bc (pv 4) (pv 6)) ag))))) (bD 9 nd)
    (ak (aS 10 nd (tm (Zd D T) hr1 rfl T.KJ T.xO.kp (cb T.xO) .nil dE (aa (aU bc (pv 4) (pv 9)) (aa (pv 8) ag))))
    (aq (aP (aQ (Tw hr.units) (pv 10) (aU bc (pv 4) (pv 9))) (ak (oz (pv 10) (oy (pv 4) (pv 9) qu)) (aq (eA (gq fv jL jM i6 (pv 5) (aa (pv 9) ag))))) aR))))))))))
  (aq (aC (pv 4)))))),?_⟩
 ·show cX ["instructions","first","behind","ways","before","waiting","place","instruction","brought","way","together"] (bp IW) _ _;exact bk
 ·dsimp only[bI,Cx.bZ];have ln:is.length=c.length:=bt cQ;refine⟨_,rfl,li,_,rfl,.inl (aj.of hli),_,_,rfl,rfl,((c.length+1:Nat):Int),?_,by omega,by omega,λbf nQ=>?_⟩
  ·show[V.int (((is.map V.ref).length:Int)+1)]=_;rw[aI,ln];rfl
  refine l8 (xs:=(List.range (c.length+1)).map λ(i:Nat)=>V.int (0+i)) (λ_=>.aw) nQ (by rw[aI,gJ,aZ];omega) (λH2 _=>IG) (λy=>rfl) (λi y H2 _ _ Q' k'=>k' H2 (ae.refl _)) ?_;intro H1 s1 hb1;rw[vf,aI,gJ]at hb1;refine⟨_,rfl,_,rfl,bf,_,0,0,rfl,rfl,hb1,?_,?_⟩
  ·unfold iu;rw[qy,ah (by decide),ah (by omega)];rfl
  refine⟨z1,λwt my=>?_⟩;obtain⟨fvs,hfv,hfp⟩:=id hfs;have nbw:bf≠wt:=aH au my;have nlb:li≠bf:=aH hli nQ;have nDb:fs≠bf:=aH hfv nQ;have up3:∀b o,H1 b=some o->b≠bf->(upd (upd H1 bf (.lst ((List.replicate (c.length+1) V.aw).set 0 (.ref fs)))) wt (.lst [.int 0])) b=some o:=λb o e n=>by
   have e3:(upd H1 bf (.lst ((List.replicate (c.length+1) V.aw).set 0 (.ref fs)))) b=some o:=by rw[ay n];exact e
   rw[ay (aH e3 my)];exact e3
  have nlw:li≠wt:=aH (o:=.lst (is.map V.ref)) (by rw[ay nlb];exact s1 _ _ hli) my;have nDw:fs≠wt:=aH (o:=.lst fvs) (by rw[ay nDb];exact s1 _ _ hfv) my;have SS:ae H (upd (upd H1 bf (.lst ((List.replicate (c.length+1) V.aw).set 0 (.ref fs)))) wt (.lst [.int 0])):=λb o e=>up3 _ _ (s1 _ _ e) (aH e nQ)
  have K0:gg D t (upd (upd H1 bf (.lst ((List.replicate (c.length+1) V.aw).set 0 (.ref fs)))) wt (.lst [.int 0])) li bf wt is c ((List.replicate (c.length+1) V.aw).set 0 (.ref fs)) S.start [0]:=by
   refine⟨SS _ _ hli,Paired.cR cQ λa i h=>h.nl SS.nl,by rw[ay nbw];exact au,?_,λq hq=>?_,au,nbw,nlb,nlw⟩
   ·rw[lD,List.set_cons_zero];refine .cons ⟨fs,rfl,hfs.same SS⟩ ?_;have rp:∀(F:V->EE α->Prop),F .aw none->∀n,Paired F (List.replicate n V.aw) (List.replicate n none):=by
     intro F hF n
     induction n with
     |zero=>exact .nil
     |succ n ih=>rw[lD,lD];exact .cons hF ih
    exact rp _ rfl _
   ·rw[lD,List.set_cons_zero]at hq;rcases aX.mp hq with e |e
    ·cases e;exact⟨nDb,nDw⟩
    ·have:=RD e;cases this
  have m0:2*hts n S.start+1<=40000:=by
   have h1:hts n S.start<=S.start.length*(n+1):=by
    have all:∀l:List (EE α),(∀j,Wf n (gt l j))->hts n l<=l.length*(n+1):=by
     intro l
     induction l with
     |nil=>intro _;exact bS _
     |cons x l ih=>
      intro h;have ih:=ih λj=>h (j+1)
      have h0:=yL (h 0);unfold hts at*;rw[bx,iQ,bT,Nat.add_mul,Nat.one_mul];have:ht n (gt (x::l) 0)=ht n x:=rfl;omega
    exact all _ S.jF
   rw[S.rS]at h1;have h2:(c.length+1)*(n+1)<=257*65:=Nat.mul_le_mul (by omega) (by omega);omega
  have si:H wt=none:=by have s3:ae H (upd H1 bf (.lst ((List.replicate (c.length+1) V.aw).set 0 (.ref fs)))):=s1.upd nQ;exact s3.free my
  refine d5 ?_;obtain⟨I,hZ⟩:∃I:Nat->St->Hp->Prop,∀m σ Hh,I m σ Hh ↔ ∃(vs:ε)(B:List (EE α))(W:ψ)(v4 v5 v6 v7 v8:Option V),m=2*hts n B+W.length/\σ=[χ li,χ fs,χ fB,χ fW,χ bf,χ wt,v4,v5,v6,v7,v8]/\ gg D t Hh li bf wt is c vs B W/\gB S (λ_=>True) B W/\m<=40000/\ae H Hh:=⟨_,λ_ _ _=>jt⟩
  refine⟨I,⟨_,(hZ _ _ _).mpr ⟨_,_,_,_,_,_,_,_,rfl,rfl,K0,gB.init (λ_ _=>trivial),m0,SS⟩⟩,?_⟩;intro m σ Hh hh;obtain⟨vs,B,W,v4,v5,v6,v7,v8,rfl,rfl,Kb,WI,m4,SH⟩:=(hZ _ _ _).mp hh;refine⟨_,rfl,wt,_,rfl,.inl (aj.of Kb.e6),_,_,rfl,rfl,_,rfl,?_⟩;rw[bJ];rcases List.eq_nil_or_concat W with eW |⟨ws,q,eW⟩
  ·subst eW;exact az ⟨_,rfl,k bf vs B Hh Kb.jh Kb.env WI SH⟩
  rw[List.concat_eq_append]at eW;subst eW;have d0:decide ((0:Int)<((ws++[q]).length:Int))=true:=bj (by rw[a8,cE];omega);rw[d0];refine aD ⟨λσ' H'=>∃m',m'<2*hts n B+(ws++[q]).length/\I m' σ' H',λσ' H' h=>h,?_⟩;have e6:=Kb.e6;rw[qh]at e6;refine⟨_,rfl,.inl ⟨rfl,_,aj.of e6⟩,wt,_,.int (q:Int),rfl,rfl,e6,?_,?_⟩
  ·rw[a8,cE,F4];simp
  rw[RE];obtain⟨ze,f9⟩:∃ze,ze=upd Hh wt (.lst (iw ws)):=⟨_,rfl⟩;rw[<-f9];have lh:gg D t ze li bf wt is c vs B ws:=by rw[f9];exact Kb.O9
  have SH1:ae H ze:=by rw[f9];exact SH.upd si
  have wq:=WI.wb q (by simp);refine⟨_,rfl,_,rfl,li,_,rfl,.inl (aj.of lh.lst),rfl,_,rfl,?_⟩;rw[aI,ln,dU];by_cases hq:q=c.length
  ·rw[bj hq];refine aD ⟨2*hts n B+ws.length,by rw[a8,cE];omega,(hZ _ _ _).mpr ⟨vs,B,ws,_,_,_,_,_,rfl,rfl,lh,WI.pop hq,?_,SH1⟩⟩;rw[a8,cE]at m4;omega
  rw[aW hq];refine az ?_;have uZ:q<c.length:=by omega
  obtain⟨i,hi⟩:∃i,c[q]? =some i:=⟨_,aL uZ⟩;obtain⟨a,hai⟩:∃a,is[q]? =some a:=⟨_,aL (by omega)⟩;obtain⟨l,hl⟩:=wq.2;have him:=br hi;have lB:=WI.len;obtain⟨v,hv,hE⟩:=lh.get (w:=q) (by omega);rw[hl]at hE;obtain⟨kp,rfl,hkp⟩:=hE;have Et:l.length=n:=WI.wf q l hl;have hI:=cp lh.ins hai hi;have nkp:=lh.nv kp (br hv);refine⟨_,rfl,_,rfl,li,_,_,_,rfl,rfl,aj.of lh.lst,aY (by rw[bC,hai];rfl),?_⟩;refine⟨fB,rfl,kB,_,rfl,_,rfl,_,rfl,bf,_,_,_,rfl,rfl,aj.of lh.jh,aY hv,rfl,a,kp,i,l,rfl,hI,hkp,him,Et,λb H2' s2' hb2 eb2=>?_⟩;have vg:=lh.same s2';have nb:b≠bf/\b≠wt:=by
   rcases hb2 with e |e
   ·rw[e];exact nkp
   ·exact⟨(aH lh.jh e).symm,(aH lh.e6 e).symm⟩
  have hI2:=cp vg.ins hai hi;refine⟨fW,rfl,kW,_,rfl,_,rfl,_,rfl,_,rfl,bf,_,_,_,rfl,rfl,aj.of vg.jh,aY hv,rfl,q,a,kp,i,l,rfl,hI2,hkp.same s2',him,Et,λL H3' sr hD3 eD3=>?_⟩;have Kb3:=vg.same sr;have nD:L≠bf/\L≠wt:=⟨(aH vg.jh hD3).symm,(aH vg.e6 hD3).symm⟩;have eb3:=eb2.same sr;have bln:(S.bh i l).length=n:=by rw[S.bl];exact Et
  obtain⟨J,hJ⟩:∃J:Nat->St->Hp->Prop,∀r σ Hr,J r σ Hr ↔ ∃(vs':ε)(B':List (EE α))(W':ψ)(v7 v8:Option V),σ=[χ li,χ fs,χ fB,χ fW,χ bf,χ wt,υ q,χ a,χ b,v7,v8]/\ gg D t Hr li bf wt is c vs' B' W'/\mr S (λ_=>True) B ws (S.bh i l) ((S.ld q i l).take r) B' W'/\LA D Hr b (S.bh i l)/\Hr L=some (.lst (iw (S.ld q i l)))/\ae H Hr:=⟨_,λ_ _ _=>jt⟩
  refine⟨L,rfl,⟨_,aj.of eD3⟩,lU (K:=K) (a:=L) (xs:=iw (S.ld q i l)) J ((hJ _ _ _).mpr ⟨vs,B,ws,_,_,rfl,Kb3,mr.start WI,eb3,eD3,(SH1.trans s2').trans sr⟩) (λ_ _ _ _ h=>by obtain⟨_,_,_,_,_,_,_,_,_,e,_⟩:=(hJ _ _ _).mp h;exact aj.of e) ?_ ?_⟩
  ·intro r y σ Hr hy hh;obtain⟨vs',B',W',v7,v8,rfl,Kr,F,ebr,Eu,SHr⟩:=(hJ _ _ _).mp hh;obtain⟨u,hu,rfl⟩:=kL hy;have hum:u∈S.ld q i l:=br hu;have hub:u<B'.length:=by
    have:=S.ib q i l hi u hum;have:=F.len;omega
   obtain⟨ev,hev,hEv⟩:=Kr.get hub;have FS:=F.step WI hi hl (λ_ _=>trivial) hum;rw[show(S.ld q i l).take r++[u]=(S.ld q i l).take (r+1) by rw[iO,hu];rfl]at FS;refine⟨_,rfl,_,rfl,bf,_,_,_,rfl,rfl,aj.of Kr.jh,aY hev,_,rfl,ev,b,gt B' u,S.bh i l,rfl,hEv,ebr,λl' e'=>by rw[bln];exact F.wf u l' e',by omega,λz H5 s5 hz ez=>?_⟩;have K5:=Kr.same s5;have nz:z≠bf/\z≠wt:=by
    rcases hz with e |e
    ·rw[e];exact nb
    ·exact⟨(aH Kr.jh e).symm,(aH Kr.e6 e).symm⟩
   have uX:dJ D H5 (.ref z) (some (iJ (gt B' u) (S.bh i l))):=⟨z,rfl,ez⟩;have Pd:dJ D H5 ev (gt B' u):=hEv.same s5;refine⟨_,rfl,_,rfl,_,rfl,bf,_,_,_,rfl,rfl,aj.of K5.jh,aY hev,_,_,uX.dp,Pd.dp,O7 _,O7 _,_,rfl,?_⟩;rw[uX.eqv Pd];unfold yO at FS;by_cases he:some (iJ (gt B' u) (S.bh i l))=gt B' u
   ·rw[ah he]at FS;rw[bj he];refine az ?_;exact(hJ _ _ _).mpr ⟨vs',B',W',_,_,rfl,K5,FS,ebr.same s5,s5 _ _ Eu,SHr.trans s5⟩
   ·rw[af he]at FS;rw[aW he];refine aD ?_;have wl:W'.length<=40000:=by
     have:=F.uQ;rw[a8,cE]at m4;omega
    refine⟨_,rfl,_,rfl,_,rfl,bf,_,_,u,rfl,rfl,K5.jh,?_,?_⟩
    ·unfold iu;have:=K5.len;rw[ah (by omega),ah (by omega)];simp
    have K6:=K5.setB (w:=u) ez nz.1 nz.2;refine⟨_,rfl,.inl ⟨rfl,_,aj.of K6.e6⟩,_,rfl,wt,_,_,rfl,rfl,K6.e6,(by rw[bJ,aZ];omega),?_⟩;rw[<-qh];refine(hJ _ _ _).mpr ⟨_,_,_,_,_,rfl,K6.O9,FS,?_,?_,((SHr.trans s5).upd nQ).upd si⟩
    ·refine((ebr.same s5).mono (NL.rQ K5.jh) λvs e=>?_).mono (NL.rQ K6.e6) λvs e=>?_
     ·rw[ay nb.1];exact e
     ·rw[ay nb.2];exact e
    ·rw[ay nD.2,ay nD.1];exact s5 _ _ Eu
  ·intro σ Hr hh;obtain⟨vs',B',W',v7,v8,rfl,Kr,F,ebr,Eu,SHr⟩:=(hJ _ _ _).mp hh;rw[bJ,kh]at F;have m5:=F.uQ;rw[a8,cE]at m4;refine⟨2*hts n B'+W'.length,by rw[a8,cE];omega,(hZ _ _ _).mpr ⟨vs',B',W',_,_,_,_,_,rfl,rfl,Kr,F.done WI hi hl (λj hj=>hj),by omega,SHr⟩⟩
inductive Pe(t:Ad)(vs:ε)(H:Hp)(Q:VK)(e0:XK):Prop
 |mk (a kp:Addr) (i:Ins) (pl:V) (l:KL):vs=[.ref a,.ref kp]->dF t H a i pl->H kp=some (.lst (fi l))->((∀v∈usesOf i,v<l.length))->((∀d,givesOf i=some d->d<l.length))->AllP aN l->(∀b H',ae H H'->(b=kp\/H b=none)->H' b=some (.lst (fi (Sz43.behind i l)))->Q (.ref b) H')->Pe t vs H Q e0
inductive Pf(t:Ad)(vs:ε)(H:Hp)(Q:VK)(e0:XK):Prop
 |mk (p:Nat) (a kp:Addr) (i:Ins) (l:KL):vs=[.int (p:Int),.ref a,.ref kp]->IA t H a i->H kp=some (.lst (fi l))->((∀v∈usesOf i,v<l.length))->(∀D H',ae H H'->H D=none->H' D=some (.lst (iw (rT p i l)))->Q (.ref D) H')->Pf t vs H Q e0
def qj(K:ax):Kd K Int where
 at_:=λ_ v z=>v=.int z/\aN z
 nl:=λh _=>h
 dat:=λz=>.int z
 dp:=λ{H v a} h=>by rw[h.1];exact .int a
 ok:=aN
 zb:=λh=>h.2
 eqv:=λ{a b} _ _=>by show(a==b)=decide (a=b);rw[gj];simp
 En:=λ_=>rfl
 Eo:=λ_=>rfl
 lay:=λ_=>rfl
 dep:=λz=>FT (show PyData.depth (.int z)<9 by unfold PyData.depth;omega)
theorem vh{K:ax}{H:Hp}{p:Addr}{l:KL}:LA (qj K) H p l ↔ H p=some (.lst (fi l))/\AllP aN l:=by
 have fw:∀{l:KL}{vs:ε},Paired (λo v=>OA (qj K) H v o) l vs->vs=fi l/\AllP aN l:=by
  intro l vs h
  induction h with
  |nil=>exact⟨rfl,λz h=>absurd h (by simp)⟩
  | @cons o v l vs r _ ih=>
   obtain⟨h1,h2⟩:=ih;cases o with
   |none=>
    have r:v=.aw:=r;refine⟨by rw[r,h1];rfl,λz hz=>?_⟩;rcases aX.mp hz with e |e
    ·cases e
    ·exact h2 z e
   |some x=>
    have r:v=.int x/\aN x:=r;refine⟨by rw[r.1,h1];rfl,λz hz=>?_⟩;rcases aX.mp hz with e |e
    ·cases e;exact r.2
    ·exact h2 z e
 have bw:∀l:KL,AllP aN l->Paired (λo v=>OA (qj K) H v o) l (fi l):=by
  intro l
  induction l with
  |nil=>exact λ_=>.nil
  |cons o l ih=>
   intro h;refine .cons ?_ (ih λz hz=>h z (bM _ hz));cases o with
   |none=>rfl
   |some x=>exact⟨rfl,h x (by simp)⟩
 constructor
 ·rintro⟨vs,h1,h2⟩
  obtain⟨e,h3⟩:=fw h2;rw[e]at h1;exact⟨h1,h3⟩
 ·rintro⟨h1,h2⟩
  exact⟨_,h1,bw l h2⟩
structure PO(p:Sz43.Program):Prop where
 good:GoodC aN p.vars.length p.code
 dk:p.code.length<=256
 dH:p.vars.length<=64
inductive Pg(t:Ad)(K:ax)(vs:ε)(H:Hp)(Q:VK)(e0:XK):Prop
 |mk (x:Addr) (p:Sz43.Program):vs=[.ref x]->eV t H x p->PO p->(∀bf ws B H',H' bf=some (.lst ws)->Paired (λv e=>dJ (qj K) H' v e) ws B->B.length=p.code.length+1->(∀j,gt B j=Sz43.knownAt (Sz43.known p.vars.length p.code) j)->(∀j l,gt B j=some l->l.length=p.vars.length)->ae H H'->Q (.ref bf) H')->Pg t K vs H Q e0
theorem vj:∀k x y,aN x->aN y->aN (reckon k x y):=λk x y hx hy=>Mu hx hy
theorem Zf(T:Txt K mg t):aE P w K mg base aM 5 t.xx t.JQ ["instruction","known"] (Pe t):=by
 refine T.xX.ko ["instruction","known","behind"] λH Q hr h nd=>?_
 obtain⟨a,kp,i,pl,l,rfl,hI,hk,hus,hgv,hP,k⟩:=h;refine⟨_,ak (aP (cG (ig (aA (pv 0)))) (aq (aC (pv 1))) aR) (ak (aS 2 nd (lW Hl rfl T.yh rfl (aa (pv 1) ag))) (ak (oz (pC (OT T) hr T.Cy T.xW (aa (pv 0) (aa (pv 1) ag))) (oy (pv 2) (aA (pv 0)) qu)) (aq (aC (pv 2))))),?_⟩
 obtain⟨dx,u,op,ha,hu,hop⟩:=id hI;have cl:=T.cI;rw[zw]at k;refine⟨_,rfl,a,_,dx,_,_,rfl,ha,cl,T.cA,cO,_,rfl,?_⟩;cases hg:givesOf i with
 |none=>
  rw[hg]at k;have eg:df i=.aw:=by unfold df;rw[hg]
  rw[eg];exact aD ⟨_,rfl,k kp H (ae.refl H) (.inl rfl) hk⟩
 |some d=>
  rw[hg]at k;have eg:df i=.int (d:Int):=by unfold df;rw[hg]
  rw[eg];refine az ⟨_,rfl,kp,_,rfl,.inl (aj.of hk),λb hb=>?_⟩;have s1:=ae.new (o:=.lst (fi l)) hb;have j7:dF t (upd H b (.lst (fi l))) a i pl:=hI.mono (λ_ _ e=>s1 _ _ e) λ_ _ _ e=>s1 _ _ e
  refine⟨_,rfl,_,rfl,a,kp,i,pl,l,rfl,j7,s1 _ _ hk,by rw[hg];rfl,hus,hP,λH2 s2=>?_⟩;refine⟨_,rfl,_,rfl,a,_,dx,_,_,rfl,s2 _ _ (s1 _ _ ha),cl,T.cA,cO,b,_,(d:Int),d,rfl,eg,s2 _ _ au,?_,?_⟩
  ·have:=hgv d hg;unfold iu;rw[Y_,ah (by omega),ah (by omega)];simp
  ·refine⟨_,rfl,k b _ ?_ (.inr hb) ?_⟩
   ·exact λc o e=>by rw[ay (aH e hb)];exact s2 _ _ (s1 _ _ e)
   ·rw[au];show some (HO.lst ((fi l).set d (da (jd i l))))=some (HO.lst (fi (l.set d (jd i l))));unfold fi;rw[List.map_set]
theorem Zg(T:Txt K mg t):aE P w K mg base aM 2 t.xy t.JR ["place","instruction","known"] (Pf t):=by
 refine T.xY.ko ["place","instruction","known"] λH Q hr h nd=>?_
 obtain⟨p,a,kp,i,l,rfl,hI,hk,hus,k⟩:=h;refine⟨_,ak (aP (PW.pt (lR (aQ qU (aA (pv 1)) bq) (lQ (cG (ig (aU bc (pv 2) (aU gR (aA (pv 1)) aF))))))) (aq (aC (pC (y_ T) hr T.ub T.rB (aa (pv 0) (aa (pv 1) ag))))) aR) (aq (aC (gM (aQ bB (aU bc (pv 2) (aU gR (aA (pv 1)) aF)) aF) (bV (aa (bG iq (pv 0) aF) ag)) (bV (aa (aA (pv 1)) ag))))),?_⟩
 obtain⟨dx,u,op,ha,hu,hop⟩:=id hI;have cl:=T.cI;have za:V.int ((p:Int)+1)=V.int ((p+1:Nat):Int):=by rw[Rq];rfl
 refine⟨_,rfl,a,_,dx,_,_,rfl,ha,cl,T.be,bo,rfl,_,rfl,?_⟩;cases i with
 |cond v u'=>
  refine az ?_;have hv:=hus v (by simp[usesOf]);have ew:rT p (.cond v u') l=(match knows l v with |none=>[p+1,u'] |some z=>if z=0 then [p+1]else [u']):=rfl;refine⟨_,rfl,_,rfl,a,_,dx,_,_,rfl,ha,cl,T.dR,eO,_,_,_,_,rfl,rfl,aV.of hu,aY (j:=0) rfl,kp,_,_,_,rfl,rfl,aj.of hk,aY (vc hv),_,rfl,?_⟩;cases hz:knows l v with
  |none=>rw[hz]at ew;rw[ew]at k;exact aD ⟨_,rfl,_,rfl,p,a,_,rfl,hI,k⟩
  |some z=>
   rw[hz]at ew;refine az ⟨_,rfl,_,rfl,a,_,dx,_,_,rfl,ha,cl,T.dR,eO,_,_,_,_,rfl,rfl,aV.of hu,aY (j:=0) rfl,kp,_,_,_,rfl,rfl,aj.of hk,aY (vc hv),?_⟩;rw[hz];refine⟨rfl,_,rfl,?_⟩;by_cases h0:z=0
   ·have ew:rT p (.cond v u') l=[p+1]:=by rw[ew];exact ah h0
    rw[ew]at k;have e:decide (da (some z)=V.int 0)=true:=by rw[h0];rfl
    rw[e];refine aD ⟨_,rfl,_,_,rfl,rfl,z1,λD hD=>?_⟩;rw[za];exact k D _ (ae.new hD) hD au
   ·have ew:rT p (.cond v u') l=[u']:=by rw[ew];exact af h0
    rw[ew]at k;have e:decide (da (some z)=V.int 0)=false:=aW λq=>h0 (by injection q)
    rw[e];exact az ⟨_,rfl,a,_,dx,_,_,rfl,ha,cl,T.eJ,fX,z1,λD hD=>k D _ (ae.new hD) hD au⟩
 |_=>refine aD (aD ?_);exact⟨_,rfl,_,rfl,p,a,_,rfl,hI,k⟩
theorem Zh(T:Txt K mg t):aE P w K mg base aM 7 t.Bn t.JS ["program"] (Pg t K):=by
 refine T.Cz.ko ["program","first","name"] λH Q hr h nd=>?_
 obtain⟨x,p,rfl,hX,O,k⟩:=h;have G:=O.good;have gv:∀i∈p.code,(∀v∈usesOf i,v<p.vars.length)/\∀d,givesOf i=some d->d<p.vars.length:=λi hi=>⟨(G i hi).us,(G i hi).gv⟩
 have oB:=Pc (P:=P) (w:=w) (base:=base) (qj K) (DQ p.vars.length G.bounds) T T.xX.kp T.xY.kp O.dk O.dH
  (λvs H Q h=>by obtain⟨a,kp,i,l,rfl,hI,hk,hi,hl,k⟩:=h;obtain⟨h1,h2⟩:=vh.mp hk;refine⟨_,_,_,_,Zf T,aJ 5,cb T.xX,a,kp,i,_,l,rfl,hI,h1,λv hv=>by rw[hl];exact(gv i hi).1 v hv,λd hd=>by rw[hl];exact(gv i hi).2 d hd,h2,λb H' s hb e=>k b H' s hb (vh.mpr ⟨e,N6 vj (G i hi) h2⟩)⟩)
  (λvs H Q h=>by obtain⟨q,a,kp,i,l,rfl,hI,hk,hi,hl,k⟩:=h;obtain⟨h1,h2⟩:=vh.mp hk;exact⟨_,_,_,_,Zg T,by decide,ny T.xY,q,a,kp,i,l,rfl,hI,h1,λv hv=>by rw[hl];exact(gv i hi).1 v hv,k⟩)
 refine⟨_,ak (mZ (i:=1) (own:=[("name",2)]) rfl nd rfl rfl rfl (gO (aA (pv 0))) ?b1 (λs H C cl fp=>bD 2 nd) (λs H C cl fp=>eE) (λs H C cl fp=>aF)) (aq (aC (pC oB hr T.B7 T.xP (aa (aA (pv 0)) (aa (pv 1) (aa (iU (v:=.ref t.xx) rfl T.K3 rfl) (aa (iU (v:=.ref t.xy) rfl T.K4 rfl) ag))))))),?_⟩
 ·show cX ["program","first","name"] (bp I_) _ _;exact bk
 ·obtain⟨dx,li,ns,hx,hli,qs,hns,hqs⟩:=hX;have ln:qs.length=p.vars.length:=bt hqs;have dH:=O.dH;refine⟨_,rfl,x,_,dx,_,_,rfl,hx,T.eK,T.kJ,nH _ _,ns,rfl,⟨_,aj.of hns⟩,λF hF=>?_⟩;refine l8 (xs:=qs.map V.ref) (λ_=>.int 0) hF (by rw[aI,aZ];omega) (λH2 s2=>rl (aj.of (s2 _ _ hns))) (λy=>rfl) (λi y H2 _ _ Q' k'=>k' H2 (ae.refl _)) ?_;intro H1 s1 vk;rw[vf,aI,ln]at vk;have lF:LA (qj K) H1 F (DQ p.vars.length G.bounds).fst:=by
   refine vh.mpr ⟨?_,λz hz=>?_⟩
   ·rw[vk];show _=some (HO.lst (List.map da (List.replicate _ (some 0))));rw[RF];rfl
   ·have:=RD hz;cases this;unfold aN;omega
  refine⟨_,rfl,x,_,dx,_,_,rfl,s1 _ _ hx,T.eK,T.jU,mn _ _,_,rfl,li,F,rfl,hli.same s1,lF,λbf ws B H' hb hE hW s'=>?_⟩;exact k bf ws B H' hb hE hW.len (λj=>hW.known G.bounds j) (λj l e=>hW.wf j l e) (s1.trans s')
def zf(H:Hp)(op:V):Sz43.Holds->Prop
 | .same _=>op=.aw
 | .made k _ _=>k<12/\∃q,op=.ref q/\H q=some (.tup (iw (Sz43.ops.getD k [])))
def Ph(H:Hp)(v:V)(h:Sz43.Holds):Prop:=∃(p u:Addr)(op:V),v=.ref p/\H p=some (.tup [op,.ref u])/\H u=some (.tup (iw (gc h)))/\zf H op h
def j8:Sz43.Holds->PyData
 | .same y=>.tuple [.none,.tuple (iD [y])]
 | .made k a b=>.tuple [.tuple (iD (Sz43.ops.getD k [])),.tuple (iD [a,b])]
def Ew:Sz43.Holds->Prop
 | .same _=>True
 | .made k _ _=>k<12
theorem zf.nl{H H':Hp}{op:V}{h:Sz43.Holds}(x:zf H op h)(k:NL H H'):zf H' op h:=by
 cases h with
 |same y=>exact x
 |made n a b=>obtain⟨h1,q,h2,h3⟩:=x;exact⟨h1,q,h2,k _ _ h3 (by intro z q;cases q)⟩
theorem Ex(w:ψ):PyData.depth (.tuple (iD w))<=2:=by have:=t6 w;show PyData.depthAll _+1<=2;omega
theorem zg(a b c d:PyData):PyData.eqv (.tuple [a,b]) (.tuple [c,d])=(PyData.eqv a c&&PyData.eqv b d):=by show(PyData.eqv a c&&(PyData.eqv b d&&true))=_;rw[FX]
theorem Zi:∀k,k<12->∀k',k'<12->Sz43.ops.getD k []=Sz43.ops.getD k' []->k=k':=by decide
def bX(K:ax):Kd K Sz43.Holds where
 at_:=Ph
 nl:=λ{H H' v a} h k=>by obtain⟨p,u,op,h1,h2,h3,h4⟩:=h;exact⟨p,u,op,h1,k _ _ h2 (by intro z q;cases q),k _ _ h3 (by intro z q;cases q),h4.nl k⟩
 dat:=j8
 dp:=λ{H v a} h=>by
  obtain⟨p,u,op,rfl,h2,h3,h4⟩:=h;cases a with
  |same y=>have h4:op=.aw:=h4;subst h4;exact .tup (aV.of h2) (.cons .aw (.cons (lZ h3) .nil))
  |made k x y=>obtain⟨_,q,rfl,hq⟩:=h4;exact .tup (aV.of h2) (.cons (lZ hq) (.cons (lZ h3) .nil))
 ok:=Ew
 zb:=λ{H v a} h=>by
  obtain⟨p,u,op,h1,h2,h3,h4⟩:=h;cases a with
  |same y=>trivial
  |made k x y=>exact h4.1
 eqv:=λ{a b} ha hb=>by
  cases a with
  |same y=>
   cases b with
   |same z=>show PyData.eqv (.tuple [.none,.tuple (iD [y])]) (.tuple [.none,.tuple (iD [z])])=_;rw[zg,rh,gj];show(true&&decide ([y]=[z]))=true ↔ _;simp
   |made k u v=>show PyData.eqv (.tuple [.none,_]) (.tuple [.tuple _,_])=_;rw[zg];rfl
  |made k u v=>
   cases b with
   |same z=>show PyData.eqv (.tuple [.tuple _,_]) (.tuple [.none,_])=_;rw[zg];rfl
   |made k' u' v'=>show PyData.eqv (.tuple [.tuple (iD _),.tuple (iD [u,v])]) (.tuple [.tuple (iD _),.tuple (iD [u',v'])])=_;rw[zg,rh,rh,gj];simp only[fM,qL,Sz43.Holds.made.injEq,gK,and_true];exact and_congr_left λ_=>⟨Zi k ha k' hb,λe=>by rw[e]⟩
 En:=λa=>by cases a<;>rfl
 Eo:=λa=>by cases a<;>rfl
 lay:=λa=>by
  cases a with
  |same y=>rfl
  |made k u v=>show((PyData.tuple (iD _)).canLay0&&((PyData.tuple (iD [u,v])).canLay0&&true))=true;have e:∀w,(PyData.tuple (iD w)).canLay0=true:=sA;rw[e,e];rfl
 dep:=λa=>by
  have d2:∀x y:PyData,x.depth<=2->y.depth<=2->PyData.depth (.tuple [x,y])<=8:=λx y hx hy=>by
   show max x.depth (max y.depth (PyData.depthAll []))+1<=8;have:PyData.depthAll []<=1:=by decide
   omega
  cases a with
  |same y=>exact d2 _ _ (by decide) (Ex _)
  |made k u v=>exact d2 _ _ (Ex _) (Ex _)
inductive Pj(t:Ad)(K:ax)(vs:ε)(H:Hp)(Q:VK)(e0:XK):Prop
 |mk (a:Addr) (i:Ins):vs=[.ref a]->IA t H a i->(∀v H',ae H H'->OA (bX K) H' v (mw i)->Q v H')->Pj t K vs H Q e0
inductive Pk(t:Ad)(K:ax)(vs:ε)(H:Hp)(Q:VK)(e0:XK):Prop
 |mk (a kp:Addr) (i:Ins) (l:HL):vs=[.ref a,.ref kp]->IA t H a i->LA (bX K) H kp l->((∀d,givesOf i=some d->d<l.length))->l.length<=100->(∀b H',ae H H'->(b=kp\/H b=none)->LA (bX K) H' b (gf i l)->Q (.ref b) H')->Pk t K vs H Q e0
inductive Pl(t:Ad)(vs:ε)(H:Hp)(Q:VK)(e0:XK):Prop
 |mk (p:Nat) (a:Addr) (v:V) (i:Ins):vs=[.int (p:Int),.ref a,v]->IA t H a i->(∀D H',ae H H'->H D=none->H' D=some (.lst (iw (fh p i)))->Q (.ref D) H')->Pl t vs H Q e0
inductive Pm(t:Ad)(K:ax)(vs:ε)(H:Hp)(Q:VK)(e0:XK):Prop
 |mk (x:Addr) (p:Sz43.Program):vs=[.ref x]->eV t H x p->PO p->(∀bf ws B H',H' bf=some (.lst ws)->Paired (λv e=>dJ (bX K) H' v e) ws B->B.length=p.code.length+1->(∀j,(F.gt (Sz43.facts p.code) j=none ↔ gt B j=none)/\∀l,gt B j=some l->∀f,f∈Sz43.factsAt (Sz43.facts p.code) j ↔ f∈toF l)->(∀j l,gt B j=some l->l.length=p.vars.length)->ae H H'->Q (.ref bf) H')->Pm t K vs H Q e0
inductive Pn(K:ax)(vs:ε)(H:Hp)(Q:VK)(e0:XK):Prop
 |mk (v:Nat) (kp:Addr) (l:HL):vs=[.int (v:Int),.ref kp]->LA (bX K) H kp l->v<l.length->Q (.int (du l v:Int)) H->Pn K vs H Q e0
theorem Ey(d:Nat)(us:ψ):inV (.int (d:Int)) (iw us)=decide (d∈us):=by
 unfold inV;rw[gj,mO,qL];constructor
 ·rintro⟨y,hy,e⟩
  obtain⟨c,hc,rfl⟩:=d_.mp hy;have e:((c:Int)==(d:Int))=true:=e;have:c=d:=by have:=ke.mp e;omega
  rw[<-this];exact hc
 ·intro h;refine⟨.int (d:Int),d_.mpr ⟨d,h,rfl⟩,?_⟩;show((d:Int)==(d:Int))=true;simp
theorem Ez(us:ψ):(iw us).all i5=true:=by rw[zL];intro x hx;obtain⟨c,_,rfl⟩:=d_.mp hx;rfl
theorem Es{α β:Type}{F:α->β->Prop}{x:α}{y:β}(hxy:F x y){l₁:List α}{l₂:List β}{w:Nat}(h:Paired F l₁ l₂):Paired F (l₁.set w x) (l₂.set w y):=by
 induction h generalizing w with
 |nil=>exact .nil
 |cons r t ih=>
  cases w with
  |zero=>exact .cons hxy t
  |succ w=>exact .cons r ih
theorem Zj(T:Txt K mg t):aE P w K mg base aM 1 t.A9 t.Jm ["instruction"] (Pj t K):=by
 refine T.B8.ko ["instruction"] λH Q hr h nd=>?_
 obtain⟨a,i,rfl,hI,k⟩:=h;refine⟨_,ak (aP (PW.pt (lR (aQ Hk (aA (pv 0)) (fE (aa bq (aa bq ag))) rfl) (lQ (aQ Ar (aA (pv 0)) (aA (pv 0)) rfl)))) (aq (aC e_)) aR) (aq (aC (fE (aa (aA (pv 0)) (aa (aA (pv 0)) ag))))),?_⟩
 obtain⟨dx,u,op,ha,hu,hop⟩:=id hI;have cl:=T.cI;refine⟨_,rfl,a,_,dx,_,_,rfl,ha,cl,T.be,bo,z2,λtp htp=>?_⟩;have s1:=ae.new (o:=.tup [.str "copy",.str "operator"]) htp;refine⟨tp,_,rfl,.inr (aV.of au),rfl,rfl,_,rfl,?_⟩;cases i with
 |copy d v=>
  refine az ⟨_,rfl,a,_,dx,_,_,rfl,s1 _ _ ha,cl,T.cA,cO,_,rfl,a,_,dx,_,_,rfl,s1 _ _ ha,cl,T.dR,eO,u,_,rfl,.inr (aV.of (s1 _ _ hu)),rfl,Ez _,_,rfl,?_⟩;show if (inV (.int (d:Int)) (iw [v]))=true then _ else _
  rw[Ey];have et:mw (.copy d v)=if d=v then none else some (.same v):=rfl
  by_cases e:d=v
  ·rw[ah e]at et;rw[bj (by simp[e])];refine aD ?_;refine k _ _ s1 ?_;rw[et];rfl
  ·rw[af e]at et;rw[aW (by simpa using e)];refine az ⟨_,rfl,a,_,dx,_,_,rfl,s1 _ _ ha,cl,T.me,pR,_,rfl,a,_,dx,_,_,rfl,s1 _ _ ha,cl,T.dR,eO,z2,λq hq=>?_⟩;refine k _ _ (s1.trans (ae.new hq)) ?_;rw[et];exact⟨q,u,op,rfl,au,ae.new hq _ _ (s1 _ _ hu),hop⟩
 |op n d v v'=>
  refine az ⟨_,rfl,a,_,dx,_,_,rfl,s1 _ _ ha,cl,T.cA,cO,_,rfl,a,_,dx,_,_,rfl,s1 _ _ ha,cl,T.dR,eO,u,_,rfl,.inr (aV.of (s1 _ _ hu)),rfl,Ez _,_,rfl,?_⟩;show if (inV (.int (d:Int)) (iw [v,v']))=true then _ else _
  rw[Ey];have et:mw (.op n d v v')=if d=v\/d=v' then none else some (.made n v v'):=rfl
  by_cases e:d=v\/d=v'
  ·rw[ah e]at et;rw[bj (by simpa using e)];refine aD ?_;refine k _ _ s1 ?_;rw[et];rfl
  ·rw[af e]at et;rw[aW (by simpa using e)];refine az ⟨_,rfl,a,_,dx,_,_,rfl,s1 _ _ ha,cl,T.me,pR,_,rfl,a,_,dx,_,_,rfl,s1 _ _ ha,cl,T.dR,eO,z2,λq hq=>?_⟩;refine k _ _ (s1.trans (ae.new hq)) ?_;rw[et];obtain⟨h12,q',e1,e2⟩:=hop;exact⟨q,u,op,rfl,au,ae.new hq _ _ (s1 _ _ hu),h12,q',e1,ae.new hq _ _ (s1 _ _ e2)⟩
 |_=>refine aD (aD ?_);exact k _ _ s1 rfl
theorem Zk(T:Txt K mg t):aE P w K mg base aM 2 t.xw t.Jp ["place","instruction","held"] (Pl t):=by
 refine T.xS.ko ["place","instruction","held"] λH Q hr h nd=>?_
 obtain⟨p,a,v,i,rfl,hI,k⟩:=h;refine⟨_,aq (aC (pC (y_ T) hr T.ub T.rB (aa (pv 0) (aa (pv 1) ag)))),?_⟩;exact⟨_,rfl,_,rfl,p,a,i,rfl,hI,k⟩
theorem Zl(T:Txt K mg t):aE P w K mg base aM 2 t.xu t.Jo ["instruction","held"] (Pk t K):=by
 refine T.xR.ko ["instruction","held","given","behind","thing"] λH Q hr h nd=>?_
 obtain⟨a,kp,i,l,rfl,hI,hk,hgv,Ze,k⟩:=h;refine⟨_,ak (aS 2 nd (aA (pv 0))) (ak (aP (PW.pt (lR (cG (ig (pv 2))) (lQ (jv (pC (O1 T) hr T.B9 T.xQ (aa (pv 0) ag)))))) (aq (aC (pv 1))) aR) (ak (mZ (i:=3) (own:=[("thing",4)]) rfl nd rfl rfl rfl (gO (pv 1)) ?b1 (λs H C cl fp=>bD 4 nd) (λs H C cl fp=>eE) (λs H C cl fp=>gM (PW.pt (jw (cG (lP (pv 4))) (jP (aQ (r:=tE K false) Ar (pv 2) (aU (r:=Aq K) gR (pv 4) aF) rfl)))) e_ (pv 4))) (ak (oz (pC (Zj T) hr T.KN T.B8 (aa (pv 0) ag)) (oy (pv 3) (pv 2) qu)) (aq (aC (pv 3)))))),?_⟩
 ·show cX ["instruction","held","given","behind","thing"] (bp IX) _ _;exact bk
 ·obtain⟨dx,u,op,ha,hu,hop⟩:=id hI;have cl:=T.cI;refine⟨_,rfl,a,_,dx,_,_,rfl,ha,cl,T.cA,cO,?_⟩;refine⟨_,rfl,_,rfl,?_⟩;cases hg:givesOf i with
  |none=>
   have eg:df i=.aw:=by unfold df;rw[hg]
   have eh:gf i l=l:=by unfold gf;rw[hg]
   rw[eh]at k;rw[eg];refine aD (aD ?_);exact⟨_,rfl,k kp H (ae.refl H) (.inl rfl) hk⟩
  |some d=>
   have eg:df i=.int (d:Int):=by unfold df;rw[hg]
   rw[eg];refine az ⟨_,rfl,a,i,rfl,hI,_,rfl,?_⟩;by_cases hs:F.gb i=true
   ·have eh:gf i l=l:=by unfold gf;rw[hg];exact ah hs
    rw[eh]at k;rw[hs];exact aD ⟨_,rfl,k kp H (ae.refl H) (.inl rfl) hk⟩
   have eh:gf i l=(l.map (nM d)).set d (mw i):=by unfold gf;rw[hg];exact af hs
   rw[eh]at k;rw[oh]at hs;rw[hs];refine az ?_;obtain⟨xs,hxs,hx⟩:=id hk;have lx:l.length=xs.length:=bt hx;refine⟨_,rfl,kp,rfl,⟨_,aj.of hxs⟩,λD' hD=>?_⟩;refine uE (xs:=xs) (λ_=>true) (λi y H=>∀o,(l.map (nM d))[i]? =some o->OA (bX K) H y o) hD (by rw[aZ];omega) (λH2 s2=>rl (aj.of (s2 _ _ hxs))) (λi y H H' r k o ho=>(r o ho).nl k) (λx=>rfl) (λi x H2 hi s2 A B hA hB=>?_) λys H2 s2 hL pr=>?_
   ·have il:i<l.length:=by have:=(bN.mp hi).1;omega
    have h1:=(cp hx (aL il) hi).nl s2.nl;have em:(l.map (nM d))[i]? =some (nM d l[i]):=by rw[bC,aL il];rfl
    refine aD (B:=B H2) ?_;refine⟨_,rfl,_,rfl,?_⟩;cases eo:l[i]with
    |none=>rw[eo]at h1 em;have h1:x=.aw:=h1;rw[h1];refine az (az ?_);refine⟨_,rfl,hA rfl _ _ (ae.refl _) λo ho=>?_⟩;rw[em]at ho;cases ho;rfl
    |some hh=>
     rw[eo]at h1 em;obtain⟨q,uu,oo,rfl,h2,h3,h4⟩:=id h1;refine aD ⟨_,rfl,_,rfl,q,_,_,_,rfl,rfl,aV.of h2,aY (j:=1) rfl,uu,_,rfl,.inr (aV.of h3),rfl,Ez _,_,rfl,?_⟩;show if (inV (.int (d:Int)) (iw (gc hh)))=true then _ else _
     rw[Ey];have ec:nM d (some hh)=if d∈gc hh then none else some hh:=rfl
     by_cases e:d∈gc hh
     ·rw[bj e];refine aD ?_;refine hA rfl _ _ (ae.refl _) λo ho=>?_
      rw[em,ec,ah e]at ho;cases ho;rfl
     ·rw[aW e];refine az ⟨_,rfl,hA rfl _ _ (ae.refl _) λo ho=>?_⟩;rw[em,ec,af e]at ho;cases ho;exact h1
   ·rw[kU,<-lx,<-aI (as:=l) (f:=nM d)]at pr;have pr:=kX pr;have ly:l.length=ys.length:=by have:=bt pr;rw[aI]at this;exact this
    have hd:=hgv d hg;refine⟨_,rfl,a,i,rfl,hI.nl s2.nl,λv H3 s3 hv=>?_⟩;refine⟨_,rfl,_,rfl,D',_,(d:Int),d,rfl,rfl,s3 _ _ hL,?_,?_⟩
    ·unfold iu;rw[ah (by omega),ah (by omega)];simp
    ·refine⟨_,rfl,k D' _ ((s2.trans s3).upd hD) (.inr hD) ⟨_,au,?_⟩⟩;have nl3:NL H3 (upd H3 D' (.lst (ys.set d v))):=NL.rQ (s3 _ _ hL);have pr':Paired (λo y=>OA (bX K) (upd H3 D' (.lst (ys.set d v))) y o) (l.map (nM d)) ys:=Paired.cR pr λo y r=>OA.nl (OA.nl r s3.nl) nl3
     exact Es (F:=λo y=>OA (bX K) (upd H3 D' (.lst (ys.set d v))) y o) (OA.nl hv nl3) pr'
theorem Zn(T:Txt K mg t):aE P w K mg base aM 7 t.Ba t.Jq ["program"] (Pm t K):=by
 refine T.B_.ko ["program","first","name"] λH Q hr h nd=>?_
 obtain⟨x,p,rfl,hX,O,k⟩:=h;have G:=O.good;have dH:=O.dH;have oB:=Pc (P:=P) (w:=w) (base:=base) (bX K) (uW p.vars.length G.kZ) T T.xR.kp T.xS.kp O.dk O.dH
  (λvs H Q h=>by obtain⟨a,kp,i,l,rfl,hI,hk,hi,hl,k⟩:=h;exact⟨_,_,_,_,Zl T,by decide,cb T.xR,a,kp,i,l,rfl,hI,hk,λd hd=>by rw[hl];exact(G i hi).gv d hd,by omega,k⟩)
  (λvs H Q h=>by obtain⟨q,a,kp,i,l,rfl,hI,hk,hi,hl,k⟩:=h;exact⟨_,_,_,_,Zk T,by decide,ny T.xS,q,a,_,i,rfl,hI,k⟩)
 refine⟨_,ak (mZ (i:=1) (own:=[("name",2)]) rfl nd rfl rfl rfl (gO (aA (pv 0))) ?b1 (λs H C cl fp=>bD 2 nd) (λs H C cl fp=>eE) (λs H C cl fp=>e_)) (aq (aC (pC oB hr T.B7 T.xP (aa (aA (pv 0)) (aa (pv 1) (aa (iU (v:=.ref t.xu) rfl T.KO rfl) (aa (iU (v:=.ref t.xw) rfl T.KP rfl) ag))))))),?_⟩
 ·show cX ["program","first","name"] (bp IY) _ _;exact bk
 ·obtain⟨dx,li,ns,hx,hli,qs,hns,hqs⟩:=hX;have ln:qs.length=p.vars.length:=bt hqs;refine⟨_,rfl,x,_,dx,_,_,rfl,hx,T.eK,T.kJ,nH _ _,ns,rfl,⟨_,aj.of hns⟩,λF hF=>?_⟩;refine l8 (xs:=qs.map V.ref) (λ_=>.aw) hF (by rw[aI,aZ];omega) (λH2 s2=>rl (aj.of (s2 _ _ hns))) (λy=>rfl) (λi y H2 _ _ Q' k'=>k' H2 (ae.refl _)) ?_;intro H1 s1 vk;rw[vf,aI,ln]at vk;have rp:∀(G:Option Sz43.Holds->V->Prop),G none .aw->∀n,Paired G (List.replicate n none) (List.replicate n V.aw):=by
   intro G hG n
   induction n with
   |zero=>exact .nil
   |succ n ih=>rw[lD,lD];exact .cons hG ih
  have lF:LA (bX K) H1 F (uW p.vars.length G.kZ).fst:=⟨_,vk,rp _ rfl _⟩;refine⟨_,rfl,x,_,dx,_,_,rfl,s1 _ _ hx,T.eK,T.jU,mn _ _,_,rfl,li,F,rfl,hli.same s1,lF,λbf ws B H' hb hE hW s'=>?_⟩;obtain⟨w1,w2,w3⟩:=hW.sol;refine k bf ws B H' hb hE hW.len (λj=>YH G.kZ (λi hi d hd=>(G i hi).gv d hd) hW.len hW.wf w1 (w2 0) w3 j) (λj l e=>hW.wf j l e) (s1.trans s')
theorem Zo(T:Txt K mg t):aE P w K mg base aM 1 t.Bb t.Jr ["variable","held"] (Pn K):=by
 refine T.Ca.ko ["variable","held","thing"] λH Q hr h nd=>?_
 obtain⟨v,kp,l,rfl,⟨xs,hxs,hx⟩,hv,k⟩:=h;refine⟨_,ak (aS 2 nd (aU bc (pv 1) (pv 0))) (ak (aP (PW.pt (lR (cG (ig (pv 2))) (lQ (cG (lP (aU gR (pv 2) aF)))))) (aq (aC (pv 0))) aR) (aq (aC (aU gR (aU gR (pv 2) aF) aF)))),?_⟩
 have lx:l.length=xs.length:=bt hx;have hv':xs[v]? =some (xs[v]'(by omega)):=aL _;have h1:=cp hx (aL hv) hv';refine⟨_,rfl,_,rfl,kp,_,_,_,rfl,rfl,aj.of hxs,aY hv',?_⟩;generalize xs[v]'(by omega)=y at h1;have er:du l v=match l[v]with |some (.same z)=>z |_=>v:=by unfold du;rw[aL hv];rfl
 refine⟨_,rfl,_,rfl,?_⟩;cases eo:l[v]with
 |none=>rw[eo]at h1 er;have h1:y=.aw:=h1;subst h1;refine aD (aD ?_);rw[er]at k;exact⟨_,rfl,k⟩
 |some hh=>
  rw[eo]at h1 er;obtain⟨q,uu,oo,rfl,h2,h3,h4⟩:=h1;refine az ⟨_,rfl,q,_,_,_,rfl,rfl,aV.of h2,aY (j:=0) rfl,_,rfl,?_⟩;cases hh with
  |same z=>have h4:oo=.aw:=h4;subst h4;refine az ?_;rw[er]at k;exact⟨_,rfl,q,_,_,_,rfl,rfl,aV.of h2,aY (j:=1) rfl,uu,_,_,_,rfl,rfl,aV.of h3,aY (j:=0) rfl,k⟩
  |made n b c=>obtain⟨_,q',rfl,_⟩:=h4;refine aD ?_;rw[er]at k;exact⟨_,rfl,k⟩
def dW(t:Ad)(H:Hp)(v:V):Option Ins->Prop
 |none=>v=.aw
 |some i=>∃a,v=.ref a/\IA t H a i
theorem dW.nl{t:Ad}{H H':Hp}{v:V}{o:Option Ins}(h:dW t H v o)(k:NL H H'):dW t H' v o:=by
 cases o with
 |none=>exact h
 |some i=>obtain⟨a,h1,h2⟩:=h;exact⟨a,h1,h2.nl k⟩
def Zp(t:Ad)(H:Hp)(li:Addr)(l:List (Option Ins)):Prop:=∃vs,H li=some (.lst vs)/\Paired (λo v=>dW t H v o) l vs
theorem EA{α:Type}{F:Addr->α->Prop}{l:List α}{ys:ε}(h:Paired (λx y=>∃a,y=V.ref a/\F a x) l ys):∃is:List Addr,ys=is.map V.ref/\Paired F is l:=by
 induction h with
 |nil=>exact⟨[],rfl,.nil⟩
 |cons r _ ih=>obtain⟨a,rfl,ha⟩:=r;obtain⟨is,rfl,hi⟩:=ih;exact⟨a::is,rfl,.cons ha hi⟩
theorem Po{α:Type}{G:α->V->Prop}{l:List (Option α)}{ys:ε}(h:Paired (λ(i:Nat) y=>∀x,l[i]? =some (some x)->G x y) ((List.range l.length).filter λi=>((l[i]?).bind id).isSome) ys):Paired G (l.filterMap id) ys:=by
 have gen:∀(l:List (Option α))(k:Nat)(R:Nat->V->Prop)(q:Nat->Bool)(ys:ε),(∀i x y,l[i]? =some (some x)->R (k+i) y->G x y)->(∀i,i<l.length->q (k+i)=((l[i]?).bind id).isSome)->Paired R (((List.range l.length).map (k+ ·)).filter q) ys->Paired G (l.filterMap id) ys:=by
  intro l
  induction l with
  |nil=>intro k R q ys _ _ h;cases h;exact .nil
  |cons o l ih=>
   intro k R q ys hR hq h;have q0:=hq 0 (by simp);have e:((List.range l.length).map Nat.succ).map (k+ ·)=(List.range l.length).map (k+1+ ·):=by rw[fu];exact wc λi _=>by simp;omega
   rw[bT,FF,bx,e,qK,q0]at h;have next:∀ys,Paired R (((List.range l.length).map (k+1+ ·)).filter q) ys->Paired G (l.filterMap id) ys:=λys h=>ih (k+1) R q ys (λi x y hx r=>hR (i+1) x y (by simpa using hx) (by rw[show k+(i+1)=k+1+i by omega];exact r)) (λi hi=>by rw[show k+1+i=k+(i+1) by omega,hq (i+1) (by simpa using hi)];simp) h
   cases o with
   |none=>exact next ys h
   |some x=>
    rw[ah (show(((some x::l)[0]?).bind id).isSome=true from rfl)]at h;cases h with
    |cons r t=>exact .cons (hR 0 x _ rfl r) (next _ t)
 refine gen l 0 (λ(i:Nat) y=>∀x,l[i]? =some (some x)->G x y) (λi=>((l[i]?).bind id).isSome) ys (λi x y hx g=>g x (by simpa using hx)) (λi _=>by simp) ?_;simpa using h
theorem EB{f g:Nat->Nat}{x:Ins}(h:∀t,tgt x=some t->f t=g t):sent f x=sent g x:=by
 cases x with
 |goto t=>exact c7 Ins.goto (h t rfl)
 |cond a t=>exact c7 (Ins.cond a) (h t rfl)
 |_=>rfl
theorem Zq(l:List (Option Ins)):Sz43.closed l=(l.filterMap id).map (sent (bH l)):=by
 rw[Q6,List.map_filterMap]
 congr 1
inductive Pp(t:Ad)(vs:ε)(H:Hp)(Q:VK)(e0:XK):Prop
 |mk (a mv:Addr) (i:Ins) (ms:ψ):vs=[.ref a,.ref mv]->IA t H a i->H mv=some (.lst (iw ms))->((∀u,tgt i=some u->u<ms.length))->(∀b H',ae H H'->IA t H' b (sent (λu=>ms.getD u 0) i)->Q (.ref b) H')->Pp t vs H Q e0
inductive Pq(t:Ad)(vs:ε)(H:Hp)(Q:VK)(e0:XK):Prop
 |mk (li:Addr) (l:List (Option Ins)):vs=[.ref li]->Zp t H li l->l.length<=256->((∀y,some y∈l->∀u,tgt y=some u->u<=l.length))->(∀D H',ae H H'->g9 t H' D (Sz43.closed l)->Q (.ref D) H')->Pq t vs H Q e0
theorem vm(i:Ins):kT i=match tgt i with |some u=>.int (u:Int) |none=>.aw:=by cases i<;>rfl
theorem Zr(T:Txt K mg t):aE P w K mg base aM 4 t.Bf t.Jv ["instruction","moved"] (Pp t):=by
 refine T.Cd.ko ["instruction","moved"] λH Q hr h nd=>?_
 obtain⟨a,mv,i,ms,rfl,hI,hm,ht,k⟩:=h;refine⟨_,ak (aP (cG (ig (aA (pv 0)))) (aq (aC (pv 0))) aR) (aq (aC (pC (OZ T) hr T.Cb T.xT (aa (pv 0) (aa (aU bc (pv 1) (aA (pv 0))) ag))))),?_⟩
 obtain⟨dx,u,op,ha,hu,hop⟩:=id hI;have cl:=T.cI;refine⟨_,rfl,a,_,dx,_,_,rfl,ha,cl,T.eJ,fX,_,rfl,?_⟩;have ep:=vm i;cases hq:tgt i with
 |none=>
  rw[hq]at ep;rw[ep];refine aD ⟨_,rfl,k a H (ae.refl H) ?_⟩;have e:sent (λu=>ms.getD u 0) i=i:=by cases i<;>first |rfl |cases hq
  rw[e];exact hI
 |some v=>
  rw[hq]at ep;rw[ep];refine az ?_;have hv:=ht v hq;have gm:(iw ms)[v]? =some (.int (ms.getD v 0:Int)):=by unfold iw;rw[bC,aL hv,dy,aL hv];rfl
  refine⟨_,rfl,_,rfl,_,rfl,a,_,dx,_,_,rfl,ha,cl,T.eJ,fX,mv,_,_,_,rfl,ep,aj.of hm,aY gm,a,i,_,rfl,hI,by rw[hq];rfl,λb H' s hb=>k b H' s ?_⟩;rw[EB (g:=λ_=>ms.getD v 0) λu hu=>by rw[hq]at hu;cases hu;rfl];exact hb
theorem vn(T:Txt K mg t):aE P w K mg base aM 5 t.Be t.Ju ["instructions"] (Pq t):=by
 refine T.pF.ko ["instructions","moved","count","instruction"] λH Q hr h nd=>?_
 obtain⟨li,l,rfl,⟨xs,hli,hx⟩,h256,ht,k⟩:=h;refine⟨_,ak (aS 1 nd (bV ag)) (ak (aS 2 nd aF) (ak (gP gn rfl (gO (pv 0)) (bD 3 nd) (ak (eA (gq fv jL jM i6 (pv 1) (aa (pv 2) ag))) (aq (aP (cG (lP (pv 3))) (aq (aS 2 nd (bG iq (pv 2) aF))) aR)))) (ak (eA (gq fv jL jM i6 (pv 1) (aa (pv 2) ag))) (aq (aC (iy (own:=[("instruction",3)]) rfl nd (gO (pv 0)) ?b1 (λs H C cl fp=>bD 3 nd) (λs H C cl fp=>HC (cG (lP (pv 3)))) (λs H C cl fp=>pC (Zr T) hr T.KU T.Cd (aa (pv 3) (aa (pv 1) ag))))))))),?_⟩
 ·show cX ["instructions","moved","count","instruction"] (bp IZ) _ _;exact bk
 ·dsimp only[bI,Cx.bZ];have lx:l.length=xs.length:=bt hx;refine⟨bS _,λmv vo=>?_⟩;have s0:ae H (upd H mv (.lst [])):=ae.new vo;have nlm:li≠mv:=aH hli vo;refine d5 ?_;refine⟨_,rfl,li,rfl,⟨_,aj.of (s0 _ _ hli)⟩,lU (K:=K) (a:=li) (xs:=xs) (λi σ Hh=>∃v3:Option V,σ=[χ li,χ mv,some (.int (bH l i:Int)),v3]/\Hh mv=some (.lst (iw ((List.range i).map (bH l))))/\ae H Hh) ⟨none,rfl,au,s0⟩ (λi σ Hh _ ⟨_,_,_,e⟩=>aj.of (e _ _ hli)) ?_ ?_⟩
  ·rintro i y σ Hh hy ⟨v3,rfl,hm,sm⟩
   have il:i<l.length:=by have:=(bN.mp hy).1;omega
   refine⟨_,rfl,.inl ⟨rfl,_,aj.of hm⟩,_,rfl,mv,_,_,rfl,rfl,hm,(by rw[bJ,aI,gJ,aZ];omega),?_⟩;rw[<-qh];have er:(List.range i).map (bH l)++[bH l i]=(List.range (i+1)).map (bH l):=by rw[sQ,dA];rfl
   rw[er];have h1:=cp hx (aL il) hy;refine⟨_,rfl,_,rfl,?_⟩;cases eo:l[i]with
   |none=>rw[eo]at h1;have h1:y=.aw:=h1;rw[h1];refine az ?_;have e:bH l (i+1)=bH l i:=Oq (by rw[aL il,eo]);exact⟨_,by rw[e];rfl,au,sm.upd vo⟩
   |some x=>rw[eo]at h1;obtain⟨a,rfl,h1⟩:=h1;refine aD ?_;have e:bH l (i+1)=bH l i+1:=Oo (by rw[aL il,eo]);exact⟨_,rfl,_,_,rfl,rfl,χ a,by rw[e];rfl,au,sm.upd vo⟩
  ·rintro σ Hh ⟨v3,rfl,hm,sm⟩
   rw[<-lx]at hm;refine d5 ?_;refine⟨_,rfl,.inl ⟨rfl,_,aj.of hm⟩,_,rfl,mv,_,_,rfl,rfl,hm,(by rw[bJ,aI,gJ,aZ];omega),?_⟩;rw[<-lx,<-qh];have er:(List.range l.length).map (bH l)++[bH l l.length]=(List.range (l.length+1)).map (bH l):=by rw[sQ,dA];rfl
   rw[er];obtain⟨H2,EC⟩:∃H2,H2=upd Hh mv (.lst (iw ((List.range (l.length+1)).map (bH l)))):=⟨_,rfl⟩;rw[<-EC];have hm2:H2 mv=some (.lst (iw ((List.range (l.length+1)).map (bH l)))):=by rw[EC];exact au
   have sm2:ae H H2:=by rw[EC];exact sm.upd vo
   refine⟨_,rfl,li,rfl,⟨_,aj.of (sm2 _ _ hli)⟩,λD hD=>?_⟩;refine uE (xs:=xs) (λi=>((l[i]?).bind id).isSome) (λi y H=>∀x,l[i]? =some (some x)->∃a,y=.ref a/\IA t H a (sent (bH l) x)) hD (by rw[aZ];omega) (λH3 s3=>rl (aj.of ((sm2.trans s3) _ _ hli))) (λi y H H' r k x hx=>by obtain⟨a,e,h⟩:=r x hx;exact⟨a,e,h.nl k⟩) (λx=>rfl) (λi y H3 hi s3 A B hA hB=>?_) λys H3 s3 hL pr=>?_
   ·have il:i<l.length:=by have:=(bN.mp hi).1;omega
    have gl:l[i]? =some l[i]:=aL il;have h0:=cp (F:=λo v=>dW t H v o) hx gl hi;have h0:dW t H y l[i]:=h0;have h1:=h0.nl (sm2.trans s3).nl;refine⟨_,rfl,_,rfl,?_⟩;rw[gl]at hA hB;cases eo:l[i]with
    |none=>rw[eo]at h1 hB;have h1:y=.aw:=h1;rw[h1];exact az (hB rfl _ (ae.refl _))
    |some x=>
     rw[eo]at h1 hA gl;obtain⟨a,rfl,h1⟩:=h1;refine aD ?_;have hx:∀u,tgt x=some u->u<=l.length:=ht x (br gl);refine⟨_,rfl,_,rfl,a,mv,x,_,rfl,h1,s3 _ _ hm2,λu hu=>by have:=hx u hu;rw[aI,gJ];omega,λb H4 s4 hb=>hA rfl _ _ s4 λx' hx'=>?_⟩;cases hx';refine⟨b,rfl,?_⟩;rw[EB (g:=λu=>((List.range (l.length+1)).map (bH l)).getD u 0) λu hu=>by have:=hx u hu;rw[dy,bC,Rv (by omega)];rfl]
     exact hb
   ·rw[<-lx]at pr;obtain⟨is,rfl,hi⟩:=EA (F:=λa x=>IA t H3 a (sent (bH l) x)) (Po pr);refine k D H3 (sm2.trans s3) ⟨is,hL,?_⟩;rw[Zq];clear pr hL;have mp:∀{is:θ}{c:List Ins},Paired (λa x=>IA t H3 a (sent (bH l) x)) is c->Paired (λa i=>IA t H3 a i) is (c.map (sent (bH l))):=by
     intro is c h
     induction h with
     |nil=>exact .nil
     |cons r _ ih=>exact .cons r ih
    exact mp hi
theorem zh(x:Int):Builtin.bitNot (Builtin.bitNot x)=x:=by unfold Builtin.bitNot;omega
theorem ED(a b:Nat):Builtin.bitOr (a:Int) (b:Int)=((a|||b:Nat):Int):=by unfold Builtin.bitOr Builtin.bitAnd;have h1:decide (0<=Builtin.bitNot (a:Int))=false:=aW (by unfold Builtin.bitNot;omega);have h2:decide (0<=Builtin.bitNot (b:Int))=false:=aW (by unfold Builtin.bitNot;omega);rw[h1,h2];show Builtin.bitNot (Builtin.bitNot _)=_;rw[zh,zh,zh];rfl
theorem Zs(a b:Nat):Builtin.bitAnd (a:Int) (Builtin.bitNot (b:Int))=((nO a b:Nat):Int):=by unfold Builtin.bitAnd nO;have h1:decide (0<=(a:Int))=true:=bj (by omega);have h2:decide (0<=Builtin.bitNot (b:Int))=false:=aW (by unfold Builtin.bitNot;omega);rw[h1,h2];show(a:Int)-((a&&& (Builtin.bitNot (Builtin.bitNot (b:Int))).toNat:Nat):Int)=_;rw[zh];have:=Rm (n:=a) (m:=b);have e:(b:Int).toNat=b:=vP b;rw[e];omega
theorem Zt(a b:Nat):Builtin.bitAnd (a:Int) (b:Int)=((a&&& b:Nat):Int):=by unfold Builtin.bitAnd;have h1:decide (0<=(a:Int))=true:=bj (by omega);have h2:decide (0<=(b:Int))=true:=bj (by omega);rw[h1,h2];rfl
theorem Pr(a b:Nat):V.int (Builtin.bitOr (a:Int) (b:Int))=V.int ((a|||b:Nat):Int):=c7 V.int (ED a b)
inductive EF(vs:ε)(H:Hp)(Q:VK)(e0:XK):Prop
 |mk (v:Nat):vs=[.int (v:Int)]->v<=64->Q (.int ((2^v:Nat):Int)) H->EF vs H Q e0
inductive Pt(t:Ad)(vs:ε)(H:Hp)(Q:VK)(e0:XK):Prop
 |mk (a:Addr) (i:Ins):vs=[.ref a]->IA t H a i->((∀v∈usesOf i,v<=64))->Q (.int (u5 i:Int)) H->Pt t vs H Q e0
inductive Pu(t:Ad)(vs:ε)(H:Hp)(Q:VK)(e0:XK):Prop
 |mk (p:Nat) (a nd:Addr) (i:Ins) (N:ψ):vs=[.int (p:Int),.ref a,.ref nd]->IA t H a i->H nd=some (.lst (iw N))->((∀j∈fh p i,j<N.length))->((∀v∈usesOf i,v<=64))->((∀d,givesOf i=some d->d<=64))->(∀H',ae H H'->Q (.int (dv p i N:Int)) H')->Pu t vs H Q e0
inductive Pw(t:Ad)(vs:ε)(H:Hp)(Q:VK)(e0:XK):Prop
 |mk (x:Addr) (p:Sz43.Program):vs=[.ref x]->eV t H x p->PO p->(∀nd N H',H' nd=some (.lst (iw N))->N.length=p.code.length+1->(∀j v,(N.getD j 0).testBit v=true ↔ j0 p.code v j)->ae H H'->Q (.ref nd) H')->Pw t vs H Q e0
theorem EG{N:ψ}{j:Nat}(h:j<N.length):(iw N)[j]? =some (.int (N.getD j 0:Int)):=by unfold iw;rw[bC,aL h,dy,aL h];rfl
theorem Px(N:ψ)(j b:Nat):(iw N).set j (.int (b:Int))=iw (N.set j b):=by unfold iw;rw[List.map_set]
theorem EH(T:Txt K mg t):aE P w K mg base aM 1 t.Bo t.JT ["variable"] EF:=by
 refine T.uc.ko ["variable"] λH Q hr h nd=>?_
 obtain⟨v,rfl,hv,k⟩:=h;refine⟨_,aq (aC (bG Gs aF (pv 0))),?_⟩;refine⟨_,rfl,_,_,rfl,rfl,⟨by omega,by omega,by decide⟩,?_⟩;show Q (.int ((1:Int)*2^(v:Int).toNat)) H;rw[vP,Int.one_mul];have e:(2:Int)^v=((2^v:Nat):Int):=by norm_cast
 rw[e];exact k
theorem Zu(T:Txt K mg t):aE P w K mg base aM 2 t.Bp t.JU ["instruction"] (Pt t):=by
 refine T.CA.ko ["instruction","bits","variable"] λH Q hr h nd=>?_
 obtain⟨a,i,rfl,hI,hus,k⟩:=h;refine⟨_,ak (aS 1 nd aF) (ak (gP gn rfl (lT (aA (pv 0))) (bD 2 nd) (aq (aS 1 nd (bG wH (pv 1) (pC (EH T) hr T.xZ T.uc (aa (pv 2) ag)))))) (aq (aC (pv 1)))),?_⟩
 obtain⟨dx,u,op,ha,hu,hop⟩:=id hI;have cl:=T.cI;refine d5 ?_;refine⟨_,rfl,a,_,dx,_,_,rfl,ha,cl,T.dR,eO,u,rfl,⟨_,aV.of hu⟩,Ab (K:=K) (a:=u) (xs:=iw (usesOf i)) (λr σ Hh=>∃v2:Option V,σ=[χ a,some (.int ((((usesOf i).take r).foldl (λb v=>b|||2^v) 0:Nat):Int)),v2]/\Hh=H) ⟨none,rfl,rfl⟩ (λr σ Hh _ ⟨_,_,e⟩=>by rw[e];exact aV.of hu) ?_ ?_⟩
 ·rintro r y σ Hh hy ⟨v2,rfl,rfl⟩
  obtain⟨c,hc,rfl⟩:=kL hy;refine⟨_,rfl,_,rfl,c,rfl,hus c (br hc),_,_,rfl,rfl,υ c,?_,rfl⟩;rw[iO,hc,zK,Pr];rfl
 ·rintro σ Hh ⟨v2,rfl,rfl⟩
  rw[bJ,kh];exact⟨_,rfl,k⟩
theorem Zv(T:Txt K mg t):aE P w K mg base aM 3 t.Bq t.JV ["place","instruction","needed"] (Pu t):=by
 refine T.CB.ko ["place","instruction","needed","bits","way"] λH Q hr h nd=>?_
 obtain⟨p,a,ne,i,N,rfl,hI,hN,hw,hus,hgv,k⟩:=h;have hr1:=hr.mono (show 1<=2 by decide);refine⟨_,ak (aS 3 nd aF)
  (ak (gP gn rfl (gO (pC (y_ T) hr1 T.ub T.rB (aa (pv 0) (aa (pv 1) ag)))) (bD 4 nd) (aq (aS 3 nd (bG wH (pv 3) (aU bc (pv 2) (pv 4))))))
  (ak (aP (cG (lP (aA (pv 1)))) (aq (aS 3 nd (bG tf (pv 3) (mV SA (pC (EH T) hr1 T.xZ T.uc (aa (aA (pv 1)) ag)))))) aR)
  (aq (aC (bG wH (pv 3) (pC (Zu T) hr T.K8 T.CA (aa (pv 1) ag))))))),?_⟩
 refine d5 ?_;refine⟨_,rfl,_,rfl,p,a,i,rfl,hI,λD H1 s1 hD eD=>?_⟩;refine⟨D,rfl,⟨_,aj.of eD⟩,lU (K:=K) (a:=D) (xs:=iw (fh p i)) (λr σ Hh=>∃v4:Option V,σ=[υ p,χ a,χ ne,some (.int (mx N ((fh p i).take r):Int)),v4]/\Hh=H1) ⟨none,rfl,rfl⟩ (λr σ Hh _ ⟨_,_,e⟩=>by rw[e];exact aj.of eD) ?_ ?_⟩
 ·rintro r y σ Hh hy ⟨v4,rfl,rfl⟩
  obtain⟨c,hc,rfl⟩:=kL hy;refine⟨_,rfl,_,rfl,_,rfl,ne,_,_,_,rfl,rfl,aj.of (s1 _ _ hN),aY (EG (hw c (br hc))),_,_,rfl,rfl,υ c,?_,rfl⟩;rw[iO,hc,Pr];unfold mx;rw[zK];rfl
 ·rintro σ Hh ⟨v4,rfl,rfl⟩
  rw[bJ,kh];have j7:=hI.nl s1.nl;obtain⟨dx,u,op,ha,hu,hop⟩:=id j7;have cl:=T.cI;refine⟨_,rfl,a,_,dx,_,_,rfl,ha,cl,T.cA,cO,_,rfl,?_⟩;have eN:dv p i N=(match givesOf i with |some d=>nO (mx N (fh p i)) (2^d) |none=>mx N (fh p i))|||u5 i:=rfl
  cases hg:givesOf i with
  |none=>
   have eg:df i=.aw:=by unfold df;rw[hg]
   rw[hg]at eN;rw[eg];refine az ⟨_,rfl,_,rfl,a,i,rfl,j7,hus,_,_,rfl,rfl,?_⟩;show Q (.int (Builtin.bitOr _ _)) _;rw[ED,<-eN];exact k _ s1
  |some d=>
   have eg:df i=.int (d:Int):=by unfold df;rw[hg]
   rw[hg]at eN;rw[eg];refine aD ⟨_,rfl,_,rfl,a,_,dx,_,_,rfl,ha,cl,T.cA,cO,d,(by rw[eg];rfl),hgv d hg,_,rfl,_,_,rfl,rfl,?_⟩;refine⟨_,rfl,_,rfl,a,i,rfl,j7,hus,((nO (mx N (fh p i)) (2^d):Nat):Int),_,c7 V.int (Zs _ _),rfl,?_⟩;show Q (.int (Builtin.bitOr _ _)) _;rw[ED,<-eN];exact k _ s1
theorem Zw(T:Txt K mg t):aE P w K mg base aM 4 t.Br t.JW ["program"] (Pw t):=by
 refine T.CC.ko ["program","instructions","needed","changed","place","bits"] λH Q hr h nd=>?_
 obtain⟨x,p,rfl,hX,O,k⟩:=h;refine⟨_,ak (aS 1 nd (aA (pv 0))) (ak (mZ (i:=2) (own:=[("place",4)]) rfl nd rfl rfl rfl (wC rfl T.rG (aa (bG iq (b8 c_ rfl T.cS c8 (aa (pv 1) ag)) aF) ag)) ?b1 (λs H C cl fp=>bD 4 nd) (λs H C cl fp=>eE) (λs H C cl fp=>aF)) (ak (aS 3 nd mS) (ak (sV gn (jv (pv 3)) (ak (aS 3 nd mS) (aq (gP gn rfl (Uk rfl T.rG (aa (bG s_ (b8 c_ rfl T.cS c8 (aa (pv 1) ag)) aF) (aa (mV oC aF) (aa (mV oC aF) ag)))) (bD 4 nd) (ak (aS 5 nd (pC (Zv T) hr T.K9 T.CB (aa (pv 4) (aa (aU bc (pv 1) (pv 4)) (aa (pv 2) ag))))) (aq (aP (aQ qU (pv 5) (aU bc (pv 2) (pv 4))) (ak (oz (pv 5) (oy (pv 2) (pv 4) qu)) (aq (aS 3 nd mS))) aR))))))) (aq (aC (pv 2)))))),?_⟩
 ·show cX ["program","instructions","needed","changed","place","bits"] (bp Ja) _ _;exact bk
 ·dsimp only[bI,Cx.bZ];obtain⟨dx,li,ns,hx,⟨is,hli,cQ⟩,_⟩:=hX;have ln:is.length=p.code.length:=bt cQ;have h256:=O.dk;have h64:=O.dH;have G:=O.good;refine⟨_,rfl,x,_,dx,_,_,rfl,hx,T.eK,T.jU,mn _ _,?_⟩;refine⟨_,rfl,li,_,rfl,.inl (aj.of hli),_,_,rfl,rfl,((p.code.length+1:Nat):Int),?_,by omega,by omega,λne hne=>?_⟩
  ·show[V.int (((is.map V.ref).length:Int)+1)]=_;rw[aI,ln];rfl
  refine l8 (xs:=(List.range (p.code.length+1)).map λ(i:Nat)=>V.int (0+i)) (λ_=>.int 0) hne (by rw[aI,gJ,aZ];omega) (λH2 _=>IG) (λy=>rfl) (λi y H2 _ _ Q' k'=>k' H2 (ae.refl _)) ?_;intro H1 s1 EI;rw[vf,aI,gJ]at EI;have e0:List.replicate (p.code.length+1) (V.int 0)=iw (List.replicate (p.code.length+1) 0):=by unfold iw;rw[RF];rfl
  rw[e0]at EI;have nln:li≠ne:=aH hli hne;refine d5 ?_;refine d5 (Sv (λσ Hh=>∃(N:ψ)(ch:Bool)(v4 v5:Option V),σ=[χ x,χ li,χ ne,some (.bl ch),v4,v5]/\Hh ne=some (.lst (iw N))/\gC p.code p.vars.length N/\(ch=false->∀q i,p.code[q]? =some i->N.getD q 0=dv q i N)/\ae H Hh)
   (λσ Hh=>(match Hh ne with |some (.lst ys)=>lg p.vars.length (ys.map λy=>match y with | .int z=>z.toNat |_=>0) |_=>0)+(match σ[3]? with |some (some (.bl true))=>1 |_=>0)) ⟨_,true,none,none,rfl,EI,gC.start,λe=>(by cases e),s1⟩ ?_ ?_)
  ·rintro σ Hh ⟨N,ch,v4,v5,rfl,hN,NI,hch,sm⟩
   have back:∀N:List Nat,(iw N).map (λy=>match y with | .int z=>z.toNat |_=>0)=N:=by
    intro N;unfold iw;rw[fu]
    conv=>rhs;rw[<-F3 N]
    exact wc λc _=>rfl
   refine⟨_,rfl,_,rfl,?_⟩;cases ch with
   |false=>refine az ?_;have lN:=NI.len;exact⟨_,rfl,k ne N Hh hN lN (λj v=>NI.done (hch rfl)) sm⟩
   |true=>
    refine aD ?_;rw[hN];dsimp only;rw[back];have hlen:(is.map V.ref).length=p.code.length:=by rw[aI];exact ln
    refine d5 ?_;have hrg:tU ((p.code.length:Int)-1) (-1) (-1) p.code.length:=by have:=tU.neg (i:=(p.code.length:Int)-1) (j:= -1) (by omega) (by omega) (by omega) (by omega);rw[show((p.code.length:Int)-1- -1).toNat=p.code.length by omega]at this;exact this
    refine⟨_,rfl,li,_,rfl,.inl (aj.of (sm _ _ hli)),_,_,rfl,rfl,_,rfl,_,rfl,(p.code.length:Int)-1,-1,-1,p.code.length,?_,hrg,?_⟩
    ·show[V.int (((is.map V.ref).length:Int)-1),_,_]=_;rw[hlen]
    obtain⟨J,hJ⟩:∃J:Nat->St->Hp->Prop,∀r σ Hr,J r σ Hr ↔ ∃(N':ψ)(ch:Bool)(v4 v5:Option V),σ=[χ x,χ li,χ ne,some (.bl ch),v4,v5]/\Hr ne=some (.lst (iw N'))/\gC p.code p.vars.length N'/\lg p.vars.length N'+(if ch=true then 1 else 0)<=lg p.vars.length N/\(ch=false->∀q i,p.code.length-r<=q->p.code[q]? =some i->N'.getD q 0=dv q i N')/\ae H Hr:=⟨_,λ_ _ _=>jt⟩;refine Ul (lo:=(p.code.length:Int)-1) (c:= -1) (n:=p.code.length) J ((hJ _ _ _).mpr ⟨N,false,v4,v5,rfl,hN,NI,aJ _,λ_ q i hq hi=>absurd (g_ hi) (by omega),sm⟩) ?_ ?_
    ·intro r σ Hr hr' hh;obtain⟨N',ch,v4,v5,rfl,qk,vq,hm,hch',sm'⟩:=(hJ _ _ _).mp hh;obtain⟨q,eq⟩:∃q:Nat,q=p.code.length-(r+1):=⟨_,rfl⟩;have hq:q<p.code.length:=by omega
     have ei:(p.code.length:Int)-1+(r:Nat)* -1=(q:Int):=by omega
     rw[ei];obtain⟨i,hi⟩:∃i,p.code[q]? =some i:=⟨_,aL hq⟩;obtain⟨a,hai⟩:∃a,is[q]? =some a:=⟨_,aL (by omega)⟩;have hI:=(cp (F:=λa i=>IA t H a i) cQ hai hi).nl sm'.nl;have O':=G i (br hi);have lN:=vq.len;refine⟨_,rfl,_,rfl,_,rfl,li,_,_,_,rfl,rfl,aj.of (sm' _ _ hli),aY (by rw[bC,hai];rfl),_,rfl,q,a,ne,i,N',rfl,hI,qk,λj hj=>by have:=G.kZ q i hi j (qe.mp hj);omega,λv hv=>by have:=O'.us v hv;omega,λd hd=>by have:=O'.gv d hd;omega,λH3 s3=>?_⟩;refine⟨_,rfl,_,rfl,_,rfl,ne,_,_,_,rfl,rfl,aj.of (s3 _ _ qk),aY (EG (by omega)),rfl,_,rfl,?_⟩;rw[dU];by_cases e:dv q i N'=N'.getD q 0
     ·rw[bj e];refine az ?_;refine(hJ _ _ _).mpr ⟨N',ch,_,_,rfl,s3 _ _ qk,vq,hm,λhc q' i' hq' hi'=>?_,sm'.trans s3⟩;by_cases eq':q'=q
      ·subst eq';rw[hi]at hi';cases hi';exact e.symm
      ·exact hch' hc q' i' (by omega) hi'
     ·rw[aW e];refine aD ?_;obtain⟨NI2,m2⟩:=vq.step G hi e;refine⟨_,rfl,_,rfl,_,rfl,ne,_,_,q,rfl,rfl,s3 _ _ qk,?_,?_⟩
      ·unfold iu;rw[bJ,ah (by omega),ah (by omega)];simp
      rw[Px];refine(hJ _ _ _).mpr ⟨_,true,_,_,rfl,au,NI2,?_,λhc=>(by cases hc),(sm'.trans s3).upd hne⟩;rw[ah rfl];split at hm<;>omega
    ·intro σ Hr hh;obtain⟨N',ch,v4,v5,rfl,qk,vq,hm,hch',sm'⟩:=(hJ _ _ _).mp hh;refine⟨⟨N',ch,v4,v5,rfl,qk,vq,λhc q i hi=>hch' hc q i (by omega) hi,sm'⟩,?_⟩;rw[qk];dsimp only;rw[back];cases ch with
     |true=>rw[ah rfl]at hm;show lg _ N'+1<lg _ N+1;omega
     |false=>rw[af (by decide)]at hm;show lg _ N'+0<lg _ N+1;omega
  ·intro σ Hh Q1 Q2 hq h;obtain⟨v,h1,c,h2,h3⟩:=h;exact⟨v,h1,c,h2,hq _ _ h3⟩
def iG(S:ψ):List (Key×V):=S.map λ(s:Nat)=>(Sum.inl (s:Int),V.bl true)
theorem vt(n:Nat):∀S:List Nat,bR (iG S) (Sum.inl (n:Int):Key)=if n∈S then some (V.bl true)else none
 |[]=>rfl
 |s::S=>by
  have ih:=vt n S;unfold iG at ih ⊢;rw[bx];by_cases e:s=n
  ·subst e;rw[gr rfl,ah (by simp)]
  ·have e1:¬(Sum.inl (s:Int):Key)=Sum.inl (n:Int):=λz=>e (by injection z with z;omega)
   rw[gu e1,ih];exact r_ (by simp[cq e]) _ _
theorem Py{n:Nat}{S:ψ}(h:n ∉ S):dM (iG S) (Sum.inl (n:Int):Key) (.bl true)=iG (S++[n]):=by
 have e:bR (iG S) (Sum.inl (n:Int):Key)=none:=by rw[vt,af h]
 unfold dM;rw[qZ,e,af (by simp)];unfold iG;rw[dA];rfl
theorem Pz(S:ψ):(iG S).length=S.length:=aI _
def j9(c:Sz43.Code)(u:Nat):Nat:=(Sz43.follow c (c.length+1) u).getD u
inductive PB(t:Ad)(vs:ε)(H:Hp)(Q:VK)(e0:XK):Prop
 |mk (p:Nat) (li:Addr) (c:Sz43.Code):vs=[.int (p:Int),.ref li]->g9 t H li c->F.fH c->p<=c.length->c.length<=256->(∀H',ae H H'->Q (.int (j9 c p:Int)) H')->PB t vs H Q e0
inductive PD(t:Ad)(vs:ε)(H:Hp)(Q:VK)(e0:XK):Prop
 |mk (a li:Addr) (i:Ins) (c:Sz43.Code):vs=[.ref a,.ref li]->IA t H a i->g9 t H li c->F.fH c->((∀u,tgt i=some u->u<=c.length))->c.length<=256->(∀b H',ae H H'->IA t H' b (sent (j9 c) i)->Q (.ref b) H')->PD t vs H Q e0
inductive PF(t:Ad)(vs:ε)(H:Hp)(Q:VK)(e0:XK):Prop
 |mk (li:Addr) (c:Sz43.Code):vs=[.ref li]->g9 t H li c->F.fH c->c.length<=256->(∀d S H',H' d=some (.dK (iG S))->(∀j,j<c.length->(j∈S ↔ (Sz43.reached c).contains j=true))->ae H H'->Q (.ref d) H')->PF t vs H Q e0
theorem Zx(T:Txt K mg t):aE P w K mg base aM 1 t.Bg t.Jw ["place","instructions"] (PB t):=by
 refine T.Ce.ko ["place","instructions","passed","at"] λH Q hr h nd=>?_
 obtain⟨p,li,c,rfl,⟨is,hli,cQ⟩,hb,hp,h256,k⟩:=h;have hu:=ky hr;refine⟨_,ak (aS 2 nd T8)
  (ak (aS 3 nd (pv 0))
  (ak (sV gn (PW.pt (jw (aQ oE (pv 3) (b8 c_ rfl T.cS c8 (aa (pv 1) ag))) (jP (aQ bB (aA (aU bc (pv 1) (pv 3)) rfl) bq)))) (ak (aP (cG (wX hu (pv 3) (pv 2))) (aq (aC (pv 0))) aR) (ak (wY hu (pv 2) (pv 3) mS rfl) (aq (aS 3 nd (aA (aU bc (pv 1) (pv 3)) rfl))))))
  (aq (aC (pv 3))))),?_⟩
 dsimp only[bI,Cx.bZ];have ln:is.length=c.length:=bt cQ;have cl:=T.cI;intro pd EJ;have s0:ae H (upd H pd (.dK [])):=ae.new EJ;refine⟨_,rfl,?_⟩;refine d5 ?_;refine⟨λm σ Hh=>∃(S:ψ)(a:Nat),m=c.length-S.length/\σ=[υ p,χ li,χ pd,υ a]/\Hh pd=some (.dK (iG S))/\iE c p S a/\ae H Hh,⟨_,[],p,rfl,rfl,au,iE.start hp,s0⟩,?_⟩
 rintro m σ Hh ⟨S,a,rfl,rfl,hd,GI,sm⟩
 refine⟨_,rfl,_,rfl,li,_,rfl,.inl (aj.of (sm _ _ hli)),_,_,rfl,rfl,_,rfl,?_⟩;rw[aI,ln];by_cases hal:a<c.length
 ·rw[bj (show(a:Int)<(c.length:Int) by omega)];refine aD ?_;obtain⟨i,hi⟩:∃i,c[a]? =some i:=⟨_,aL hal⟩;obtain⟨q,hai⟩:∃q,is[a]? =some q:=⟨_,aL (by omega)⟩;have hI:=(cp (F:=λa i=>IA t H a i) cQ hai hi).nl sm.nl;obtain⟨dx,u,op,ha,d7,hop⟩:=id hI;have gi:(is.map V.ref)[a]? =some (.ref q):=by rw[bC,hai];rfl
  refine⟨_,rfl,_,rfl,li,_,_,_,rfl,rfl,aj.of (sm _ _ hli),aY gi,q,_,dx,_,_,rfl,ha,cl,T.be,bo,rfl,_,rfl,?_⟩;have stop:(∀u,i≠ .goto u)->Q (.int (a:Int)) Hh:=λhn=>by
   have:=GI.stop hb hp λu e=>hn u (by rw[hi]at e;exact b_ e)
   have h:=k Hh sm;unfold j9 at h;rw[this]at h;exact h
  cases i with
  |goto v=>
   refine aD ⟨λσ' H'=>∃m',m'<c.length-S.length/\∃(S:ψ)(a:Nat),m'=c.length-S.length/\σ'=[υ p,χ li,χ pd,υ a]/\H' pd=some (.dK (iG S))/\iE c p S a/\ae H H',λσ' H' h=>h,?_⟩;refine⟨_,rfl,_,rfl,pd,_,rfl,dj.k (k:=Sum.inl (a:Int)) hd,_,rfl,?_⟩;rw[vt];by_cases hS:a∈S
   ·rw[ah hS];refine aD ⟨_,rfl,?_⟩;have h:=k Hh sm;unfold j9 at h;rw[GI.round hb hp hS]at h;exact h
   ·rw[af hS];refine az ?_;have GN:=GI.next hb hi hS;have sz:=GN.size;rw[a8,cE]at sz;refine⟨_,rfl,_,rfl,pd,_,rfl,ku.k (k:=Sum.inl (a:Int)) hd (by rw[Pz,aZ];omega),?_⟩;rw[Py hS];have npq:q≠pd:=bg ha hd;have nlp:li≠pd:=aH hli EJ;refine⟨_,rfl,_,rfl,li,_,_,_,rfl,rfl,aj.of (by rw[ay nlp];exact sm _ _ hli),aY gi,q,_,dx,_,_,rfl,by rw[ay npq];exact ha,cl,T.eJ,fX,?_⟩;exact⟨_,by rw[a8,cE];omega,S++[a],v,rfl,rfl,au,GN,sm.upd EJ⟩
  |_=>exact az ⟨_,rfl,stop λu e=>by cases e⟩
 ·rw[aW (show ¬(a:Int)<(c.length:Int) by omega)];refine az (az ?_);have:=GI.stop hb hp λu e=>hal (g_ e)
  have h:=k Hh sm;unfold j9 at h;rw[this]at h;exact⟨_,rfl,h⟩
theorem Zy(T:Txt K mg t):aE P w K mg base aM 4 t.Bh t.Jx ["instruction","instructions"] (PD t):=by
 refine T.Cf.ko ["instruction","instructions"] λH Q hr h nd=>?_
 obtain⟨a,li,i,c,rfl,hI,hL,hb,ht,h256,k⟩:=h;have hr1:=hr.mono (show 1<=3 by decide);refine⟨_,ak (aP (cG (ig (aA (pv 0)))) (aq (aC (pv 0))) aR)
  (aq (aC (pC (OZ T) hr T.Cb T.xT (aa (pv 0) (aa (pC (Zx T) hr1 T.KW T.Ce (aa (aA (pv 0)) (aa (pv 1) ag))) ag))))),?_⟩
 obtain⟨dx,u,op,ha,hu,hop⟩:=id hI;have cl:=T.cI;refine⟨_,rfl,a,_,dx,_,_,rfl,ha,cl,T.eJ,fX,_,rfl,?_⟩;have ep:=vm i;cases hq:tgt i with
 |none=>
  rw[hq]at ep;rw[ep];refine aD ⟨_,rfl,k a H (ae.refl H) ?_⟩;have e:sent (j9 c) i=i:=by cases i<;>first |rfl |cases hq
  rw[e];exact hI
 |some v=>rw[hq]at ep;rw[ep];refine az ⟨_,rfl,_,rfl,a,_,dx,_,_,rfl,ha,cl,T.eJ,fX,_,rfl,v,li,c,(by rw[ep];rfl),hL,hb,ht v hq,h256,λH1 s1=>?_⟩;refine⟨a,i,_,rfl,hI.nl s1.nl,by rw[hq];rfl,λb H' s hb=>k b H' (s1.trans s) ?_⟩;rw[EB (g:=λ_=>j9 c v) λu hu=>by rw[hq]at hu;cases hu;rfl];exact hb
theorem Zz(T:Txt K mg t):aE P w K mg base aM 2 t.Bi t.Jy ["instructions"] (PF t):=by
 refine T.Cg.ko ["instructions","found","waiting","place","way"] λH Q hr h nd=>?_
 obtain⟨li,c,rfl,⟨is,hli,cQ⟩,hb,h256,k⟩:=h;have hu:=ky hr;refine⟨_,ak (aS 1 nd (Ub (T_ aF mS T9) rfl rfl (by intro z;cases z) (by decide)))
  (ak (aS 2 nd (bV (aa aF ag)))
  (ak (sV gn (aQ qV (b8 c_ rfl T.cS c8 (aa (pv 2) ag)) aF) (ak (aS 3 nd (wO fv RB RC Ax (pv 2))) (ak (aP (aQ bB (pv 3) (b8 c_ rfl T.cS c8 (aa (pv 0) ag))) (aq z8) aR) (aq (gP gn rfl (gO (pC (y_ T) hr T.ub T.rB (aa (pv 3) (aa (aU bc (pv 0) (pv 3)) ag)))) (bD 4 nd) (aq (aP (cG (AO hu (pv 4) (pv 1))) (ak (wY hu (pv 1) (pv 4) mS rfl) (aq (eA (gq fv jL jM i6 (pv 2) (aa (pv 4) ag))))) aR)))))))
  (aq (aC (pv 1))))),?_⟩
 dsimp only[bI,Cx.bZ];have ln:is.length=c.length:=bt cQ;have cl:=T.cI;intro fd hfd;refine⟨au,[(Sum.inl 0,.bl true)],rfl,(by show 1<=15;decide),?_⟩;rw[zR];have s0:ae H (upd H fd (.dK (jz [] [(Sum.inl 0,.bl true)]))):=ae.new hfd;refine⟨z1,λwt my=>?_⟩;have zi:fd≠wt:=aH au my;have si:H wt=none:=s0.free my;have nlf:li≠fd:=aH hli hfd;have nlw:li≠wt:=aH hli si;refine d5 ?_;obtain⟨I,hZ⟩:∃I:Nat->St->Hp->Prop,∀m σ Hh,I m σ Hh ↔ ∃(S W:ψ)(v3 v4:Option V),m=2*(c.length+1-S.length)+W.length/\σ=[χ li,χ fd,χ wt,v3,v4]/\Hh fd=some (.dK (iG S))/\Hh wt=some (.lst (iw W))/\j6 c S W/\m<=2000/\ae H Hh:=⟨_,λ_ _ _=>jt⟩;refine⟨I,⟨_,(hZ _ _ _).mpr ⟨[0],[0],none,none,rfl,rfl,by rw[ay zi];exact au,au,j6.start,?_,s0.trans (ae.new my)⟩⟩,?_⟩
 ·show 2*(c.length+1-1)+1<=2000;omega
 intro m σ Hh hh;obtain⟨S,W,v3,v4,rfl,rfl,hd,hw,LI,m4,sm⟩:=(hZ _ _ _).mp hh;refine⟨_,rfl,wt,_,rfl,.inl (aj.of hw),_,_,rfl,rfl,_,rfl,?_⟩;rw[bJ];rcases List.eq_nil_or_concat W with eW |⟨ws,q,eW⟩
 ·subst eW;exact az ⟨_,rfl,k fd S Hh hd (λj hj=>LI.done hj) sm⟩
 rw[List.concat_eq_append]at eW;subst eW;have d0:decide ((0:Int)<((ws++[q]).length:Int))=true:=bj (by rw[a8,cE];omega);rw[d0];refine aD ⟨λσ' H'=>∃m',m'<2*(c.length+1-S.length)+(ws++[q]).length/\I m' σ' H',λσ' H' h=>h,?_⟩;rw[qh]at hw;refine⟨_,rfl,.inl ⟨rfl,_,aj.of hw⟩,wt,_,.int (q:Int),rfl,rfl,hw,?_,?_⟩
 ·rw[a8,cE,F4];simp
 rw[RE];obtain⟨H1,f9⟩:∃H1,H1=upd Hh wt (.lst (iw ws)):=⟨_,rfl⟩;rw[<-f9];have hw1:H1 wt=some (.lst (iw ws)):=by rw[f9];exact au
 have hd1:H1 fd=some (.dK (iG S)):=by rw[f9,ay zi];exact hd
 have sm1:ae H H1:=by rw[f9];exact sm.upd si
 refine⟨_,rfl,_,rfl,li,_,rfl,.inl (aj.of (sm1 _ _ hli)),rfl,_,rfl,?_⟩;rw[aI,ln,dU];have lq:(ws++[q]).length=ws.length+1:=by rw[a8,cE]
 by_cases hq:q=c.length
 ·rw[bj hq];refine aD ⟨2*(c.length+1-S.length)+ws.length,by omega,(hZ _ _ _).mpr ⟨S,ws,_,_,rfl,rfl,hd1,hw1,?_,by omega,sm1⟩⟩;rw[hq]at LI;exact LI.pop
 rw[aW hq];refine az ?_;have qS:=LI.sub q (by simp);have uZ:q<c.length:=by have:=LI.le q qS;omega
 obtain⟨i,hi⟩:∃i,c[q]? =some i:=⟨_,aL uZ⟩;obtain⟨a,hai⟩:∃a,is[q]? =some a:=⟨_,aL (by omega)⟩;have hI:=(cp (F:=λa i=>IA t H a i) cQ hai hi).nl sm1.nl;refine⟨_,rfl,_,rfl,_,rfl,li,_,_,_,rfl,rfl,aj.of (sm1 _ _ hli),aY (by rw[bC,hai];rfl),q,a,i,rfl,hI,λL H2 s2 hL eL=>?_⟩;have nLf:L≠fd:=(aH hd1 hL).symm;have nLw:L≠wt:=(aH hw1 hL).symm;obtain⟨J,hJ⟩:∃J:Nat->St->Hp->Prop,∀r σ Hr,J r σ Hr ↔ ∃(S' W':ψ)(v4:Option V),σ=[χ li,χ fd,χ wt,υ q,v4]/\Hr fd=some (.dK (iG S'))/\Hr wt=some (.lst (iw W'))/\jG c q i ws ((fh q i).take r) S' W'/\Hr L=some (.lst (iw (fh q i)))/\2*(c.length+1-S'.length)+W'.length<=2*(c.length+1-S.length)+ws.length/\ae H Hr:=⟨_,λ_ _ _=>jt⟩;refine⟨L,rfl,⟨_,aj.of eL⟩,lU (K:=K) (a:=L) (xs:=iw (fh q i)) J ((hJ _ _ _).mpr ⟨S,ws,v4,rfl,s2 _ _ hd1,s2 _ _ hw1,jG.start LI,eL,aJ _,sm1.trans s2⟩) (λ_ _ _ _ h=>by obtain⟨_,_,_,_,_,_,_,e,_⟩:=(hJ _ _ _).mp h;exact aj.of e) ?_ ?_⟩
 ·intro r y σ Hr hy hh;obtain⟨S',W',v4,rfl,hdr,hwr,LN,EK,hm,smr⟩:=(hJ _ _ _).mp hh;obtain⟨u,d7,rfl⟩:=kL hy;have et:(fh q i).take r++[u]=(fh q i).take (r+1):=by rw[iO,d7];rfl
  refine⟨_,rfl,_,rfl,fd,_,rfl,dj.k (k:=Sum.inl (u:Int)) hdr,_,rfl,?_⟩;rw[vt];by_cases hS:u∈S'
  ·rw[ah hS];refine az ?_;refine(hJ _ _ _).mpr ⟨S',W',_,rfl,hdr,hwr,?_,EK,hm,smr⟩;rw[<-et];exact LN.old hS
  ·rw[af hS];refine aD ?_;have EL:=LN.new hb hi (qe.mp (br d7)) hS;have sz:(S'++[u]).length<=c.length+1:=by
    have:=F.yS (m:=List.range (c.length+1)) EL.nd λx hx=>qv.mpr (by have:=EL.le x hx;omega)
    rwa [gJ]at this
   rw[a8,cE]at sz;refine⟨_,rfl,_,rfl,fd,_,rfl,ku.k (k:=Sum.inl (u:Int)) hdr (by rw[Pz,aZ];omega),?_⟩;rw[Py hS];have PH:(upd Hr fd (.dK (iG (S'++[u])))) wt=some (.lst (iw W')):=by rw[ay zi.symm];exact hwr
   refine⟨_,rfl,.inl ⟨rfl,_,aj.of PH⟩,_,rfl,wt,_,_,rfl,rfl,PH,(by rw[bJ,aZ];omega),?_⟩;rw[<-qh];refine(hJ _ _ _).mpr ⟨S'++[u],W'++[u],_,rfl,by rw[ay zi];exact au,au,?_,?_,?_,(smr.upd hfd).upd si⟩
   ·rw[<-et];exact EL
   ·rw[ay nLw,ay nLf];exact EK
   ·rw[a8,a8,cE];omega
 ·intro σ Hr hh;obtain⟨S',W',v4,rfl,hdr,hwr,LN,EK,hm,smr⟩:=(hJ _ _ _).mp hh;rw[bJ,kh]at LN;refine⟨2*(c.length+1-S'.length)+W'.length,by omega,(hZ _ _ _).mpr ⟨S',W',_,_,rfl,rfl,hdr,hwr,LN.done hi λj hj=>qe.mpr hj,by omega,smr⟩⟩
inductive mz(t:Ad)(pre:Sz43.Program->Prop)(f:Nat->Sz43.Code->Sz43.Code)(vs:ε)(H:Hp)(Q:VK)(e0:XK):Prop
 |mk (x:Addr) (p:Sz43.Program):vs=[.ref x]->eV t H x p->PO p->pre p->(∀li H',ae H H'->g9 t H' li (f p.vars.length p.code)->Q (.ref li) H')->mz t pre f vs H Q e0
inductive PJ(t:Ad)(vs:ε)(H:Hp)(Q:VK)(e0:XK):Prop
 |mk (a kp:Addr) (v u:Nat) (l:KL):vs=[.ref a,.ref kp]->IA t H a (.cond v u)->H kp=some (.lst (fi l))->v<l.length->(∀y H',ae H H'->dW t H' y (folded (some l) (.cond v u))->Q y H')->PJ t vs H Q e0
inductive EM(t:Ad)(vs:ε)(H:Hp)(Q:VK)(e0:XK):Prop
 |mk (a kp:Addr) (i:Ins) (d:Nat) (l:KL):vs=[.ref a,.ref kp]->IA t H a i->H kp=some (.lst (fi l))->givesOf i=some d->d<l.length->((∀v∈usesOf i,v<l.length))->AllP aN l->(∀y H',ae H H'->dW t H' y (folded (some l) i)->Q y H')->EM t vs H Q e0
inductive PL(t:Ad)(K:ax)(vs:ε)(H:Hp)(Q:VK)(e0:XK):Prop
 |mk (a:Addr) (kv:V) (i:Ins) (e:Sz43.Env):vs=[.ref a,kv]->IA t H a i->dJ (qj K) H kv e->((∀l,e=some l->(∀v∈usesOf i,v<l.length)/\∀d,givesOf i=some d->d<l.length))->(∀y H',ae H H'->dW t H' y (folded e i)->Q y H')->PL t K vs H Q e0
theorem PM(i:Ins)(l:KL){d:Nat}(h:givesOf i=some d):folded (some l) i=match jd i l with
  |none=>some i
  |some z=>if knows l d=some z then none else some (.num d z):=by
 cases i with
 |num e z=>cases h;rfl
 |copy e a=>
  cases h;show(match knows l a with
   |some z=>if knows l d=some z then none else some (Ins.num d z)
   |none=>some (.copy d a))=_
  unfold jd;dsimp only;cases knows l a<;>rfl
 |op k e a b=>
  cases h;show(match knows l a,knows l b with
   |some x,some y=>if knows l d=some (reckon k x y)then none else some (Ins.num d (reckon k x y))
   |_,_=>some (Ins.op k d a b))=_
  rw[uJ];cases knows l a<;>cases knows l b<;>rfl
 |read e=>cases h;rfl
 |_=>cases h
theorem ZA(x y:Option Int):wI (da x) (da y)=true:=by cases x<;>cases y<;>rfl
theorem ZC(T:Txt K mg t):aE P w K mg base aM 3 t.BF t.Kf ["instruction","known"] (PJ t):=by
 refine T.CN.ko ["instruction","known","asked"] λH Q hr h nd=>?_
 obtain⟨a,kp,v,u',l,rfl,hI,hk,hv,k⟩:=h;refine⟨_,ak (aS 2 nd (aU bc (pv 1) (aU gR (aA (pv 0)) aF))) (ak (aP (cG (ig (pv 2))) (aq (aC (pv 0))) aR) (ak (aP (aQ bB (pv 2) aF) (aq (aC e_)) aR) (aq (aC (l7 T.gZ (iA T) hr rfl T.gX (OY T) dE (aa bq (aa (fE ag) ag)) (ir (aA (pv 0)) lV)))))),?_⟩
 obtain⟨dx,u,op,ha,hu,hop⟩:=id hI;have cl:=T.cI;refine⟨_,rfl,_,rfl,a,_,dx,_,_,rfl,ha,cl,T.dR,eO,_,_,_,_,rfl,rfl,aV.of hu,aY (j:=0) rfl,kp,_,_,_,rfl,rfl,aj.of hk,aY (vc hv),?_⟩;have ef:folded (some l) (.cond v u')=(match knows l v with |some z=>if z=0 then none else some (.goto u') |none=>some (.cond v u')):=rfl;refine⟨_,rfl,_,rfl,?_⟩;cases hz:knows l v with
 |none=>rw[hz]at ef;rw[ef]at k;exact aD ⟨_,rfl,k _ H (ae.refl H) ⟨a,rfl,hI⟩⟩
 |some z=>
  rw[hz]at ef;refine az ⟨_,rfl,rfl,_,rfl,?_⟩;by_cases h0:z=0
  ·have e:decide (da (some z)=V.int 0)=true:=by rw[h0];rfl
   rw[e];refine aD ?_;have ef:folded (some l) (.cond v u')=none:=ef.trans (ah h0);rw[ef]at k;exact k _ H (ae.refl H) rfl
  ·have e:decide (da (some z)=V.int 0)=false:=aW λq=>h0 (by injection q)
   rw[e];refine az ?_;have ef:folded (some l) (.cond v u')=some (.goto u'):=ef.trans (af h0);rw[ef]at k;refine⟨bS _,λtp htp=>?_⟩;have s1:=ae.new (o:=.tup []) htp;refine⟨_,rfl,a,_,dx,_,_,rfl,s1 _ _ ha,cl,T.eJ,fX,?_⟩;intro x cY nx cP iB;refine⟨x,cY,_,_,_,_,_,_,rfl,au,λH' h1 h2=>⟨rfl,?_⟩⟩;have s5:=fG nx cP h2;exact k _ H' (s1.trans s5) ⟨x,rfl,cY,tp,.aw,h1,s5 _ _ au,rfl⟩
theorem ZD(T:Txt K mg t):aE P w K mg base aM 5 t.BG t.Kg ["instruction","known"] (EM t):=by
 refine T.CO.ko ["instruction","known","number"] λH Q hr h nd=>?_
 obtain⟨a,kp,i,d,l,rfl,hI,hk,hg,hd,hus,hP,k⟩:=h;have hr2:=hr.mono (show 2<=4 by decide);refine⟨_,ak (aS 2 nd (pC (OT T) hr T.Cy T.xW (aa (pv 0) (aa (pv 1) ag))))
  (ak (aP (cG (ig (pv 2))) (aq (aC (pv 0))) aR)
  (ak (aP (aQ bB (pv 2) (aU bc (pv 1) (aA (pv 0)))) (aq (aC e_)) aR)
  (aq (aC (l7 T.gZ (iA T) hr2 rfl T.gX (kb2 T) dE (aa bq (aa (fE ag) ag)) (ir (aA (pv 0)) (ir (pv 2) lV))))))),?_⟩
 refine⟨_,rfl,_,rfl,a,kp,i,_,l,rfl,hI,hk,by rw[hg];rfl,hus,hP,λH1 s1=>?_⟩;have ef:=PM i l hg;have j7:=hI.nl s1.nl;obtain⟨dx,u,op,ha,hu,hop⟩:=id j7;have cl:=T.cI;have eg:df i=.int (d:Int):=by unfold df;rw[hg]
 refine⟨_,rfl,_,rfl,?_⟩;cases hz:jd i l with
 |none=>rw[hz]at ef;rw[ef]at k;exact aD ⟨_,rfl,k _ H1 s1 ⟨a,rfl,j7⟩⟩
 |some z=>
  rw[hz]at ef;refine az ⟨_,rfl,_,rfl,_,rfl,a,_,dx,_,_,rfl,ha,cl,T.cA,cO,kp,_,_,_,rfl,eg,aj.of (s1 _ _ hk),aY (vc hd),ZA (some z) _,_,rfl,?_⟩;by_cases h0:knows l d=some z
  ·have e:decide (da (some z)=da (knows l d))=true:=bj (by rw[h0]);rw[e];refine aD ?_;have ef:folded (some l) i=none:=ef.trans (ah h0);rw[ef]at k;exact k _ H1 s1 rfl
  ·have e:decide (da (some z)=da (knows l d))=false:=aW λq=>h0 (by
    cases hq:knows l d with
    |none=>rw[hq]at q;cases q
    |some y=>rw[hq]at q;cases q;rfl)
   rw[e];refine az ?_;have ef:folded (some l) i=some (.num d z):=ef.trans (af h0);rw[ef]at k;refine⟨bS _,λtp htp=>?_⟩;have s2:=ae.new (o:=.tup []) htp;refine⟨_,rfl,a,_,dx,_,_,rfl,s2 _ _ ha,cl,T.cA,cO,_,rfl,?_⟩;intro x cY nx cP iB;refine⟨x,cY,_,_,_,_,_,_,rfl,au,λH' h1 h2=>⟨rfl,?_⟩⟩;have s5:=fG nx cP h2;rw[eg]at h1;exact k _ H' ((s1.trans s2).trans s5) ⟨x,rfl,cY,tp,.aw,h1,s5 _ _ au,rfl⟩
theorem ZE(T:Txt K mg t):aE P w K mg base aM 6 t.BH t.Kh ["instruction","known"] (PL t K):=by
 refine T.CP.ko ["instruction","known"] λH Q hr h nd=>?_
 obtain⟨a,kv,i,e,rfl,hI,hE,hl,k⟩:=h;have DJ:=hr.mono (show 3<=5 by decide);refine⟨_,ak (aP (cG (ig (pv 1))) (aq (aC e_)) aR)
  (ak (aP (aQ bB (aA (pv 0)) bq) (aq (aC (pC (ZC T) DJ T.Li T.CN (aa (pv 0) (aa (pv 1) ag))))) aR)
  (ak (aP (cG (lP (aA (pv 0)))) (aq (aC (pC (ZD T) hr T.Lj T.CO (aa (pv 0) (aa (pv 1) ag))))) aR)
  (aq (aC (pv 0))))),?_⟩
 obtain⟨dx,u,op,ha,hu,hop⟩:=id hI;have cl:=T.cI;refine⟨_,rfl,_,rfl,?_⟩;cases e with
 |none=>have hE:kv=.aw:=hE;subst hE;exact aD (k _ H (ae.refl H) rfl)
 |some l=>
  obtain⟨kp,rfl,hE⟩:=hE;obtain⟨hk,hP⟩:=vh.mp hE;obtain⟨l1,l2⟩:=hl l rfl;refine az ⟨_,rfl,a,_,dx,_,_,rfl,ha,cl,T.be,bo,rfl,_,rfl,?_⟩;have main:∀d,givesOf i=some d->EM t [.ref a,.ref kp] H Q E0:=λd hg=>⟨a,kp,i,d,l,rfl,hI,hk,hg,l2 d hg,l1,hP,k⟩
  cases i with
  |cond v u'=>exact aD ⟨_,rfl,_,rfl,a,kp,v,u',l,rfl,hI,hk,l1 v (by simp[usesOf]),k⟩
  |print v=>refine az ⟨_,rfl,a,_,dx,_,_,rfl,ha,cl,T.cA,cO,_,rfl,?_⟩;exact az ⟨_,rfl,k _ H (ae.refl H) ⟨a,rfl,hI⟩⟩
  |goto v=>refine az ⟨_,rfl,a,_,dx,_,_,rfl,ha,cl,T.cA,cO,_,rfl,?_⟩;exact az ⟨_,rfl,k _ H (ae.refl H) ⟨a,rfl,hI⟩⟩
  |stop=>refine az ⟨_,rfl,a,_,dx,_,_,rfl,ha,cl,T.cA,cO,_,rfl,?_⟩;exact az ⟨_,rfl,k _ H (ae.refl H) ⟨a,rfl,hI⟩⟩
  |_=>refine az ⟨_,rfl,a,_,dx,_,_,rfl,ha,cl,T.cA,cO,_,rfl,?_⟩;exact aD ⟨_,rfl,_,rfl,main _ rfl⟩
theorem h_(c:Sz43.Code)(g:Ins×Nat->Option Ins):(c.zipIdx.map g).length=c.length:=by rw[aI,List.length_zipIdx]
theorem zip_get{c:Sz43.Code}{g:Ins×Nat->Option Ins}{i:Nat}{x:Ins}(h:c[i]? =some x):(c.zipIdx.map g)[i]? =some (g (x,i)):=by rw[bC,Rt,h];simp
theorem ZF(T:Txt K mg t):aE P w K mg base aM 8 t.kF t.Ki ["program"] (mz t (λ_=>True) Sz43.fold):=by
 refine T.ya.ko ["program","known","instruction","before"] λH Q hr h nd=>?_
 obtain⟨x,p,rfl,hX,O,_,k⟩:=h;have ji:=hr.mono (show 5<=7 by decide);have hr6:=hr.mono (show 6<=7 by decide);refine⟨_,ak (aS 1 nd (pC (Zh T) hr T.K7 T.Cz (aa (pv 0) ag)))
  (aq (aC (pC (vn T) ji T.rC T.pF (aa (iy (g:=jQ K 2 (eC (cW 2) (eC (cW 3) kl))) (own:=[("instruction",2),("before",3)]) rfl nd (w9 rfl T.uk (aa (aA (pv 0)) (aa (pv 1) ag))) ?b1 (λs H C cl fp=>mU rfl (fQ (bD 2 nd) (fQ (bD 3 nd) mT))) (λs H C cl fp=>eE) (λs H C cl fp=>pC (ZE T) hr6 T.Lk T.CP (aa (pv 2) (aa (pv 3) ag)))) ag)))),?_⟩
 ·show cX ["program","known","instruction","before"] (bp Je) _ _;exact bk
 ·dsimp only[bI,Cx.bZ];have h256:=O.dk;refine⟨_,rfl,x,p,rfl,hX,O,λbf ws B H1 hb hE hlen hkn hwf s1=>?_⟩;obtain⟨dx,li,ns,hx,⟨is,hli,cQ⟩,_⟩:=hX.same s1;have ln:is.length=p.code.length:=bt cQ;have lw:ws.length=B.length:=bt hE;refine⟨_,rfl,x,_,dx,_,_,rfl,hx,T.eK,T.jU,mn _ _,_,rfl,li,bf,_,_,rfl,aj.of hli,aj.of hb,λD hD=>?_⟩;refine yH (λ_=>true) (λi y H=>∀o,(p.code.zipIdx.map λ(x:Ins×Nat)=>folded (Sz43.knownAt (Sz43.known p.vars.length p.code) x.2) x.1)[i]? =some o->dW t H y o) hD (by rw[aI,aZ];omega) (aj.of hli) (aj.of hb) (by rw[aI];omega) (λi y H H' r k o ho=>dW.nl (r o ho) k) (λx y=>rfl) (λi y z H2 hi hj s2 A' B' hA hB=>?_) λys H2 s2 hL pr=>?_
  ·rw[bC]at hi;obtain⟨a,hai,rfl⟩:=cF.mp hi;have il:i<p.code.length:=by have:=(bN.mp hai).1;omega
   have hc:p.code[i]? =some p.code[i]:=aL il;have hI:=(cp (F:=λa i=>IA t H1 a i) cQ hai hc).nl s2.nl;have nR:=cp hE hj (DL (j:=i) (by omega));have nR:=dJ.same nR s2;have O':=O.good _ (br hc);refine aD (B:=B' H2) ?_;refine⟨_,rfl,_,rfl,a,z,p.code[i],gt B i,rfl,hI,nR,λl el=>⟨λv hv=>by rw[hwf i l el];exact O'.us v hv,λd hd=>by rw[hwf i l el];exact O'.gv d hd⟩,λy H4 s4 hy=>hA rfl _ _ s4 λo ho=>?_⟩;rw[zip_get hc]at ho;cases ho;rw[hkn i]at hy;exact hy
  ·rw[kU,aI,ln,<-h_ p.code λ(x:Ins×Nat)=>folded (Sz43.knownAt (Sz43.known p.vars.length p.code) x.2) x.1]at pr;refine⟨D,_,rfl,⟨ys,hL,kX pr⟩,by rw[h_];exact h256,λy hy u hu=>?_,λD' H3 s3 vv=>k D' H3 ((s1.trans s2).trans s3) vv⟩;rw[h_];obtain⟨⟨x0,i0⟩,hx0,ey⟩:=d_.mp hy;have hc0:p.code[i0]? =some x0:=by
    have:=Ru.mp hx0;simpa using this
   have O0:=O.good x0 (br hc0);have ey:folded (Sz43.knownAt (Sz43.known p.vars.length p.code) i0) x0=some y:=ey;cases hk0:Sz43.knownAt (Sz43.known p.vars.length p.code) i0 with
   |none=>rw[hk0]at ey;cases ey
   |some l0=>
    rw[hk0]at ey;cases hg0:givesOf x0 with
    |some d0=>
     rw[PM x0 l0 hg0]at ey;split at ey
     ·cases ey;exact O0.tg u hu
     ·split at ey
      ·cases ey
      ·cases ey;cases hu
    |none=>
     cases x0 with
     |cond v0 u0=>
      have ey:(match knows l0 v0 with |some z=>if z=0 then none else some (.goto u0) |none=>some (Ins.cond v0 u0))=some y:=ey;split at ey
      ·split at ey
       ·cases ey
       ·cases ey;cases hu;exact O0.tg _ rfl
      ·cases ey;exact O0.tg u hu
     |print v=>cases ey;exact O0.tg u hu
     |goto v=>cases ey;exact O0.tg u hu
     |stop=>cases ey;exact O0.tg u hu
     |_=>cases hg0
theorem PN{A:Around}{k:Nat}(hr:b7 k A):A.units+65<cLine:=by have:=hr.un;omega
noncomputable def vw(l:HL):Ins->Option Ins
 | .copy d r=>if r=d\/l[d]? =some (some (.same r))then none else some (.copy d r)
 | .op k d x y=>if l[d]? =some (some (.made k x y))then none else (match l.findIdx? λo=>o==some (.made k x y)with
  |some w=>some (.copy d w)
  |none=>some (.op k d x y))
 |i=>some i
def iH:Ins->Sz43.Holds
 | .op k _ x y=>.made k x y
 | .copy _ r=>.same r
 |_=>.same 0
inductive EN(t:Ad)(K:ax)(vs:ε)(H:Hp)(Q:VK)(e0:XK):Prop
 |mk (a kp:Addr) (i:Ins) (d:Nat) (l:HL):vs=[.ref a,.ref kp]->IA t H a i->LA (bX K) H kp l->givesOf i=some d->usesOf i≠[]->d<l.length->(∀y H',ae H H'->dW t H' y (vw l i)->Q y H')->EN t K vs H Q e0
inductive PQ(t:Ad)(K:ax)(vs:ε)(H:Hp)(Q:VK)(e0:XK):Prop
 |mk (a kp:Addr) (i:Ins) (l:HL):vs=[.ref a,.ref kp]->IA t H a i->LA (bX K) H kp l->((∀v∈usesOf i,v<l.length))->((∀d,givesOf i=some d->d<l.length))->(∀y H',ae H H'->dW t H' y (y3 l i)->Q y H')->PQ t K vs H Q e0
theorem ZG{K:ax}{H:Hp}{v:V}{o o':Option Sz43.Holds}(h:OA (bX K) H v o)(h':OA (bX K) H v o'):bW (bX K) o=bW (bX K) o':=by
 cases o with
 |none=>
  have h:v=.aw:=h;subst h;cases o' with
  |none=>rfl
  |some b=>obtain⟨p,_,_,e,_⟩:=h';cases e
 |some a=>
  obtain⟨p,u,op,rfl,h2,h3,h4⟩:=h;cases o' with
  |none=>cases h'
  |some b=>
   obtain⟨p',u',op',e,h2',h3',h4'⟩:=h';cases e;rw[h2]at h2';cases h2';rw[h3]at h3';have eu:iw (gc a)=iw (gc b):=by injection h3' with h3';injection h3'
   have eu:=xl eu;show j8 a=j8 b;cases a with
   |same y=>
    cases b with
    |same z=>rw[show y=z by simpa[gc]using eu]
    |made k x z=>simp[gc]at eu
   |made k x z=>
    cases b with
    |same y=>simp[gc]at eu
    |made k' x' z'=>
     obtain⟨_,q,rfl,hq⟩:=h4;obtain⟨_,q',eq',hq'⟩:=h4';cases eq';rw[hq]at hq';have ew:iw (Sz43.ops.getD k [])=iw (Sz43.ops.getD k' []):=by injection hq' with hq';injection hq'
     have ew:=xl ew;have eu:x=x'/\z=z':=by simpa[gc]using eu
     show PyData.tuple [.tuple (iD (Sz43.ops.getD k [])),.tuple (iD [x,z])]=PyData.tuple [.tuple (iD (Sz43.ops.getD k' [])),.tuple (iD [x',z'])];rw[ew,eu.1,eu.2]
theorem ZH{K:ax}{H:Hp}{l:HL}{vs:ε}(h:Paired (λo v=>OA (bX K) H v o) l vs):DF vs (l.map (bW (bX K))):=by
 intro j j' v hj hj';have lv:l.length=vs.length:=bt h;have hl:j<l.length:=by have:=(bN.mp hj).1;omega
 have hl':j'<l.length:=by have:=(bN.mp hj').1;omega
 have a:=cp (F:=λo v=>OA (bX K) H v o) h (aL hl) hj;have b:=cp (F:=λo v=>OA (bX K) H v o) h (aL hl') hj';rw[bC,bC,aL hl,aL hl'];exact c7 some (ZG a b)
theorem PR{K:ax}{h:Sz43.Holds}(hh:Ew h):∀{l:HL},(∀x∈l,qg (bX K) x)->((l.map (bW (bX K))).findIdx? λe=>PyData.eqv e (j8 h))=l.findIdx? λo=>o==some h
 |[],_=>rfl
 |o::l,ho=>by
  have ih:=PR (K:=K) hh (l:=l) λx hx=>ho x (bM _ hx)
  have e:PyData.eqv (bW (bX K) o) (bW (bX K) (some h))=decide (o=some h):=zd (ho o (by simp)) hh;have e:PyData.eqv (bW (bX K) o) (j8 h)=decide (o=some h):=e;rw[bx,FY,FY,ih,e];have eb:(o==some h)=decide (o=some h):=by rw[gj];simp
  rw[eb]
theorem ZI{α:Type}(p:α->Bool):∀l:List α,l.any p=(l.findIdx? p).isSome:=λl=>by rw[zN]
theorem ZJ(T:Txt K mg t):aE P w K mg base aM 3 t.BI t.Kj ["instruction","held"] (EN t K):=by
 refine T.CQ.ko ["instruction","held","thing"] λH Q hr h nd=>?_
 obtain⟨a,kp,i,d,l,rfl,hI,hk,hg,hne,hd,k⟩:=h;have hr1:=hr.mono (show 1<=2 by decide);refine⟨_,ak (aS 2 nd (fE (aa (aA (pv 0)) (aa (aA (pv 0)) ag))))
  (ak (aP (PW.pt (lR (jv (pC (O1 T) hr1 T.B9 T.xQ (aa (pv 0) ag))) (lQ (aQ (jT hr.units) (aU bc (pv 1) (aA (pv 0))) (pv 2))))) (aq (aC e_)) aR)
  (ak (aP (PW.pt (jw (aQ bB (aA (pv 0)) bq) (jP (aQ (XX (PN hr)) (pv 2) (pv 1) rfl)))) (aq (aC (l7 T.gZ (iA T) hr rfl T.gX (kb1 T) dE (aa bq (aa (fE (aa (gq fv PySem.F.slot_list_index PySem.F.type_list_index (XY (PN hr)) (pv 1) (aa (pv 2) ag)) ag)) ag)) (ir (aA (pv 0)) lV)))) aR)
  (aq (aC (pv 0))))),?_⟩
 dsimp only[bI,Cx.bZ];obtain⟨dx,u,op,ha,hu,hop⟩:=id hI;have cl:=T.cI;have eg:df i=.int (d:Int):=by unfold df;rw[hg]
 refine⟨_,rfl,a,_,dx,_,_,rfl,ha,cl,T.me,pR,_,rfl,a,_,dx,_,_,rfl,ha,cl,T.dR,eO,z2,λtp htp=>?_⟩;have s1:=ae.new (o:=.tup [op,.ref u]) htp;have j7:=hI.nl s1.nl;obtain⟨xs,hxs,hx⟩:=hk.same s1;have lx:l.length=xs.length:=bt hx;have thg:Ph (upd H tp (.tup [op,.ref u])) (.ref tp) (iH i):=by
  cases i with
  |copy e r=>exact⟨tp,u,op,rfl,au,s1 _ _ hu,hop⟩
  |op n e y z=>obtain⟨h12,q,e1,e2⟩:=hop;exact⟨tp,u,op,rfl,au,s1 _ _ hu,h12,q,e1,s1 _ _ e2⟩
  |num e z=>exact absurd rfl hne
  |read e=>exact absurd rfl hne
  |_=>cases hg
 have okt:Ew (iH i):=(bX K).zb thg;have EO:Dp K (upd H tp (.tup [op,.ref u])) (.ref tp) (j8 (iH i)):=(bX K).dp thg;have ER:SeqAt.shaped (j8 (iH i))=true:=ve (D:=bX K) (some (iH i));refine⟨_,rfl,a,i,rfl,j7,_,rfl,?_⟩;have hv:xs[d]? =some (xs[d]'(by omega)):=aL _;have hdl:l[d]? =some l[d]:=aL hd;have hov:=cp (F:=λo v=>OA (bX K) (upd H tp (.tup [op,.ref u])) v o) hx hdl hv;have done:vw l i=none->Q .aw (upd H tp (.tup [op,.ref u])):=λe=>k _ _ s1 (by rw[e];rfl)
 have stay:vw l i=some i->Q (.ref a) (upd H tp (.tup [op,.ref u])):=λe=>k _ _ s1 (by rw[e];exact⟨a,rfl,j7⟩)
 by_cases hs:F.gb i=true
 ·rw[hs];refine aD (aD ?_);refine done ?_;cases i with
  |copy e r=>
   have e2:e=r:=by simpa[F.gb]using hs
   show(if r=e\/_ then none else _)=none;exact ah (.inl e2.symm)
  |_=>cases hs
 rw[oh]at hs;rw[hs];refine az ⟨_,rfl,_,rfl,a,_,dx,_,_,rfl,s1 _ _ ha,cl,T.cA,cO,kp,_,_,_,rfl,eg,aj.of hxs,aY hv,_,rfl,bW (bX K) l[d],j8 (iH i),OA.dp hov,EO,ve _,ER,_,rfl,?_⟩;have ee:PyData.eqv (bW (bX K) l[d]) (bW (bX K) (some (iH i)))=decide (l[d]=some (iH i)):=zd (OA.ok hov) okt;have ee:PyData.eqv (bW (bX K) l[d]) (j8 (iH i))=decide (l[d]=some (iH i)):=ee;rw[ee];by_cases hq:l[d]=some (iH i)
 ·rw[bj hq];refine aD ?_;refine done ?_;rw[hq]at hdl;cases i with
  |copy e r=>cases hg;show(if r=d\/l[d]? =some (some (.same r))then none else _)=none;exact ah (.inr hdl)
  |op n e y z=>cases hg;show(if l[d]? =some (some (.made n y z))then none else _)=none;exact ah hdl
  |num e z=>exact absurd rfl hne
  |read e=>exact absurd rfl hne
  |_=>cases hg
 rw[aW hq];refine az ⟨_,rfl,a,_,dx,_,_,rfl,s1 _ _ ha,cl,T.be,bo,rfl,_,rfl,?_⟩;cases i with
 |copy e r=>
  cases hg;refine az (az ?_);refine⟨_,rfl,stay ?_⟩;have n1:¬(r=d\/l[d]? =some (some (.same r))):=by
   rintro(e |e)
   ·have:F.gb (.copy d r)=true:=by simp[F.gb,e]
    rw[this]at hs;cases hs
   ·rw[hdl]at e;exact hq (b_ e)
  exact af n1
 |op n e y z=>
  cases hg;refine aD ?_;have fn:=ZH hx;have sh:∀e∈l.map (bW (bX K)),SeqAt.shaped e=true:=λe he=>by obtain⟨o,_,rfl⟩:=d_.mp he;exact ve o
  have idx:=PR (K:=K) okt (Er hx);refine⟨_,rfl,_,rfl,kp,_,l.map (bW (bX K)),j8 (iH (.op n d y z)),rfl,aj.of hxs,Ep hx,EO,sh,ER,fn,_,rfl,?_⟩;rw[ZI,idx];have n1:¬l[d]? =some (some (.made n y z)):=λe=>by rw[hdl]at e;exact hq (b_ e)
  have eh:vw l (.op n d y z)=(match l.findIdx? λo=>o==some (.made n y z)with
   |some w=>some (.copy d w)
   |none=>some (.op n d y z)):=af n1
  cases hf:l.findIdx? λo=>o==some (iH (.op n d y z))with
  |none=>have hf':(l.findIdx? λo=>o==some (.made n y z))=none:=hf;rw[hf']at eh;exact az ⟨_,rfl,stay eh⟩
  |some m=>have hf':(l.findIdx? λo=>o==some (.made n y z))=some m:=hf;rw[hf']at eh;rw[eh]at k;refine aD ⟨_,rfl,.inl ⟨rfl,_,aj.of hxs⟩,_,rfl,kp,_,_,l.map (bW (bX K)),j8 (iH (.op n d y z)),m,rfl,rfl,aj.of hxs,Ep hx,EO,sh,ER,fn,by rw[idx];exact hf,z1,λtq ES=>?_⟩;have s2:=ae.new (o:=.tup [.int (m:Nat)]) ES;refine⟨_,rfl,a,_,dx,_,_,rfl,s2 _ _ (s1 _ _ ha),cl,T.cA,cO,?_⟩;intro x cY nx cP iB;refine⟨x,cY,_,_,_,_,_,_,rfl,au,λH' h1 h2=>⟨rfl,?_⟩⟩;have s5:=fG nx cP h2;exact k _ H' ((s1.trans s2).trans s5) ⟨x,rfl,cY,tq,.aw,h1,s5 _ _ au,rfl⟩
 |num e z=>exact absurd rfl hne
 |read e=>exact absurd rfl hne
 |_=>cases hg
theorem ZK(T:Txt K mg t):aE P w K mg base aM 4 t.BJ t.Kk ["instruction","held"] (PQ t K):=by
 refine T.CS.ko ["instruction","held","rooted","variable"] λH Q hr h nd=>?_
 obtain⟨a,kp,i,l,rfl,hI,hk,hus,hgv,k⟩:=h;have hr1:=hr.mono (show 1<=3 by decide);refine⟨_,ak (aP (aQ bB (b8 c_ rfl T.cS c8 (aa (aA (pv 0)) ag)) aF) (aq (aC (pv 0))) aR)
  (ak (aS 2 nd (pC (Zb T) hr T.KS T.Cc (aa (pv 0) (aa (lW As rfl T.yi rfl (aa (iy (own:=[("variable",3)]) rfl nd (lT (aA (pv 0))) ?b1 (λs H C cl fp=>bD 3 nd) (λs H C cl fp=>eE) (λs H C cl fp=>pC (Zo T) hr1 T.KR T.Ca (aa (pv 3) (aa (pv 1) ag)))) ag)) ag))))
  (aq (aC (gM (cG (ig (aA (pv 2)))) (pv 2) (pC (ZJ T) hr T.Lm T.CQ (aa (pv 2) (aa (pv 1) ag))))))),?_⟩
 ·show cX ["instruction","held","rooted","variable"] (bp Jf) _ _;exact bk
 ·dsimp only[bI,Cx.bZ];obtain⟨dx,u,op,ha,hu,hop⟩:=id hI;have cl:=T.cI;have hu:H u=some (.tup (iw (usesOf i))):=hu;refine⟨_,rfl,a,_,dx,_,_,rfl,ha,cl,T.dR,eO,u,_,rfl,.inr (aV.of hu),rfl,_,rfl,?_⟩;rw[bJ,show decide (V.int ((usesOf i).length:Int)=V.int 0)=decide ((usesOf i).length=0) from dU _ 0];by_cases h0:(usesOf i).length=0
  ·rw[bj h0];refine aD ⟨_,rfl,k _ H (ae.refl H) ?_⟩;have e:y3 l i=some i:=by cases i<;>first |rfl |(simp[usesOf]at h0)
   rw[e];exact⟨a,rfl,hI⟩
  rw[aW h0];refine az ?_;have l2:(usesOf i).length<=2:=by cases i<;>simp[usesOf]
  refine⟨_,rfl,_,rfl,a,_,dx,_,_,rfl,ha,cl,T.dR,eO,u,rfl,⟨_,aV.of hu⟩,λD hD=>?_⟩;refine l8 (xs:=iw (usesOf i)) (λv=>match v with | .int z=>.int ((du l z.toNat:Nat):Int) |v=>v) hD (by rw[bJ,aZ];omega) (λH2 s2=>rj (s2.oY (aV.of hu))) (λy=>rfl) ?_ ?_
  ·intro j y H2 hy s2 Q' k';obtain⟨c,hc,rfl⟩:=kL hy;exact⟨_,rfl,_,rfl,c,kp,l,rfl,hk.same s2,hus c (br hc),k' H2 (ae.refl _)⟩
  intro H2 s2 hL;have eL:(iw (usesOf i)).map (λv=>match v with | .int z=>V.int ((du l z.toNat:Nat):Int) |v=>v)=iw ((usesOf i).map (du l)):=by unfold iw;rw[fu,fu];rfl
  rw[eL]at hL;refine⟨D,_,rfl,.inl ⟨aj.of hL,λtq ES=>?_⟩⟩;have s3:ae H (upd H2 tq (.tup (iw ((usesOf i).map (du l))))):=s2.trans (ae.new ES);refine⟨a,tq,i,_,rfl,hI.nl s3.nl,au,aI _,λe=>h0 (by rw[<-aI (as:=usesOf i) (f:=du l),e];rfl),λb H3 s4 hb=>?_⟩;have s5:=s3.trans s4;obtain⟨dx3,u3,op3,ha3,hu3,hop3⟩:=id hb;refine⟨_,rfl,b,_,dx3,_,_,rfl,ha3,cl,T.cA,cO,_,rfl,?_⟩;have mB:∀d,givesOf (y9 i ((usesOf i).map (du l)))=some d->givesOf i=some d->usesOf (y9 i ((usesOf i).map (du l)))≠[]->vw l (y9 i ((usesOf i).map (du l)))=y3 l i->EN t K [.ref b,.ref kp] H3 Q E0:=λd g1 g2 g3 g4=>⟨b,kp,_,d,l,rfl,hb,hk.same s5,g1,g3,hgv d g2,λy H' s' hy=>k y H' (s5.trans s') (by rw[<-g4];exact hy)⟩
  cases i with
  |copy d v=>exact az ⟨_,rfl,_,rfl,mB d rfl rfl (by intro z;cases z) rfl⟩
  |op n d v v'=>exact az ⟨_,rfl,_,rfl,mB d rfl rfl (by intro z;cases z) rfl⟩
  |print v=>exact aD ⟨_,rfl,k _ H3 s5 ⟨b,rfl,hb⟩⟩
  |cond v u'=>exact aD ⟨_,rfl,k _ H3 s5 ⟨b,rfl,hb⟩⟩
  |_=>exact absurd rfl h0
theorem ZL{l:List Sz43.Fact}{x y:Ins}{u:Nat}(h:Sz43.shared l x=some y)(hu:tgt y=some u):tgt x=some u:=by
 cases x with
 |copy d a=>
  have h:(if Sz43.root l a=d\/l.contains (d,Sz43.Holds.same (Sz43.root l a))=true then none else some (Ins.copy d (Sz43.root l a)))=some y:=h;split at h<;>cases h
  cases hu
 |op k d a b=>
  have h:(if l.contains (d,Sz43.Holds.made k (Sz43.root l a) (Sz43.root l b))=true then none
   else match Sz43.least ((l.filter λ(f:Sz43.Fact)=>f.2==Sz43.Holds.made k (Sz43.root l a) (Sz43.root l b)).map λ(f:Sz43.Fact)=>f.1)with
   |some w=>some (Ins.copy d w)
   |none=>some (Ins.op k d (Sz43.root l a) (Sz43.root l b)))=some y:=h
  split at h
  ·cases h
  ·split at h<;>(cases h;cases hu)
 |print a=>cases h;cases hu
 |cond a t=>cases h;exact hu
 |_=>cases h;exact hu
theorem zj{c:Sz43.Code}{g:Ins×Nat->Option Ins}{y:Ins}(h:some y∈c.zipIdx.map g):∃i x,c[i]? =some x/\g (x,i)=some y:=by obtain⟨⟨x,i⟩,hx,e⟩:=d_.mp h;have:=Ru.mp hx;exact⟨i,x,by simpa using this,e⟩
theorem ZM(xs:ε)(h:1<=xs.length):iZ xs (some 1) none=xs.drop 1:=by unfold iZ;rw[show HT.ba xs.length 0 (some 1)=1 from (HT.S4 xs.length 0 1).trans (by omega),HT.S3];exact Rn (by rw[zB];exact aJ _)
inductive PU(t:Ad)(vs:ε)(H:Hp)(Q:VK)(e0:XK):Prop
 |mk (a:Addr) (i:Ins) (b:Nat):vs=[.ref a,.int (b:Int)]->IA t H a i->((∀d,givesOf i=some d->d<=64))->(∀y H',ae H H'->dW t H' y (y4 b i)->Q y H')->PU t vs H Q e0
theorem ZN(T:Txt K mg t):aE P w K mg base aM 8 t.kG t.Kl ["program"] (mz t (λp=>∀j,j<p.code.length->F.gt (Sz43.facts p.code) j≠none) (λ_=>Sz43.share)):=by
 refine T.yb.ko ["program","held","instruction","before"] λH Q hr h nd=>?_
 obtain⟨x,p,rfl,hX,O,pre,k⟩:=h;have ji:=hr.mono (show 5<=7 by decide);have iC:=hr.mono (show 4<=7 by decide);refine⟨_,ak (aS 1 nd (pC (Zn T) hr T.KQ T.B_ (aa (pv 0) ag)))
  (aq (aC (pC (vn T) ji T.rC T.pF (aa (iy (g:=jQ K 2 (eC (cW 2) (eC (cW 3) kl))) (own:=[("instruction",2),("before",3)]) rfl nd (w9 rfl T.uk (aa (aA (pv 0)) (aa (pv 1) ag))) ?b1 (λs H C cl fp=>mU rfl (fQ (bD 2 nd) (fQ (bD 3 nd) mT))) (λs H C cl fp=>eE) (λs H C cl fp=>pC (ZK T) iC T.Lo T.CS (aa (pv 2) (aa (pv 3) ag)))) ag)))),?_⟩
 ·show cX ["program","held","instruction","before"] (bp Jg) _ _;exact bk
 ·have h256:=O.dk;refine⟨_,rfl,x,p,rfl,hX,O,λbf ws B H1 hb hE hlen hkn hwf s1=>?_⟩;obtain⟨dx,li,ns,hx,⟨is,hli,cQ⟩,_⟩:=hX.same s1;have ln:is.length=p.code.length:=bt cQ;have lw:ws.length=B.length:=bt hE;refine⟨_,rfl,x,_,dx,_,_,rfl,hx,T.eK,T.jU,mn _ _,_,rfl,li,bf,_,_,rfl,aj.of hli,aj.of hb,λD hD=>?_⟩;refine yH (λ_=>true) (λi y H=>∀o,(p.code.zipIdx.map λ(x:Ins×Nat)=>Sz43.shared (Sz43.factsAt (Sz43.facts p.code) x.2) x.1)[i]? =some o->dW t H y o) hD (by rw[aI,aZ];omega) (aj.of hli) (aj.of hb) (by rw[aI];omega) (λi y H H' r k o ho=>dW.nl (r o ho) k) (λx y=>rfl) (λi y z H2 hi hj s2 A' B' hA hB=>?_) λys H2 s2 hL pr=>?_
  ·rw[bC]at hi;obtain⟨a,hai,rfl⟩:=cF.mp hi;have il:i<p.code.length:=by have:=(bN.mp hai).1;omega
   have hc:p.code[i]? =some p.code[i]:=aL il;have hI:=(cp (F:=λa i=>IA t H1 a i) cQ hai hc).nl s2.nl;have nR:=cp hE hj (DL (j:=i) (by omega));have nR:=dJ.same nR s2;have O':=O.good _ (br hc);obtain⟨kn1,kn2⟩:=hkn i;cases zk:gt B i with
   |none=>exact absurd (kn1.mpr zk) (pre i il)
   |some l=>rw[zk]at nR;obtain⟨kp,rfl,hLA⟩:=nR;have ll:=hwf i l zk;refine aD (B:=B' H2) ?_;refine⟨_,rfl,_,rfl,a,kp,p.code[i],l,rfl,hI,hLA,λv hv=>by rw[ll];exact O'.us v hv,λd hd=>by rw[ll];exact O'.gv d hd,λy H4 s4 hy=>hA rfl _ _ s4 λo ho=>?_⟩;rw[zip_get hc]at ho;cases ho;dsimp only;rw[Yp (kn2 l zk),abA];exact hy
  ·rw[kU,aI,ln,<-h_ p.code λ(x:Ins×Nat)=>Sz43.shared (Sz43.factsAt (Sz43.facts p.code) x.2) x.1]at pr;refine⟨D,_,rfl,⟨ys,hL,kX pr⟩,by rw[h_];exact h256,λy hy u hu=>?_,λD' H3 s3 vv=>k D' H3 ((s1.trans s2).trans s3) vv⟩;rw[h_];obtain⟨i0,x0,hc0,ey⟩:=zj hy;exact(O.good x0 (br hc0)).tg u (ZL ey hu)
theorem ZO(T:Txt K mg t):aE P w K mg base aM 2 t.BK t.Km ["instruction","needed_behind"] (PU t):=by
 refine T.CT.ko ["instruction","needed_behind"] λH Q hr h nd=>?_
 obtain⟨a,i,b,rfl,hI,hgv,k⟩:=h;refine⟨_,ak (aP (PW.pt (lR (cG (ig (aA (pv 0)))) (lQ (aQ bB (aA (pv 0)) bq)))) (aq (aC (pv 0))) aR) (aq (aC (gM (aQ bB (bG tf (pv 1) (pC (EH T) hr T.xZ T.uc (aa (aA (pv 0)) ag))) aF) e_ (pv 0)))),?_⟩
 obtain⟨dx,u,op,ha,hu,hop⟩:=id hI;have cl:=T.cI;refine⟨_,rfl,a,_,dx,_,_,rfl,ha,cl,T.cA,cO,_,rfl,?_⟩;have stay:y4 b i=some i->Q (.ref a) H:=λe=>k _ H (ae.refl H) (by rw[e];exact⟨a,rfl,hI⟩)
 have main:∀d:Nat,df i=.int (d:Int)->d<=64->y4 b i=(if b&&& 2^d=0 then none else some i)->
   (z7 (oF (gQ Ag (gQ (ik λi j=>V.int (Builtin.bitAnd i j)) (dX 1) (qX EF [] E0 (kn (oH K (dX 0) "given") km))) (tC (.int 0)))) (tC .aw) (dX 0)) [χ a,υ b] H Q:=λd eg hd en=>by
  refine⟨_,rfl,_,rfl,a,_,dx,_,_,rfl,ha,cl,T.cA,cO,d,(by rw[eg];rfl),hd,_,_,rfl,rfl,?_⟩;refine⟨rfl,_,rfl,?_⟩;have e:decide (V.int (Builtin.bitAnd (b:Int) ((2^d:Nat):Int))=V.int 0)=decide (b&&& 2^d=0):=by show decide (V.int (Builtin.bitAnd _ _)=V.int 0)=_;rw[Zt];exact dU _ 0
  rw[e];by_cases h0:b&&& 2^d=0
  ·rw[bj h0];rw[ah h0]at en;refine aD ?_;exact k _ H (ae.refl H) (by rw[en];rfl)
  ·rw[aW h0];rw[af h0]at en;exact az ⟨_,rfl,stay en⟩
 cases i with
 |num d z=>refine az ⟨_,rfl,a,_,dx,_,_,rfl,ha,cl,T.be,bo,rfl,_,rfl,?_⟩;exact az (main d rfl (hgv d rfl) rfl)
 |copy d z=>refine az ⟨_,rfl,a,_,dx,_,_,rfl,ha,cl,T.be,bo,rfl,_,rfl,?_⟩;exact az (main d rfl (hgv d rfl) rfl)
 |op n d z z'=>refine az ⟨_,rfl,a,_,dx,_,_,rfl,ha,cl,T.be,bo,rfl,_,rfl,?_⟩;exact az (main d rfl (hgv d rfl) rfl)
 |read d=>refine az ⟨_,rfl,a,_,dx,_,_,rfl,ha,cl,T.be,bo,rfl,_,rfl,?_⟩;exact aD ⟨_,rfl,stay rfl⟩
 |_=>refine aD (aD ?_);exact⟨_,rfl,stay rfl⟩
theorem ZP(T:Txt K mg t):aE P w K mg base aM 8 t.kH t.Kn ["program"] (mz t (λ_=>True) (λ_=>Sz43.spare)):=by
 refine T.yc.ko ["program","needed_behind","instruction","bits"] λH Q hr h nd=>?_
 obtain⟨x,p,rfl,hX,O,_,k⟩:=h;have ji:=hr.mono (show 5<=7 by decide);have iC:=hr.mono (show 4<=7 by decide);have hr2:=hr.mono (show 2<=7 by decide);refine⟨_,ak (aS 1 nd (G_ Tj (pC (Zw T) iC T.K_ T.CC (aa (pv 0) ag)) (G9 aF) G8))
  (aq (aC (pC (vn T) ji T.rC T.pF (aa (iy (g:=jQ K 2 (eC (cW 2) (eC (cW 3) kl))) (own:=[("instruction",2),("bits",3)]) rfl nd (w9 rfl T.uk (aa (aA (pv 0)) (aa (pv 1) ag))) ?b1 (λs H C cl fp=>mU rfl (fQ (bD 2 nd) (fQ (bD 3 nd) mT))) (λs H C cl fp=>eE) (λs H C cl fp=>pC (ZO T) hr2 T.Lq T.CT (aa (pv 2) (aa (pv 3) ag)))) ag)))),?_⟩
 ·show cX ["program","needed_behind","instruction","bits"] (bp Jh) _ _;exact bk
 ·dsimp only[bI,Cx.bZ];have h256:=O.dk;have h64:=O.dH;refine⟨_,rfl,x,p,rfl,hX,O,λne N H0 hN lN hbit s0=>?_⟩;refine⟨_,rfl,ne,_,rfl,aj.of hN,λbf nQ=>?_⟩;have s1:=s0.trans (ae.new (o:=.lst (iZ (iw N) (some 1) none)) nQ);have ec:iZ (iw N) (some 1) none=iw (N.drop 1):=by
   rw[ZM _ (by rw[bJ];omega)];unfold iw;rw[List.map_drop]
  obtain⟨H1,f9⟩:∃H1,H1=upd H0 bf (.lst (iZ (iw N) (some 1) none)):=⟨_,rfl⟩;have hb:H1 bf=some (.lst (iw (N.drop 1))):=by rw[f9,au,ec]
  rw[<-f9]at s1;rw[<-f9];obtain⟨dx,li,ns,hx,⟨is,hli,cQ⟩,_⟩:=hX.same s1;have ln:is.length=p.code.length:=bt cQ;have ld:(N.drop 1).length=p.code.length:=by rw[zB];omega
  refine⟨_,rfl,x,_,dx,_,_,rfl,hx,T.eK,T.jU,mn _ _,_,rfl,li,bf,_,_,rfl,aj.of hli,aj.of hb,λD hD=>?_⟩;refine yH (λ_=>true) (λi y H=>∀o,(p.code.zipIdx.map λ(x:Ins×Nat)=>if Sz43.needless p.code x=true then none else some x.1)[i]? =some o->dW t H y o) hD (by rw[aI,aZ];omega) (aj.of hli) (aj.of hb) (by rw[aI,bJ];omega) (λi y H H' r k o ho=>dW.nl (r o ho) k) (λx y=>rfl) (λi y z H2 hi hj s2 A' B' hA hB=>?_) λys H2 s2 hL pr=>?_
  ·rw[bC]at hi;obtain⟨a,hai,rfl⟩:=cF.mp hi;have il:i<p.code.length:=by have:=(bN.mp hai).1;omega
   have hc:p.code[i]? =some p.code[i]:=aL il;have hI:=(cp (F:=λa i=>IA t H1 a i) cQ hai hc).nl s2.nl;have O':=O.good _ (br hc);have ez:z=.int (N.getD (i+1) 0:Int):=by
    rw[EG (by omega)]at hj;have e:(N.drop 1).getD i 0=N.getD (i+1) 0:=by rw[dy,dy,List.getElem?_drop,FC]
    rw[e]at hj;exact(b_ hj).symm
   subst ez;refine aD (B:=B' H2) ?_;refine⟨_,rfl,_,rfl,a,p.code[i],_,rfl,hI,λd hd=>by have:=O'.gv d hd;omega,λy H4 s4 hy=>hA rfl _ _ s4 λo ho=>?_⟩;rw[zip_get hc]at ho;cases ho;dsimp only;rw[YQ (b:=N.getD (i+1) 0) λv=>hbit (i+1) v];exact hy
  ·rw[kU,aI,ln,<-h_ p.code λ(x:Ins×Nat)=>if Sz43.needless p.code x=true then none else some x.1]at pr;refine⟨D,_,rfl,⟨ys,hL,kX pr⟩,by rw[h_];exact h256,λy hy u hu=>?_,λD' H3 s3 vv=>k D' H3 ((s1.trans s2).trans s3) vv⟩;rw[h_];obtain⟨i0,x0,hc0,ey⟩:=zj hy;dsimp only at ey;split at ey
   ·cases ey
   ·have ey:=b_ ey;rw[<-ey]at hu;exact(O.good x0 (br hc0)).tg u hu
theorem ZQ(i:Nat)(x:Ins):decide (kT x=V.int ((i+1:Nat):Int))=Sz43.leads (i+1) x:=by
 rw[gj,qL,Od,vm];cases tgt x with
 |none=>
  constructor
  ·intro e;cases e
  ·intro e;cases e
 |some u=>
  constructor
  ·intro e;injection e with e
   congr 1
   omega
  ·intro e;cases e;rfl
inductive PV(t:Ad)(vs:ε)(H:Hp)(Q:VK)(e0:XK):Prop
 |mk (x:Addr) (p:Sz43.Program):vs=[.ref x]->eV t H x p->PO p->(∀y H',ae H H'->eV t H' y ⟨p.vars,Sz43.once p.vars.length p.code⟩->Q (.ref y) H')->PV t vs H Q e0
theorem ZR(T:Txt K mg t):aE P w K mg base aM 8 t.kD t.Jz ["program"] (mz t (λ_=>True) (λ_ c=>Sz43.onward (Sz43.pruned (Sz43.straight c)))):=by
 refine T.xU.ko ["program","instructions","led","found","staying","instruction","place"] λH Q hr h nd=>?_
 obtain⟨x,p,rfl,hX,O,_,k⟩:=h;have hu:=ky hr;have ji:=hr.mono (show 5<=7 by decide);have iC:=hr.mono (show 4<=7 by decide);have hr2:=hr.mono (show 2<=7 by decide);refine⟨_,ak (aS 1 nd (aA (pv 0)))
  (ak (mZ (i:=2) (own:=[("instruction",5)]) rfl nd rfl rfl rfl (gO (pv 1)) ?b1 (λs H C cl fp=>bD 5 nd) (λs H C cl fp=>eE) (λs H C cl fp=>pC (Zy T) iC T.KY T.Cf (aa (pv 5) (aa (pv 1) ag))))
  (ak (aS 3 nd (pC (Zz T) hr2 T.KZ T.Cg (aa (pv 2) ag)))
  (ak (aS 4 nd (pC (vn T) ji T.rC T.pF (aa (iy (g:=jQ K 2 (eC (cW 6) (eC (cW 5) kl))) (own:=[("place",6),("instruction",5)]) rfl nd (AX rfl T.yj (aa (pv 2) ag)) ?b2 (λs H C cl fp=>mU rfl (fQ (bD 6 nd) (fQ (bD 5 nd) mT))) (λs H C cl fp=>eE) (λs H C cl fp=>gM (cG (wX hu (pv 6) (pv 3))) (pv 5) e_)) ag)))
  (aq (aC (pC (vn T) ji T.rC T.pF (aa (iy (g:=jQ K 2 (eC (cW 6) (eC (cW 5) kl))) (te:=z7 (oF (gQ Ag (oH K (dX 5) "place") (gQ (ik λi j=>.int (i+j)) (dX 6) (tC (.int 1))))) (tC .aw) (dX 5)) (own:=[("place",6),("instruction",5)]) rfl nd (AX rfl T.yj (aa (pv 4) ag)) ?b3 (λs H C cl fp=>mU rfl (fQ (bD 6 nd) (fQ (bD 5 nd) mT))) (λs H C cl fp=>eE) (λs H C cl fp=>gM (aQ bB (aA (pv 5)) (bG iq (pv 6) aF)) e_ (pv 5))) ag))))))),?_⟩
 ·show cX ["program","instructions","led","found","staying","instruction","place"] (bp xr) _ _;exact bk
 ·show cX ["program","instructions","led","found","staying","instruction","place"] (bp xr) _ _;exact bk
 ·show cX ["program","instructions","led","found","staying","instruction","place"] (bp xr) _ _;exact bk
 ·dsimp only[bI,Cx.bZ];have h256:=O.dk;have G:=O.good;obtain⟨dx,li,ns,hx,hLi,_⟩:=id hX;obtain⟨is,hli,cQ⟩:=id hLi;have ln:is.length=p.code.length:=bt cQ;refine⟨_,rfl,x,_,dx,_,_,rfl,hx,T.eK,T.jU,mn _ _,?_⟩;refine⟨_,rfl,li,rfl,⟨_,aj.of hli⟩,λD1 ET=>?_⟩;refine uE (xs:=is.map V.ref) (λ_=>true) (λi y H=>∀x,p.code[i]? =some x->∃a,y=.ref a/\IA t H a (sent (j9 p.code) x)) ET (by rw[aI,aZ];omega) (λH2 s2=>rl (aj.of (s2 _ _ hli))) (λi y H H' r k x hx=>by
   obtain⟨a,e,h⟩:=r x hx;exact⟨a,e,h.nl k⟩) (λx=>rfl) (λi y H2 hi s2 A' B' hA hB=>?_) λys H2 s2 hL pr=>?_
  ·rw[bC]at hi;obtain⟨a,hai,rfl⟩:=cF.mp hi;have il:i<p.code.length:=by have:=(bN.mp hai).1;omega
   have hc:p.code[i]? =some p.code[i]:=aL il;have hI:=(cp (F:=λa i=>IA t H a i) cQ hai hc).nl s2.nl;have O':=G _ (br hc);refine aD (B:=B' H2) ?_;refine⟨_,rfl,_,rfl,a,li,p.code[i],p.code,rfl,hI,hLi.same s2,G.kZ,O'.tg,h256,λb H4 s4 hb=>hA rfl _ _ s4 λx' hx'=>?_⟩;rw[hc]at hx';cases hx';exact⟨b,rfl,hb⟩
  rw[kU,aI,ln]at pr;obtain⟨EU,rfl,hi1⟩:=EA (F:=λa x=>IA t H2 a (sent (j9 p.code) x)) (kX pr);have mp:∀{is:θ}{c:List Ins},Paired (λa x=>IA t H2 a (sent (j9 p.code) x)) is c->Paired (λa i=>IA t H2 a i) is (c.map (sent (j9 p.code))):=by
   intro is c h
   induction h with
   |nil=>exact .nil
   |cons r _ ih=>exact .cons r ih
  have EV:g9 t H2 D1 (Sz43.straight p.code):=⟨EU,hL,mp hi1⟩;clear pr hi1 mp;obtain⟨G1,_⟩:=Oc G;obtain⟨c1,EW⟩:∃c1,c1=Sz43.straight p.code:=⟨_,rfl⟩;have lc1:c1.length=p.code.length:=by rw[EW];exact aI _
  rw[<-EW]at EV G1;refine⟨_,rfl,D1,c1,rfl,EV,G1.kZ,by omega,λfd S H3 hfd hS s3=>?_⟩;obtain⟨EU,PX,PY⟩:=EV.same s3;have pV:EU.length=c1.length:=bt PY;have s03:=s2.trans s3;refine⟨_,rfl,D1,_,rfl,aj.of PX,λD2 uw=>?_⟩;refine DD (λ_=>true) (λi y H=>∀o,(c1.zipIdx.map λ(x:Ins×Nat)=>if (Sz43.reached c1).contains x.2=true then some x.1 else none)[i]? =some o->dW t H y o) uw (by rw[aI,aZ];omega) (aj.of PX) (λi y H H' r k o ho=>dW.nl (r o ho) k) (λx y=>rfl) (λi y H4 hi s4 A' B' hA hB=>?_) λys H4 s4 EX pr=>?_
  ·rw[bC]at hi;obtain⟨a,hai,rfl⟩:=cF.mp hi;have il:i<c1.length:=by have:=(bN.mp hai).1;omega
   have hc:c1[i]? =some c1[i]:=aL il;have hI:=(cp (F:=λa i=>IA t H3 a i) PY hai hc).nl s4.nl;refine aD (B:=B' H4) ?_;refine⟨_,rfl,_,rfl,fd,_,rfl,dj.k (k:=Sum.inl (i:Int)) (s4 _ _ hfd),_,rfl,?_⟩;rw[vt];by_cases hm:i∈S
   ·rw[ah hm];refine aD ⟨_,rfl,hA rfl _ _ (ae.refl _) λo ho=>?_⟩;rw[zip_get hc]at ho;dsimp only at ho;rw[ah ((hS i il).mp hm)]at ho;cases ho;exact⟨a,rfl,hI⟩
   ·rw[af hm];refine az ?_;refine hA rfl _ _ (ae.refl _) λo ho=>?_
    rw[zip_get hc]at ho;dsimp only at ho;rw[af λz=>hm ((hS i il).mpr z)]at ho;cases ho;rfl
  rw[kU,aI,pV,<-h_ c1 λ(x:Ins×Nat)=>if (Sz43.reached c1).contains x.2=true then some x.1 else none]at pr;refine⟨D2,_,rfl,⟨ys,EX,kX pr⟩,by rw[h_];omega,λy hy u hu=>?_,λD3 H5 s5 zl=>?_⟩
  ·rw[h_];obtain⟨i0,x0,hc0,ey⟩:=zj hy;dsimp only at ey;split at ey
   ·have ey:=b_ ey;rw[<-ey]at hu;exact(G1 x0 (br hc0)).tg u hu
   ·cases ey
  have zl:g9 t H5 D3 (Sz43.pruned c1):=zl;obtain⟨G2,l2⟩:=Ob G1;obtain⟨c2,ec2⟩:∃c2,c2=Sz43.pruned c1:=⟨_,rfl⟩;rw[<-ec2]at zl G2 l2;have s05:=(s03.trans s4).trans s5;obtain⟨is2,PZ,P0⟩:=id zl;have ln2:is2.length=c2.length:=bt P0;have cl:=T.cI;refine⟨_,rfl,D3,_,rfl,aj.of PZ,λD4 hD4=>?_⟩;refine DD (λ_=>true) (λi y H=>∀o,(c2.zipIdx.map λ(x:Ins×Nat)=>if Sz43.leads (x.2+1) x.1=true then none else some x.1)[i]? =some o->dW t H y o) hD4 (by rw[aI,aZ];omega) (aj.of PZ) (λi y H H' r k o ho=>dW.nl (r o ho) k) (λx y=>rfl) (λi y H6 hi s6 A' B' hA hB=>?_) λys H6 s6 hL6 pr=>?_
  ·rw[bC]at hi;obtain⟨a,hai,rfl⟩:=cF.mp hi;have il:i<c2.length:=by have:=(bN.mp hai).1;omega
   have hc:c2[i]? =some c2[i]:=aL il;have hI:=(cp (F:=λa i=>IA t H5 a i) P0 hai hc).nl s6.nl;obtain⟨dx6,u6,op6,ha6,hu6,hop6⟩:=id hI;refine aD (B:=B' H6) ?_;have sc:wI (kT c2[i]) (V.int ((i+1:Nat):Int))=true:=by rw[vm];cases tgt c2[i]<;>rfl
   refine⟨_,rfl,a,_,dx6,_,_,rfl,ha6,cl,T.eJ,fX,_,rfl,_,_,rfl,rfl,sc,_,rfl,?_⟩;show if decide (kT c2[i]=V.int ((i+1:Nat):Int))=true then _ else _
   rw[ZQ];by_cases hm:Sz43.leads (i+1) c2[i]=true
   ·rw[hm];refine aD ?_;refine hA rfl _ _ (ae.refl _) λo ho=>?_
    rw[zip_get hc]at ho;dsimp only at ho;rw[ah hm]at ho;cases ho;rfl
   ·rw[oh]at hm;rw[hm];refine az ⟨_,rfl,hA rfl _ _ (ae.refl _) λo ho=>?_⟩;rw[zip_get hc]at ho;dsimp only at ho;rw[hm,af (by decide)]at ho;cases ho;exact⟨a,rfl,hI⟩
  rw[kU,aI,ln2,<-h_ c2 λ(x:Ins×Nat)=>if Sz43.leads (x.2+1) x.1=true then none else some x.1]at pr;refine⟨D4,_,rfl,⟨ys,hL6,kX pr⟩,by rw[h_];omega,λy hy u hu=>?_,λD5 H7 s7 hL7=>k D5 H7 ((s05.trans s6).trans s7) ?_⟩
  ·rw[h_];obtain⟨i0,x0,hc0,ey⟩:=zj hy;dsimp only at ey;split at ey
   ·cases ey
   ·have ey:=b_ ey;rw[<-ey]at hu;exact(G2 x0 (br hc0)).tg u hu
  ·show g9 t H7 D5 (Sz43.onward (Sz43.pruned (Sz43.straight p.code)));rw[<-EW,<-ec2];exact hL7
theorem ZS(T:Txt K mg t):aE P w K mg base aM 9 t.BL t.Ko ["program"] (PV t):=by
 refine T.CU.ko ["program","better"] λH Q hr h nd=>?_
 obtain⟨x,p,rfl,hX,O,k⟩:=h;have hr2:=hr.mono (show 2<=8 by decide);refine⟨_,ak (gP gn rfl (lT (fE (aa (iU (v:=.ref t.kF) rfl T.Ll rfl) (aa (iU (v:=.ref t.kG) rfl T.Lp rfl) (aa (iU (v:=.ref t.kH) rfl T.Lr rfl) (aa (iU (v:=.ref t.kD) rfl T.K1 rfl) ag)))))) (bD 1 nd)
   (aq (aS 0 nd (mW T.Dc (Np T) hr2 rfl T.C_ (ny T.ye) .nil dE (aa (xk (i:=1) (spT:=λf vs H Q=>(f=t.kF/\mz t (λ_=>True) Sz43.fold vs H Q E0)\/(f=t.kG/\mz t (λp=>∀j,j<p.code.length->F.gt (Sz43.facts p.code) j≠none) (λ_=>Sz43.share) vs H Q E0)\/(f=t.kH/\mz t (λ_=>True) (λ_=>Sz43.spare) vs H Q E0)\/(f=t.kD/\mz t (λ_=>True) (λ_ c=>Sz43.onward (Sz43.pruned (Sz43.straight c))) vs H Q E0)) (λf vs H Q h=>by
     rcases h with ⟨rfl,h⟩ |⟨rfl,h⟩ |⟨rfl,h⟩ |⟨rfl,h⟩
     ·exact⟨_,_,_,_,ZF T,hr,ni T.ya,h⟩
     ·exact⟨_,_,_,_,ZN T,hr,ni T.yb,h⟩
     ·exact⟨_,_,_,_,ZP T,hr,ni T.yc,h⟩
     ·exact⟨_,_,_,_,ZR T,hr,ni T.xU,h⟩) rfl (Or.inl rfl) (aa (pv 0) ag)) (aa (aA (pv 0)) ag))))))
  (aq (aC (pv 0))),?_⟩
 dsimp only[bI,Cx.bZ];have G0:=O.good;obtain⟨G1,l1⟩:=D8 vj (show aN 0 by unfold aN;omega) G0;obtain⟨G2,l2⟩:=N9 G1;obtain⟨G3,l3⟩:=Oa G2;have h256:=O.dk;have h64:=O.dH
 let cs:Nat->Sz43.Code:=λi=>match i with
  |0=>p.code
  |1=>Sz43.fold p.vars.length p.code
  |2=>Sz43.share (Sz43.fold p.vars.length p.code)
  |3=>Sz43.spare (Sz43.share (Sz43.fold p.vars.length p.code))
  |_=>Sz43.once p.vars.length p.code
 refine d5 ?_;refine⟨z4,λtp htp=>?_⟩;have s0:=ae.new (o:=.tup [.ref t.kF,.ref t.kG,.ref t.kH,.ref t.kD]) htp;refine⟨tp,rfl,⟨_,aV.of au⟩,Ab (K:=K) (a:=tp) (xs:=[.ref t.kF,.ref t.kG,.ref t.kH,.ref t.kD]) (λr σ Hh=>∃(y:Addr)(v1:Option V),σ=[χ y,v1]/\eV t Hh y ⟨p.vars,cs r⟩/\Hh tp=some (.tup [.ref t.kF,.ref t.kG,.ref t.kH,.ref t.kD])/\ae H Hh) ⟨x,none,rfl,hX.same s0,au,s0⟩ (λr σ Hh _ ⟨_,_,_,_,e,_⟩=>aV.of e) ?_ ?_⟩
 ·rintro r y σ Hh hy ⟨z,v1,rfl,hZ,ht,sm⟩
  have fin:∀(c':Sz43.Code)(li:Addr)(H1:Hp),cs (r+1)=c'->ae Hh H1->g9 t H1 li c'->∀(ns:Addr),pZ H1 ns p.vars->∀x' cY,H1 x'=none->H1 cY=none->cY≠x'->DI t [.ref x',.ref li,.ref ns] (upd (upd H1 cY (.own x')) x' (.ins t.l_ cY [])) (λv H3=>v=.aw/\∃(y':Addr)(v1:Option V),[some (V.ref x'),some y]=[χ y',v1]/\eV t H3 y' ⟨p.vars,cs (r+1)⟩/\H3 tp=some (.tup [.ref t.kF,.ref t.kG,.ref t.kH,.ref t.kD])/\ae H H3) E0:=by intro c' li H1 ec s1 hL ns hN x' cY nx cP iB;refine⟨x',cY,_,_,rfl,au,λH4 h1 h2=>⟨rfl,?_⟩⟩;have s4:=fG nx cP h2;exact⟨x',_,rfl,⟨cY,li,ns,h1,by rw[ec];exact hL.same s4,hN.same s4⟩,s4 _ _ (s1 _ _ ht),(sm.trans s1).trans s4⟩
  obtain⟨dz,lz,nz,hz,hLz,hNz⟩:=id hZ;have iC:r<4:=(bN.mp hy).1
  match r,iC,hy with
  |0,_,hy=>
   have hy:V.ref t.kF=y:=by simpa using hy
   subst hy;refine⟨_,rfl,T.ya.kp,_,rfl,.inl ⟨rfl,z,⟨p.vars,cs 0⟩,rfl,hZ,⟨G0,h256,h64⟩,trivial,λli H1 s1 hL=>?_⟩⟩;exact⟨_,rfl,z,_,dz,_,_,rfl,s1 _ _ hz,T.eK,T.kJ,nH _ _,fin _ li H1 rfl s1 hL nz (hNz.same s1)⟩
  |1,_,hy=>
   have hy:V.ref t.kG=y:=by simpa using hy
   subst hy;refine⟨_,rfl,T.yb.kp,_,rfl,.inr (.inl ⟨rfl,z,⟨p.vars,cs 1⟩,rfl,hZ,⟨G1,bE l1 h256,h64⟩,λj hj=>YN vj (show aN 0 by unfold aN;omega) G0 j hj,λli H1 s1 hL=>?_⟩)⟩;exact⟨_,rfl,z,_,dz,_,_,rfl,s1 _ _ hz,T.eK,T.kJ,nH _ _,fin _ li H1 rfl s1 hL nz (hNz.same s1)⟩
  |2,_,hy=>
   have hy:V.ref t.kH=y:=by simpa using hy
   subst hy;refine⟨_,rfl,T.yc.kp,_,rfl,.inr (.inr (.inl ⟨rfl,z,⟨p.vars,cs 2⟩,rfl,hZ,⟨G2,bE l2 (bE l1 h256),h64⟩,trivial,λli H1 s1 hL=>?_⟩))⟩;exact⟨_,rfl,z,_,dz,_,_,rfl,s1 _ _ hz,T.eK,T.kJ,nH _ _,fin _ li H1 rfl s1 hL nz (hNz.same s1)⟩
  |3,_,hy=>
   have hy:V.ref t.kD=y:=by simpa using hy
   subst hy;refine⟨_,rfl,T.xU.kp,_,rfl,.inr (.inr (.inr ⟨rfl,z,⟨p.vars,cs 3⟩,rfl,hZ,⟨G3,bE l3 (bE l2 (bE l1 h256)),h64⟩,trivial,λli H1 s1 hL=>?_⟩))⟩;exact⟨_,rfl,z,_,dz,_,_,rfl,s1 _ _ hz,T.eK,T.kJ,nH _ _,fin _ li H1 rfl s1 hL nz (hNz.same s1)⟩
 ·rintro σ Hh ⟨z,v1,rfl,hZ,ht,sm⟩
  exact⟨_,rfl,k z Hh sm hZ⟩
theorem P1(n:Nat):(Nat.repr n).toList.map Char.toNat=eZ n:=by unfold Nat.repr;rw[String.toList_ofList];exact Og n
theorem EY(z:Int):(Str.ofString (toString z)).cps.toList=Sz43.decimal z:=by
 rw[Str.ofString_eq_toList,rZ];show((toString z).toList.map Char.toNat)=_;cases z with
 |ofNat n=>rw[af (by show ¬((n:Int)<0);omega)];exact P1 n
 |negSucc n=>rw[ah (Int.negSucc_lt_zero n)];show(("-" ++Nat.repr (n+1)).toList.map Char.toNat)=_;rw[String.toList_append,dA,P1];rfl
theorem P2:∀(k n:Nat),n<10^(k+1)->(eZ n).length<=k+1
 |0,n,h=>by rw[rY (by simpa using h)];exact aJ _
 |k+1,n,h=>by
  by_cases h1:n<10
  ·rw[rY h1];show 1<=_;omega
  ·have ih:=P2 k (n/10) (by rw[Nat.pow_succ]at h;omega);rw[uV h1,a8,cE];omega
theorem EZ{z:Int}(h:aN z):(Sz43.decimal z).length<=20:=by
 rw[rZ];unfold aN at h;have h1:=P2 18 z.natAbs (by
  have:(10:Nat)^(18+1)=10000000000000000000:=by decide
  rw[this];omega)
 split
 ·rw[bT];omega
 ·omega
def E1(vs:ξ)(i:Ins):List (List Nat):=(usesOf i).map (vM vs)
def vx(vs:ξ):Ins->List (List Nat)
 | .num _ z=>[Sz43.decimal z]
 | .read _=>[ascii "read"]
 | .copy _ a=>[vM vs a]
 | .op k _ a b=>[vM vs a,Sz43.ops.getD k [],vM vs b]
 |_=>[]
inductive E2(t:Ad)(vs:ξ)(ps:ε)(H:Hp)(Q:VK)(e0:XK):Prop
 |mk (a us:Addr) (i:Ins):ps=[.ref a,.ref us]->IA t H a i->b9 H us (E1 vs i)->(givesOf i).isSome=true->((∀d z,i=.num d z->aN z))->(∀b H',ae H H'->b9 H' b (vx vs i)->Q (.ref b) H')->E2 t vs ps H Q e0
def ql(H:Hp)(lb:Addr)(c:Sz43.Code):Prop:=∃kvs:List (Key×V),H lb=some (.dK kvs)/\∀u:Nat,(∃q,u∈targets c/\bR kvs (Sum.inl (u:Int))=some (.ref q)/\H q=some (.tup (iw (lM c u))))\/(u ∉ targets c/\bR kvs (Sum.inl (u:Int))=none)
theorem ql.same{H H':Hp}{lb:Addr}{c:Sz43.Code}(h:ql H lb c)(s:ae H H'):ql H' lb c:=by
 obtain⟨kvs,h1,h2⟩:=h;refine⟨kvs,s _ _ h1,λu=>?_⟩;rcases h2 u with ⟨q,a,b,c⟩ |h
 ·exact .inl ⟨q,a,b,s _ _ c⟩
 ·exact .inr h
inductive P4(t:Ad)(vs:ξ)(c:Sz43.Code)(ps:ε)(H:Hp)(Q:VK)(e0:XK):Prop
 |mk (a ns lb:Addr) (i:Ins):ps=[.ref a,.ref ns,.ref lb]->IA t H a i->pZ H ns vs->ql H lb c->i∈c->GoodC aN vs.length c->(∀b H',ae H H'->H b=none->b9 H' b (a9 (vM vs) (lM c) i)->Q (.ref b) H')->P4 t vs c ps H Q e0
inductive su(t:Ad)(ps:ε)(H:Hp)(Q:VK)(e0:XK):Prop
 |mk (li:Addr) (c:Sz43.Code) (n:Nat):ps=[.ref li]->g9 t H li c->GoodC aN n c->c.length<=256->(∀lb H',ae H H'->ql H' lb c->Q (.ref lb) H')->su t ps H Q e0
inductive P5(t:Ad)(ps:ε)(H:Hp)(Q:VK)(e0:XK):Prop
 |mk (x:Addr) (p:Sz43.Program):ps=[.ref x]->eV t H x p->PO p->(∀b qs H',ae H H'->H b=none->(∀q∈qs,H q=none)->H' b=some (.lst (qs.map V.ref))->Paired (λq ws=>b9 H' q ws) qs (gF p.vars p.code)->Q (.ref b) H')->P5 t ps H Q e0
inductive P6(ps:ε)(H:Hp)(Q:VK)(e0:XK):Prop
 |mk (q:Addr) (ws:ξ):ps=[.ref q]->b9 H q ws->ws≠[]->(c6 ws).length<=1000->(∀b H',ae H H'->H b=none->H' b=some (.lst (iw (c6 ws)))->Q (.ref b) H')->P6 ps H Q e0
inductive P7(t:Ad)(ps:ε)(H:Hp)(Q:VK)(e0:XK):Prop
 |mk (x:Addr) (p:Sz43.Program):ps=[.ref x]->eV t H x p->PO p->fK p.vars->(∀b H',ae H H'->H' b=some (.lst (iw p.text))->p.text.length<=1000000->Q (.ref b) H')->P7 t ps H Q e0
theorem b9.same{H H':Hp}{q:Addr}{ws:ξ}(h:b9 H q ws)(s:ae H H'):b9 H' q ws:=h.mono (λ_ _ e=>s _ _ e) λ_ e=>s _ _ e
theorem vy{H:Hp}{rs:θ}{ws:ξ}(h:i7 H rs ws){i:Nat}{x:ψ}(hi:ws[i]? =some x):∃p,(rs.map V.ref)[i]? =some (.ref p)/\H p=some (.tup (iw x)):=by
 have l:rs.length=ws.length:=bt h;have il:i<rs.length:=by have:=(bN.mp hi).1;omega
 exact⟨rs[i],by rw[bC,aL il];rfl,cp (F:=λp w=>H p=some (.tup (iw w))) h (aL il) hi⟩
def dw(ws:ξ):List Nat:=ws.flatMap λw=>w++[32]
theorem zm:∀{ws:ξ},ws≠[]->dw ws=List.intercalate [32] ws++[32]
 |[],h=>absurd rfl h
 |[w],_=>by simp[dw,List.intercalate,List.intersperse]
 |w::u::ws,_=>by
  have ih:=zm (ws:=u::ws) (by simp);have e:List.intercalate [32] (w::u::ws)=w++32::List.intercalate [32] (u::ws):=by simp[List.intercalate,List.intersperse]
  have e2:dw (w::u::ws)=(w++[32])++dw (u::ws):=rfl;rw[e2,ih,e];simp
theorem ZT{ws:ξ}(h:ws≠[]):(dw ws).set ((dw ws).length-1) 10=c6 ws:=by rw[zm h];unfold c6;rw[a8,cE,F4,List.set_append_right _ _ (aJ _),Nat.sub_self];rfl
theorem P8{ws:ξ}(h:ws≠[]):(dw ws).length=(c6 ws).length:=by rw[zm h];unfold c6;rw[a8,a8];rfl
theorem ZU(T:Txt K mg t)(vs:ξ):aE P w K mg base aM 2 t.BB t.J_ ["instruction","used"] (E2 t vs):=by
 refine T.CJ.ko ["instruction","used"] λH Q hr h nd=>?_
 obtain⟨a,us,i,rfl,hI,hU,hg,hz,k⟩:=h;refine⟨_,ak (aP (aQ bB (aA (pv 0)) bq) (aq (aC (bV (aa (pC (fF T) hr T.fe T.eF (aa (lW SF rfl T.Ml rfl (aa (aA (pv 0)) ag)) ag)) ag)))) aR) (ak (aP (aQ bB (aA (pv 0)) bq) (aq (aC (bV (aa (pC (fF T) hr T.fe T.eF (aa bq ag)) ag)))) aR) (ak (aP (aQ bB (aA (pv 0)) bq) (aq (aC (pv 1))) aR) (aq (aC (bV (aa (aU bc (pv 1) aF) (aa (aA (pv 0)) (aa (aU bc (pv 1) aF) ag)))))))),?_⟩
 obtain⟨dx,u,op,ha,hu,hop⟩:=id hI;have cl:=T.cI;obtain⟨rs,hrs,hw⟩:=id hU;refine⟨_,rfl,a,_,dx,_,_,rfl,ha,cl,T.be,bo,rfl,_,rfl,?_⟩;cases i with
 |num d z=>
  refine aD ?_;have fS:=hz d z rfl;have sz:=EZ fS;refine⟨_,rfl,a,_,dx,_,_,rfl,ha,cl,T.ue,Dt,z,rfl,?_,Str.ofString (toString z),rfl,?_,λp H1 s1 hp eH=>?_⟩
  ·unfold aN at fS;by_cases h0:z.natAbs=0
   ·rw[h0]
    decide
   ·exact(Nat.log2_lt h0).mpr (qI (show z.natAbs<=9223372036854775808 by omega) (by decide+kernel))
  ·rw[<-gI,EY];omega
  rw[EY]at eH;refine⟨z1,λb hb=>k b _ (s1.trans (ae.new hb)) ⟨[p],au,.cons (ae.new hb _ _ eH) .nil⟩⟩
 |read d=>refine az ⟨_,rfl,a,_,dx,_,_,rfl,ha,cl,T.be,bo,rfl,_,rfl,?_⟩;refine aD ⟨"read",rfl,by decide,λp H1 s1 hp eH=>?_⟩;have eH:H1 p=some (.tup (iw (ascii "read"))):=eH;exact⟨z1,λb hb=>k b _ (s1.trans (ae.new hb)) ⟨[p],au,.cons (ae.new hb _ _ eH) .nil⟩⟩
 |copy d v=>refine az ⟨_,rfl,a,_,dx,_,_,rfl,ha,cl,T.be,bo,rfl,_,rfl,?_⟩;refine az ⟨_,rfl,a,_,dx,_,_,rfl,ha,cl,T.be,bo,rfl,_,rfl,?_⟩;exact aD ⟨_,rfl,k us H (ae.refl H) hU⟩
 |op n d v v'=>refine az ⟨_,rfl,a,_,dx,_,_,rfl,ha,cl,T.be,bo,rfl,_,rfl,?_⟩;refine az ⟨_,rfl,a,_,dx,_,_,rfl,ha,cl,T.be,bo,rfl,_,rfl,?_⟩;refine az ?_;obtain⟨h12,q,rfl,hq⟩:=hop;obtain⟨p0,i0,e0⟩:=vy hw (i:=0) rfl;obtain⟨p1,i1,e1⟩:=vy hw (i:=1) rfl;refine⟨_,rfl,us,_,_,_,rfl,rfl,aj.of hrs,aY (j:=0) i0,_,rfl,a,_,dx,_,_,rfl,ha,cl,T.me,pR,_,rfl,us,_,_,_,rfl,rfl,aj.of hrs,aY (j:=1) i1,z3,λb hb=>?_⟩;have s1:=ae.new (o:=.lst [.ref p0,.ref q,.ref p1]) hb;exact k b _ s1 ⟨[p0,q,p1],au,.cons (s1 _ _ e0) (.cons (s1 _ _ hq) (.cons (s1 _ _ e1) .nil))⟩
 |_=>cases hg
theorem ZV(T:Txt K mg t)(vs:ξ)(c:Sz43.Code):aE P w K mg base aM 3 t.BA t.J9 ["instruction","names","labels"] (P4 t vs c):=by
 refine T.x8.ko ["instruction","names","labels","used","variable"] λH Q hr h nd=>?_
 obtain⟨a,ns,lb,i,rfl,hI,⟨qs,hns,hqs⟩,hL,hi,G,k⟩:=h;have hu:=ky hr;have hr1:=hr.mono (show 1<=2 by decide);refine⟨_,ak (mZ (i:=3) (own:=[("variable",4)]) rfl nd rfl rfl rfl (lT (aA (pv 0))) ?b1 (λs H C cl fp=>bD 4 nd) (λs H C cl fp=>eE) (λs H C cl fp=>aU (r:=oM K) bc (pv 1) (pv 4) (λ_ _=>rfl)))
  (ak (aP (aQ bB (aA (pv 0)) bq) (aq (aC (bV (aa (pC (fF T) hr1 T.fe T.eF (aa bq ag)) (aa (tQ hu (pv 2) (aA (pv 0)) (λ_ _=>rfl)) ag))))) aR)
  (ak (aP (aQ bB (aA (pv 0)) bq) (aq (aC (bV (aa (pC (fF T) hr1 T.fe T.eF (aa bq ag)) (aa (aU bc (pv 3) aF) (aa (pC (fF T) hr1 T.fe T.eF (aa bq ag)) (aa (tQ hu (pv 2) (aA (pv 0)) (λ_ _=>rfl)) ag))))))) aR)
  (ak (aP (cG (ig (aA (pv 0)))) (aq (aC (bG tI (bV (aa (pC (fF T) hr1 T.fe T.eF (aa (aA (pv 0)) ag)) ag)) (pv 3)))) aR)
  (aq (aC (bG tI (bV (aa (aU bc (pv 1) (aA (pv 0))) (aa (pC (fF T) hr1 T.fe T.eF (aa bq ag)) ag))) (pC (ZU T vs) hr T.Le T.CJ (aa (pv 0) (aa (pv 3) ag))))))))),?_⟩
 ·show cX ["instruction","names","labels","used","variable"] (bp Jd) _ _;exact bk
 ·dsimp only[bI,Cx.bZ];obtain⟨dx,u,op,ha,d7,hop⟩:=id hI;have cl:=T.cI;have O:=G i hi;have d7:H u=some (.tup (iw (usesOf i))):=d7;have l2:(usesOf i).length<=2:=by cases i<;>simp[usesOf]
  have lq:qs.length=vs.length:=bt hqs;have nm:∀d,d<vs.length->∃q,(qs.map V.ref)[d]? =some (.ref q)/\H q=some (.tup (iw (vM vs d))):=λd hd=>by refine vy hqs ?_;unfold vM;rw[dy,aL hd];rfl
  refine⟨_,rfl,a,_,dx,_,_,rfl,ha,cl,T.dR,eO,u,rfl,⟨_,aV.of d7⟩,λD hD=>?_⟩;refine uE (xs:=iw (usesOf i)) (λ_=>true) (λj y H=>∀v,(usesOf i)[j]? =some v->∃q,y=.ref q/\H q=some (.tup (iw (vM vs v)))) hD (by rw[bJ,aZ];omega) (λH2 s2=>rj (s2.oY (aV.of d7))) (λj y H H' r k v hv=>by obtain⟨q,e,h⟩:=r v hv;exact⟨q,e,k _ _ h (by intro z e;cases e)⟩) (λx=>rfl) (λj y H2 hj s2 A' B' hA hB=>?_) λys H2 s2 hY pr=>?_
  ·obtain⟨v,hv,rfl⟩:=kL hj;obtain⟨q,hq,eq⟩:=nm v (O.us v (br hv));refine aD (B:=B' H2) ?_;refine⟨_,rfl,_,rfl,ns,_,_,_,rfl,rfl,aj.of (s2 _ _ hns),aY hq,hA rfl _ _ (ae.refl _) λv' hv'=>?_⟩;rw[hv]at hv';cases hv';exact⟨q,rfl,s2 _ _ eq⟩
  rw[kU,bJ]at pr;obtain⟨rs,rfl,hrs⟩:=EA (F:=λq v=>H2 q=some (.tup (iw (vM vs v)))) (kX pr);have hU:b9 H2 D (E1 vs i):=by
   refine⟨rs,hY,?_⟩;unfold E1;clear pr hY;have mp:∀{rs:θ}{us:ψ},Paired (λq v=>H2 q=some (.tup (iw (vM vs v)))) rs us->i7 H2 rs (us.map (vM vs)):=by
    intro rs us h
    induction h with
    |nil=>exact .nil
    |cons r _ ih=>exact .cons r ih
   exact mp hrs
  clear pr hrs;obtain⟨rs,hrs,hw⟩:=id hU;have hI2:=hI.nl s2.nl;have ha2:=s2 _ _ ha;have hL2:=hL.same s2;have cU:∀(H3:Hp)(v:Nat),ae H2 H3->tgt i=some v->∃q,dj H3 lb (.int (v:Int)) (some (.ref q))/\H3 q=some (.tup (iw (lM c v))):=λH3 v s3 hv=>by
   obtain⟨kvs,h1,h2⟩:=hL2.same s3;have tt:v∈targets c:=uU.mpr ⟨O.tg v hv,D_.mpr ⟨i,hi,hv⟩⟩;rcases h2 v with ⟨q,_,e1,e2⟩ |⟨h,_⟩
   ·refine⟨q,?_,e2⟩;rw[<-e1];exact dj.k (k:=Sum.inl (v:Int)) h1
   ·exact absurd tt h
  refine⟨_,rfl,a,_,dx,_,_,rfl,ha2,cl,T.be,bo,rfl,_,rfl,?_⟩;have mB:∀d,givesOf i=some d->a9 (vM vs) (lM c) i=[vM vs d,ascii "="]++vx vs i->
    (Gf (gQ Ay (GP (kn (gQ (oM K) (dX 1) (oH K (dX 0) "given")) (kn (qX ym [] E0 (kn (tC (.str "=")) km)) km))) (qX (E2 t vs) [] E0 (kn (dX 0) (kn (dX 3) km))))) {nx:=λ_ H'=>Q .aw H',rt:=Q} [χ a,χ ns,χ lb,χ D,none] H2:=λd hg ew=>by
   have eg:df i=.int (d:Int):=by unfold df;rw[hg]
   obtain⟨q,hq,eq⟩:=nm d (O.gv d hg);refine⟨_,rfl,_,rfl,a,_,dx,_,_,rfl,ha2,cl,T.cA,cO,ns,_,_,_,rfl,eg,aj.of (s2 _ _ hns),aY hq,"=",rfl,by decide,λp H3 s3 hp eH=>?_⟩;have eH:H3 p=some (.tup (iw (ascii "="))):=eH;refine⟨z2,λb hb=>?_⟩;have s4:=ae.new (o:=.lst [.ref q,.ref p]) hb;refine⟨_,rfl,_,rfl,a,D,i,rfl,(hI2.nl s3.nl).nl s4.nl,(hU.same s3).same s4,by rw[hg];rfl,O.nm,λb2 H5 s5 hb5=>?_⟩;obtain⟨E3,h51,h52⟩:=hb5;have l5:E3.length=(vx vs i).length:=bt h52;have l3:(vx vs i).length<=3:=by cases i<;>simp[vx]
   refine⟨b,b2,_,_,rfl,rfl,s5 _ _ au,h51,(by rw[aI,aZ];show 2+_<=_;omega),λb3 nU=>?_⟩;have s6:=ae.new (o:=.lst ([.ref q,.ref p]++E3.map V.ref)) nU;refine k b3 _ ((((s2.trans s3).trans s4).trans s5).trans s6) ((((s2.trans s3).trans s4).trans s5).free nU) ?_;rw[ew];refine⟨q::p::E3,au,.cons (s6 _ _ (s5 _ _ (s4 _ _ (s3 _ _ (s2 _ _ eq))))) (.cons (s6 _ _ (s5 _ _ (s4 _ _ eH))) (Paired.cR h52 λ_ _ e=>s6 _ _ e))⟩
  cases i with
  |goto v=>refine aD ⟨"goto",rfl,by decide,λp H3 s3 hp eH=>?_⟩;have eH:H3 p=some (.tup (iw (ascii "goto"))):=eH;obtain⟨q,g1,g2⟩:=cU H3 v s3 rfl;refine⟨_,rfl,_,rfl,a,_,dx,_,_,rfl,s3 _ _ ha2,cl,T.eJ,fX,lb,_,rfl,g1,z2,λb hb=>?_⟩;have s4:=ae.new (o:=.lst [.ref p,.ref q]) hb;exact k b _ ((s2.trans s3).trans s4) ((s2.trans s3).free hb) ⟨[p,q],au,.cons (s4 _ _ eH) (.cons (s4 _ _ g2) .nil)⟩
  |cond v u'=>refine az ⟨_,rfl,a,_,dx,_,_,rfl,ha2,cl,T.be,bo,rfl,_,rfl,?_⟩;refine aD ⟨"if",rfl,by decide,λp H3 s3 hp eH=>?_⟩;have eH:H3 p=some (.tup (iw (ascii "if"))):=eH;obtain⟨p0,i0,e0⟩:=vy hw (i:=0) rfl;refine⟨_,rfl,D,_,_,_,rfl,rfl,aj.of (s3 _ _ hrs),aY (j:=0) i0,"goto",rfl,by decide,λp' H4 s4 hp' E4=>?_⟩;have E4:H4 p'=some (.tup (iw (ascii "goto"))):=E4;obtain⟨q,g1,g2⟩:=cU H4 u' (s3.trans s4) rfl;refine⟨_,rfl,_,rfl,a,_,dx,_,_,rfl,s4 _ _ (s3 _ _ ha2),cl,T.eJ,fX,lb,_,rfl,g1,z4,λb hb=>?_⟩;have s5:=ae.new (o:=.lst [.ref p,.ref p0,.ref p',.ref q]) hb;exact k b _ (((s2.trans s3).trans s4).trans s5) (((s2.trans s3).trans s4).free hb) ⟨[p,p0,p',q],au,.cons (s5 _ _ (s4 _ _ eH)) (.cons (s5 _ _ (s4 _ _ (s3 _ _ e0))) (.cons (s5 _ _ E4) (.cons (s5 _ _ g2) .nil)))⟩
  |print v=>refine az ⟨_,rfl,a,_,dx,_,_,rfl,ha2,cl,T.be,bo,rfl,_,rfl,?_⟩;refine az ⟨_,rfl,a,_,dx,_,_,rfl,ha2,cl,T.cA,cO,_,rfl,?_⟩;refine aD ⟨_,rfl,a,_,dx,_,_,rfl,ha2,cl,T.be,bo,"print",rfl,by decide,λp H3 s3 hp eH=>?_⟩;have eH:H3 p=some (.tup (iw (ascii "print"))):=eH;obtain⟨p0,i0,e0⟩:=vy hw (i:=0) rfl;refine⟨z1,λb hb=>?_⟩;have s4:=ae.new (o:=.lst [.ref p]) hb;have lr:rs.length=1:=bt hw;refine⟨_,rfl,b,D,_,_,rfl,rfl,au,s4 _ _ (s3 _ _ hrs),(by rw[aI,lr,aZ];show 1+1<=_;omega),λb3 nU=>?_⟩;have s6:=ae.new (o:=.lst ([.ref p]++rs.map V.ref)) nU;exact k b3 _ (((s2.trans s3).trans s4).trans s6) (((s2.trans s3).trans s4).free nU) ⟨p::rs,au,.cons (s6 _ _ (s4 _ _ eH)) (Paired.cR hw λ_ _ e=>s6 _ _ (s4 _ _ (s3 _ _ e)))⟩
  |stop=>refine az ⟨_,rfl,a,_,dx,_,_,rfl,ha2,cl,T.be,bo,rfl,_,rfl,?_⟩;refine az ⟨_,rfl,a,_,dx,_,_,rfl,ha2,cl,T.cA,cO,_,rfl,?_⟩;refine aD ⟨_,rfl,a,_,dx,_,_,rfl,ha2,cl,T.be,bo,"end",rfl,by decide,λp H3 s3 hp eH=>?_⟩;have eH:H3 p=some (.tup (iw (ascii "end"))):=eH;refine⟨z1,λb hb=>?_⟩;have s4:=ae.new (o:=.lst [.ref p]) hb;have lr:rs.length=0:=bt hw;refine⟨_,rfl,b,D,_,_,rfl,rfl,au,s4 _ _ (s3 _ _ hrs),(by rw[aI,lr,aZ];show 1+0<=_;omega),λb3 nU=>?_⟩;have s6:=ae.new (o:=.lst ([.ref p]++rs.map V.ref)) nU;exact k b3 _ (((s2.trans s3).trans s4).trans s6) (((s2.trans s3).trans s4).free nU) ⟨p::rs,au,.cons (s6 _ _ (s4 _ _ eH)) (Paired.cR hw λ_ _ e=>s6 _ _ (s4 _ _ (s3 _ _ e)))⟩
  |num d z=>refine az ⟨_,rfl,a,_,dx,_,_,rfl,ha2,cl,T.be,bo,rfl,_,rfl,?_⟩;refine az ⟨_,rfl,a,_,dx,_,_,rfl,ha2,cl,T.cA,cO,_,rfl,?_⟩;exact az (mB d rfl rfl)
  |copy d z=>refine az ⟨_,rfl,a,_,dx,_,_,rfl,ha2,cl,T.be,bo,rfl,_,rfl,?_⟩;refine az ⟨_,rfl,a,_,dx,_,_,rfl,ha2,cl,T.cA,cO,_,rfl,?_⟩;exact az (mB d rfl rfl)
  |op n d z z'=>refine az ⟨_,rfl,a,_,dx,_,_,rfl,ha2,cl,T.be,bo,rfl,_,rfl,?_⟩;refine az ⟨_,rfl,a,_,dx,_,_,rfl,ha2,cl,T.cA,cO,_,rfl,?_⟩;exact az (mB d rfl rfl)
  |read d=>refine az ⟨_,rfl,a,_,dx,_,_,rfl,ha2,cl,T.be,bo,rfl,_,rfl,?_⟩;refine az ⟨_,rfl,a,_,dx,_,_,rfl,ha2,cl,T.cA,cO,_,rfl,?_⟩;exact az (mB d rfl rfl)
theorem ZW{w:ψ}(h:isName w=true):w.length<=16:=by unfold isName at h;simp only[fM,qL]at h;exact h.1
def zy(ws:ξ):Prop:=ws≠[]/\ws.length<=5/\∀w∈ws,w.length<=21
theorem P9{ws:ξ}(h:zy ws):(c6 ws).length<=110:=by
 rw[<-P8 h.1];have gen:∀ws:List (List Nat),(∀w∈ws,w.length<=21)->(dw ws).length<=22*ws.length:=by
  intro ws
  induction ws with
  |nil=>intro _;exact aJ _
  |cons w ws ih=>
   intro h;have h1:=h w (by simp);have h2:=ih λx hx=>h x (bM _ hx)
   show((w++[32])++dw ws).length<=_;rw[a8,a8,cE,bT];omega
 have:=gen ws h.2.2;have:=h.2.1;omega
theorem E5{c:Sz43.Code}(h:c.length<=256)(u:Nat):(lM c u).length<=21:=by
 unfold lM;rw[bT];have ht:(targets c).length<=257:=by unfold targets;refine bE (v_ _ _) ?_;rw[gJ];omega
 have hi:((targets c).findIdx? λx=>x==u).getD 0<=257:=by
  cases e:(targets c).findIdx? λx=>x==u with
  |none=>exact bS _
  |some a=>have:=(mM.mp e).1;show a<=257;omega
 have:=EZ (z:=((((targets c).findIdx? λx=>x==u).getD 0:Nat):Int)) (by unfold aN;omega);omega
theorem ZX{vs:ξ}{c:Sz43.Code}(N:fK vs)(G:GoodC aN vs.length c)(h:c.length<=256){i:Ins}(hi:i∈c):zy (a9 (vM vs) (lM c) i):=by
 have O:=G i hi;have pv:∀d,d<vs.length->(vM vs d).length<=21:=λd hd=>bE (ZW (u_ N hd)) (by decide)
 have fx:∀w∈([ascii "=",ascii "read",ascii "print",ascii "goto",ascii "if",ascii "end"]:List (List Nat)),w.length<=21:=by decide
 have ho:∀k,k<12->(Sz43.ops.getD k []).length<=21:=by decide
 have ls:=E5 h;refine⟨by cases i<;>simp[a9],by cases i<;>simp[a9],λw hw=>?_⟩;cases i with
 |num d z=>
  simp only[a9,aX,dB,dC]at hw;rcases hw with e |e |e<;>subst e
  ·exact pv d (O.gv d rfl)
  ·exact fx _ (by simp)
  ·exact bE (EZ (O.nm d z rfl)) (by decide)
 |copy d a=>
  simp only[a9,aX,dB,dC]at hw;rcases hw with e |e |e<;>subst e
  ·exact pv d (O.gv d rfl)
  ·exact fx _ (by simp)
  ·exact pv a (O.us a (by simp[usesOf]))
 |op k d a b=>
  simp only[a9,aX,dB,dC]at hw;rcases hw with e |e |e |e |e<;>subst e
  ·exact pv d (O.gv d rfl)
  ·exact fx _ (by simp)
  ·exact pv a (O.us a (by simp[usesOf]))
  ·exact ho k (O.op k d a b rfl)
  ·exact pv b (O.us b (by simp[usesOf]))
 |read d=>
  simp only[a9,aX,dB,dC]at hw;rcases hw with e |e |e<;>subst e
  ·exact pv d (O.gv d rfl)
  ·exact fx _ (by simp)
  ·exact fx _ (by simp)
 |print a=>
  simp only[a9,aX,dB,dC]at hw;rcases hw with e |e<;>subst e
  ·exact fx _ (by simp)
  ·exact pv a (O.us a (by simp[usesOf]))
 |goto u=>
  simp only[a9,aX,dB,dC]at hw;rcases hw with e |e<;>subst e
  ·exact fx _ (by simp)
  ·exact ls u
 |cond a u=>
  simp only[a9,aX,dB,dC]at hw;rcases hw with e |e |e |e<;>subst e
  ·exact fx _ (by simp)
  ·exact pv a (O.us a (by simp[usesOf]))
  ·exact fx _ (by simp)
  ·exact ls u
 |stop=>simp only[a9,aX,dB,dC]at hw;subst hw;exact fx _ (by simp)
theorem ZY{vs:ξ}{c:Sz43.Code}(N:fK vs)(G:GoodC aN vs.length c)(h:c.length<=256):∀ws∈gF vs c,zy ws:=by
 intro ws hw;obtain⟨i,_,hw⟩:=zP.mp hw;rcases bL.mp hw with k |k
 ·split at k
  ·have:ws=[ascii "label",lM c i]:=by simpa using k
   subst this;refine⟨by simp,by simp,λw hw=>?_⟩;simp only[aX,dB,dC]at hw;rcases hw with e |e<;>subst e
   ·decide
   ·exact E5 h i
  ·exact nomatch k
 ·unfold d8 at k;cases hx:c[i]? with
  |none=>rw[hx]at k;exact nomatch k
  |some x=>
   rw[hx]at k;have:ws=a9 (vM vs) (lM c) x:=by simpa using k
   subst this;exact ZX N G h (br hx)
theorem P_(vs:ξ)(c:Sz43.Code)(i:Nat):(fJ vs c i).length<=2:=by
 unfold fJ d8;rw[a8];have h1:(if (targets c).contains i=true then [[ascii "label",lM c i]]else []).length<=1:=by split<;>simp
 have h2:(((c[i]?).map λx=>[a9 (vM vs) (lM c) x]).getD []).length<=1:=by cases c[i]? <;>simp
 omega
theorem ZZ(vs:ξ)(c:Sz43.Code):(gF vs c).length<=2*(c.length+1):=by
 have gen:∀l:List Nat,(l.flatMap (fJ vs c)).length<=2*l.length:=by
  intro l
  induction l with
  |nil=>exact aJ _
  |cons i l ih=>have:=P_ vs c i;rw[om,a8,bT];omega
 have:=gen (List.range (c.length+1))
 rwa [gJ]at this
theorem Qa:∀{L:List (List (List Nat))},(∀ws∈L,zy ws)->(L.flatMap c6).length<=110*L.length
 |[],_=>aJ _
 |ws::L,h=>by
  have h1:=P9 (h ws (by simp));have h2:=Qa (L:=L) λx hx=>h x (bM _ hx)
  rw[om,a8,bT];omega
theorem Qc{α:Type}(f:α->α):∀(a b:Nat)(x:α),repeated f (a+b) x=repeated f b (repeated f a x)
 |0,b,x=>by rw[og];rfl
 |a+1,b,x=>by rw[show a+1+b=(a+b)+1 by omega];exact Qc f a b (f x)
inductive Qd(t:Ad)(ps:ε)(H:Hp)(Q:VK)(e0:XK):Prop
 |mk (x:Addr) (p:Sz43.Program):ps=[.ref x]->eV t H x p->PO p->fK p.vars->(∀y H',ae H H'->eV t H' y (Sz43.better p)->Q (.ref y) H')->Qd t ps H Q e0
theorem Z0(T:Txt K mg t):aE P w K mg base aM 1 t.BD t.Kc ["words"] P6:=by
 refine T.CL.ko ["words","signs","word"] λH Q hr h nd=>?_
 obtain⟨q,ws,rfl,⟨rs,hq,hw⟩,hne,hsz,k⟩:=h;refine⟨_,ak (aS 1 nd (bV ag)) (ak (gP gn rfl (gO (pv 0)) (bD 2 nd) (ak (eA (gq fv PySem.F.slot_list_extend PySem.F.type_list_extend XS (pv 1) (aa (pv 2) ag))) (aq (eA (gq fv jL jM i6 (pv 1) (aa (cJ T.LQ rfl) ag)))))) (ak (oz (cJ T.uh rfl) (oy (pv 1) (mV oC aF) qu)) (aq (aC (pv 1))))),?_⟩
 have lr:rs.length=ws.length:=bt hw;have lb:=P8 hne;have part:∀r,(dw (ws.take r)).length<=(dw ws).length:=λr=>by
  have e:dw ws=dw (ws.take r)++dw (ws.drop r):=by unfold dw;rw[<-oj,List.take_append_drop]
  rw[e,a8];omega
 refine⟨bS _,λsg hsg=>?_⟩;have s0:ae H (upd H sg (.lst [])):=ae.new hsg;refine d5 ?_;refine⟨_,rfl,q,rfl,⟨_,aj.of (s0 _ _ hq)⟩,lU (K:=K) (a:=q) (xs:=rs.map V.ref) (λr σ Hh=>∃v2:Option V,σ=[χ q,χ sg,v2]/\Hh sg=some (.lst (iw (dw (ws.take r))))/\ae H Hh) ⟨none,rfl,au,s0⟩ (λr σ Hh _ ⟨_,_,_,e⟩=>aj.of (e _ _ hq)) ?_ ?_⟩
 ·rintro r y σ Hh hy ⟨v2,rfl,hS,sm⟩
  rw[bC]at hy;obtain⟨p,hp,rfl⟩:=cF.mp hy;have il:r<ws.length:=by have:=(bN.mp hp).1;omega
  have gw:ws[r]? =some ws[r]:=aL il;have E6:=cp (F:=λp w=>H p=some (.tup (iw w))) hw hp gw;have e1:dw (ws.take (r+1))=dw (ws.take r)++(ws[r]++[32]):=by unfold dw;rw[iO,gw,oj];simp
  have l1:=part (r+1);rw[e1,a8,a8,cE]at l1;refine⟨_,rfl,.inl ⟨rfl,_,aj.of hS⟩,_,rfl,sg,p,_,_,rfl,rfl,hS,sm _ _ E6,(by rw[bJ,bJ,aZ];omega),?_⟩;have ei:iw (dw (ws.take r))++iw ws[r]=iw (dw (ws.take r)++ws[r]):=by unfold iw;rw[dA]
  rw[ei];refine⟨_,rfl,.inl ⟨rfl,_,aj.of au⟩,sg,_,_,rfl,rfl,au,(by rw[bJ,a8,aZ];omega),?_⟩;rw[zR];refine⟨_,rfl,?_,sm.upd hsg⟩;rw[au,e1,<-mJ];exact c7 (λx=>some (HO.lst x)) (qh _ 32).symm
 ·rintro σ Hh ⟨v2,rfl,hS,sm⟩
  rw[aI,lr,kh]at hS;have bl:1<=(dw ws).length:=by rw[zm hne,a8,cE];omega
  refine d5 ?_;refine⟨_,rfl,_,rfl,sg,_,-1,(dw ws).length-1,rfl,rfl,hS,?_,?_⟩
  ·unfold iu;rw[bJ,af (by omega),ah (by omega)]
   congr 1
   omega
  refine⟨_,rfl,k sg _ (sm.upd hsg) hsg ?_⟩;rw[au];show some (HO.lst ((iw (dw ws)).set _ (.int ((10:Nat):Int))))=_;rw[Px,ZT hne]
theorem Z2(T:Txt K mg t)(oL:aE P w K mg base aM 3 t.pB t.rA ["instructions"] (su t)):aE P w K mg base aM 4 t.BC t.Ka ["program"] (P5 t):=by
 refine T.CK.ko ["program","instructions","labels","lines","place"] λH Q hr h nd=>?_
 obtain⟨x,p,rfl,hX,O,k⟩:=h;have hu:=ky hr;have hr1:=hr.mono (show 1<=3 by decide);refine⟨_,ak (aS 1 nd (aA (pv 0)))
  (ak (aS 2 nd (tm oL hr rfl T.Lf T.x9.kp (ni T.x9) .nil dE (aa (pv 1) ag)))
  (ak (aS 3 nd (bV ag))
  (ak (gP gn rfl (wC rfl T.rG (aa (bG iq (b8 c_ rfl T.cS c8 (aa (pv 1) ag)) aF) ag)) (bD 4 nd) (ak (aP (cG (wX hu (pv 4) (pv 2))) (aq (eA (gq fv jL jM i6 (pv 3) (aa (bV (aa (pC (fF T) hr1 T.fe T.eF (aa bq ag)) (aa (tQ hu (pv 2) (pv 4) (λ_ _=>rfl)) ag))) ag)))) aR) (aq (aP (aQ oE (pv 4) (b8 c_ rfl T.cS c8 (aa (pv 1) ag))) (aq (eA (gq fv jL jM i6 (pv 3) (aa (tm (ZV T p.vars p.code) hr rfl T.Ld T.x8.kp (ny T.x8) .nil dE (aa (aU bc (pv 1) (pv 4)) (aa (aA (pv 0)) (aa (pv 2) ag)))) ag)))) aR))))
  (aq (aC (pv 3)))))),?_⟩
 dsimp only[bI,Cx.bZ];obtain⟨dx,li,ns,hx,hL,hN⟩:=id hX;have h256:=O.dk;refine⟨_,rfl,x,_,dx,_,_,rfl,hx,T.eK,T.jU,mn _ _,?_⟩;refine⟨_,rfl,li,p.code,p.vars.length,rfl,hL,O.good,h256,λlb H1 s1 hlb=>?_⟩;refine⟨bS _,λls hls=>?_⟩;have s2:ae H (upd H1 ls (.lst [])):=s1.trans (ae.new hls);have vz:H ls=none:=s1.free hls;obtain⟨is,hli,cQ⟩:=id hL;have ln:is.length=p.code.length:=bt cQ;have keepL:∀{Ha Hb:Hp}{qs:θ}{L:List (List (List Nat))}{xs:ε},Ha ls=some (.lst xs)->(∀q∈qs,q≠ls/\H q=none)->Paired (λq ws=>b9 Ha q ws) qs L->(∀b o,Ha b=some o->b≠ls->Hb b=some o)->Paired (λq ws=>b9 Hb q ws) qs L:=by intro Ha Hb qs L xs e0 hq hp kp;exact Paired.mapM hp λq ws hm h=>h.mono (λb xs e=>kp _ _ e (bg e e0)) λxs e=>kp _ _ e (hq q hm).1
 refine d5 ?_;refine⟨_,rfl,li,_,rfl,.inl (aj.of (s2 _ _ hli)),_,_,rfl,rfl,((p.code.length+1:Nat):Int),?_,by omega,by omega,Gp (lo:=0) (n:=p.code.length+1) (λr σ Hh=>∃(v4:Option V)(qs:θ),σ=[χ x,χ li,χ lb,χ ls,v4]/\Hh ls=some (.lst (qs.map V.ref))/\(∀q∈qs,q≠ls/\H q=none)/\Paired (λq ws=>b9 Hh q ws) qs ((List.range r).flatMap (fJ p.vars p.code))/\ql Hh lb p.code/\ae H Hh) ⟨none,[],rfl,au,λq h=>absurd h (by simp),.nil,hlb.same (ae.new hls),s2⟩ ?_ ?_⟩
 ·show[V.int (((is.map V.ref).length:Int)+1)]=_;rw[aI,ln];rfl
 ·rintro r σ Hh hr' ⟨v4,qs,rfl,hS,hqs,hP,hLb,sm⟩
  have lq:qs.length<=2*r:=by
   rw[bt hP];have gen:∀l:List Nat,(l.flatMap (fJ p.vars p.code)).length<=2*l.length:=by
    intro l
    induction l with
    |nil=>exact aJ _
    |cons i l ih=>have:=P_ p.vars p.code i;rw[om,a8,bT];omega
   have:=gen (List.range r)
   rwa [gJ]at this
  have e0:(V.int (0+(r:Int)):V)=.int (r:Int):=by rw[Int.zero_add]
  rw[e0];refine d5 (xo ?_);obtain⟨kvs,hk1,hk2⟩:=id hLb;refine⟨_,rfl,_,rfl,lb,_,rfl,dj.k (k:=Sum.inl (r:Int)) hk1,_,rfl,?_⟩;have et:fJ p.vars p.code r=(if (targets p.code).contains r=true then [[ascii "label",lM p.code r]]else [])++d8 p.vars p.code r:=rfl;refine II (λσ' H'=>∃(qs:θ),σ'=[χ x,χ li,χ lb,χ ls,υ r]/\H' ls=some (.lst (qs.map V.ref))/\(∀q∈qs,q≠ls/\H q=none)/\Paired (λq ws=>b9 H' q ws) qs ((List.range r).flatMap (fJ p.vars p.code)++(if (targets p.code).contains r=true then [[ascii "label",lM p.code r]]else []))/\ql H' lb p.code/\ae H H'/\qs.length<=2*r+1) ?_ ?_ ?_
  ·intro hc kk;rcases hk2 r with ⟨q0,ht,hv,pU⟩ |⟨_,hv⟩
   ·refine⟨_,rfl,.inl ⟨rfl,_,aj.of hS⟩,"label",rfl,by decide,λp1 H3 s3 hp1 eH=>?_⟩;have eH:H3 p1=some (.tup (iw (ascii "label"))):=eH;refine⟨_,rfl,_,rfl,lb,_,rfl,by rw[<-hv];exact dj.k (k:=Sum.inl (r:Int)) (s3 _ _ hk1),z2,λb hb=>?_⟩;have s4:=ae.new (o:=.lst [.ref p1,.ref q0]) hb;have sv:=s4 _ _ (s3 _ _ hS);have nb:b≠ls:=(aH (s3 _ _ hS) hb).symm;refine⟨ls,_,_,rfl,rfl,sv,(by rw[aI,aZ];omega),kk _ _ ?_⟩;have kp:∀b' o,(upd H3 b (.lst [.ref p1,.ref q0])) b'=some o->b'≠ls->(upd (upd H3 b (.lst [.ref p1,.ref q0])) ls (.lst (qs.map V.ref++[.ref b]))) b'=some o:=λb' o e n=>by rw[ay n];exact e
    have smA:ae H (upd H3 b (.lst [.ref p1,.ref q0])):=(sm.trans s3).trans s4;refine⟨qs++[b],rfl,by rw[au,dA];rfl,λq hq=>?_,?_,?_,smA.upd vz,by rw[a8,cE];omega⟩
    ·rcases bL.mp hq with e |e
     ·exact hqs q e
     ·have:q=b:=by simpa using e
      rw[this];exact⟨nb,(sm.trans s3).free hb⟩
    ·rw[ah (by simpa using ht)];have hP4:Paired (λq ws=>b9 (upd H3 b (.lst [.ref p1,.ref q0])) q ws) qs ((List.range r).flatMap (fJ p.vars p.code)):=Paired.cR hP λq ws h=>(h.same s3).same s4
     refine Paired.app (keepL sv hqs hP4 kp) (.cons ?_ .nil);refine⟨[p1,q0],by rw[ay nb];exact au,.cons (kp _ _ (s4 _ _ eH) (bg eH (s3 _ _ hS))) (.cons (kp _ _ (s4 _ _ (s3 _ _ pU)) (bg pU hS)) .nil)⟩
    ·obtain⟨kvs',g1,g2⟩:=(hLb.same s3).same s4;refine⟨kvs',kp _ _ g1 (bg g1 sv),λu=>?_⟩;rcases g2 u with ⟨q,a1,a2,a3⟩ |h
     ·exact .inl ⟨q,a1,a2,kp _ _ a3 (bg a3 sv)⟩
     ·exact .inr h
   ·rw[hv]at hc;cases hc
  ·intro hc kk;refine kk _ _ ⟨qs,rfl,hS,hqs,?_,hLb,sm,by omega⟩;rcases hk2 r with ⟨q0,ht,hv,pU⟩ |⟨ht,hv⟩
   ·rw[hv]at hc;cases hc
   ·rw[af (by simpa using ht),ie];exact hP
  ·rintro σ' H' ⟨qs,rfl,hS,hqs,hP,hLb,sm,lq⟩
   refine⟨_,rfl,_,rfl,li,_,rfl,.inl (aj.of (sm _ _ hli)),_,_,rfl,rfl,_,rfl,?_⟩;rw[aI,ln];have er:(List.range (r+1)).flatMap (fJ p.vars p.code)=((List.range r).flatMap (fJ p.vars p.code)++(if (targets p.code).contains r=true then [[ascii "label",lM p.code r]]else []))++d8 p.vars p.code r:=by rw[sQ,oj,mJ,<-et];simp
   by_cases hrl:r<p.code.length
   ·rw[bj (show(r:Int)<(p.code.length:Int) by omega)];refine aD ?_;have hc:p.code[r]? =some p.code[r]:=aL hrl;obtain⟨a,hai⟩:∃a,is[r]? =some a:=⟨_,aL (by omega)⟩;have hI:=(cp (F:=λa i=>IA t H a i) cQ hai hc).nl sm.nl;refine⟨_,rfl,.inl ⟨rfl,_,aj.of hS⟩,_,rfl,_,rfl,li,_,_,_,rfl,rfl,aj.of (sm _ _ hli),aY (by rw[bC,hai];rfl),_,rfl,x,_,dx,_,_,rfl,sm _ _ hx,T.eK,T.kJ,nH _ _,_,rfl,a,ns,lb,p.code[r],rfl,hI,hN.same sm,hLb,br hc,O.good,λb H3 s3 hb hB=>?_⟩;have qm:=s3 _ _ hS;have nb:b≠ls:=(aH hS hb).symm;refine⟨ls,_,_,rfl,rfl,qm,(by rw[aI,aZ];omega),?_⟩;have kp:∀b' o,H3 b'=some o->b'≠ls->(upd H3 ls (.lst (qs.map V.ref++[.ref b]))) b'=some o:=λb' o e n=>by rw[ay n];exact e
    refine⟨_,qs++[b],rfl,by rw[au,dA];rfl,λq hq=>?_,?_,?_,(sm.trans s3).upd vz⟩
    ·rcases bL.mp hq with e |e
     ·exact hqs q e
     ·have:q=b:=by simpa using e
      rw[this];exact⟨nb,sm.free hb⟩
    ·rw[er];have ei:d8 p.vars p.code r=[a9 (vM p.vars) (lM p.code) p.code[r]]:=by
      unfold d8;rw[hc];rfl
     rw[ei];have hP3:Paired (λq ws=>b9 H3 q ws) qs _:=Paired.cR hP λq ws h=>h.same s3
     have hq1:∀q∈[b],q≠ls/\H q=none:=λq hq=>by rw[sN]at hq;rw[hq];exact⟨nb,sm.free hb⟩
     exact Paired.app (keepL qm hqs hP3 kp) (keepL qm hq1 (.cons hB .nil) kp)
    ·obtain⟨kvs',g1,g2⟩:=hLb.same s3;refine⟨kvs',kp _ _ g1 (bg g1 qm),λu=>?_⟩;rcases g2 u with ⟨q,a1,a2,a3⟩ |h
     ·exact .inl ⟨q,a1,a2,kp _ _ a3 (bg a3 qm)⟩
     ·exact .inr h
   ·rw[aW (show ¬(r:Int)<(p.code.length:Int) by omega)];refine az ⟨_,qs,rfl,hS,hqs,?_,hLb,sm⟩;rw[er];have:d8 p.vars p.code r=[]:=by
     unfold d8;rw[iM (by omega)];rfl
    rw[this,ie];exact hP
 ·rintro σ Hh ⟨v4,qs,rfl,hS,hqs,hP,hLb,sm⟩
  exact⟨_,rfl,k ls qs Hh sm vz (λq hq=>(hqs q hq).2) hS hP⟩
theorem Qe(T:Txt K mg t)(oL:aE P w K mg base aM 3 t.pB t.rA ["instructions"] (su t)):aE P w K mg base aM 5 t.BE t.Ke ["program"] (P7 t):=by
 refine T.x_.ko ["program","signs","words"] λH Q hr h nd=>?_
 obtain⟨x,p,rfl,hX,O,N,k⟩:=h;have hr1:=hr.mono (show 1<=4 by decide);refine⟨_,ak (aS 1 nd (bV ag))
  (ak (gP gn rfl (gO (pC (Z2 T oL) hr T.Lg T.CK (aa (pv 0) ag))) (bD 2 nd) (aq (eA (gq fv PySem.F.slot_list_extend PySem.F.type_list_extend Tr (pv 1) (aa (pC (Z0 T) hr1 T.Lh T.CL (aa (pv 2) ag)) ag)))))
  (aq (aC (pv 1)))),?_⟩
 have h256:=O.dk;have E7:=ZY N O.good h256;have lt:=ZZ p.vars p.code;have lj:=Qa E7;have et:p.text=(gF p.vars p.code).flatMap c6:=Fq p;refine⟨bS _,λsg hsg=>?_⟩;have s0:ae H (upd H sg (.lst [])):=ae.new hsg;refine d5 ?_;refine⟨_,rfl,x,p,rfl,hX.same s0,O,λls qs H1 s1 vz fqs hls hqs=>?_⟩;have oU:H1 sg=some (.lst []):=s1 _ _ au;obtain⟨L,eL⟩:∃L,L=gF p.vars p.code:=⟨_,rfl⟩;rw[<-eL]at hqs lt lj et E7;have lq:qs.length=L.length:=bt hqs;have nls:ls≠sg:=(aH au vz).symm;have nqs:∀q∈qs,q≠sg:=λq hq=>(aH au (fqs q hq)).symm
 have part:∀r,((L.take r).flatMap c6).length<=(L.flatMap c6).length:=λr=>by
  have e:L.flatMap c6=(L.take r).flatMap c6++(L.drop r).flatMap c6:=by rw[<-oj,List.take_append_drop]
  rw[e,a8];omega
 have fsg:H sg=none:=hsg;refine⟨ls,rfl,⟨_,aj.of hls⟩,lU (K:=K) (a:=ls) (xs:=qs.map V.ref) (λr σ Hh=>∃v2:Option V,σ=[χ x,χ sg,v2]/\Hh sg=some (.lst (iw ((L.take r).flatMap c6)))/\ae H Hh/\∀b o,H1 b=some o->b≠sg->Hh b=some o) ⟨none,rfl,oU,s0.trans s1,λb o e _=>e⟩ (λr σ Hh _ ⟨_,_,_,_,e⟩=>aj.of (e _ _ hls nls)) ?_ ?_⟩
 ·rintro r y σ Hh hy ⟨v2,rfl,hS,sm,kp⟩
  rw[bC]at hy;obtain⟨q,hq,rfl⟩:=cF.mp hy;have il:r<L.length:=by have:=(bN.mp hq).1;omega
  have gw:L[r]? =some L[r]:=aL il;have hl:=cp (F:=λq ws=>b9 H1 q ws) hqs hq gw;have nq:=nqs q (br hq);have hl2:b9 Hh q L[r]:=hl.mono (λb xs e=>kp _ _ e (bg e oU)) λxs e=>kp _ _ e nq
  have sm1:=E7 L[r] (br gw);have sj:=P9 sm1;refine⟨_,rfl,.inl ⟨rfl,_,aj.of hS⟩,_,rfl,q,L[r],rfl,hl2,sm1.1,by omega,λb H3 s3 hb eb=>?_⟩;have e1:(L.take (r+1)).flatMap c6=(L.take r).flatMap c6++c6 L[r]:=by rw[iO,gw,oj];simp
  have l1:=part (r+1);rw[e1,a8]at l1;refine⟨sg,b,_,_,rfl,rfl,s3 _ _ hS,eb,(by rw[bJ,bJ,aZ];omega),?_⟩;refine⟨_,rfl,?_,(sm.trans s3).upd fsg,λb' o e n=>by rw[ay n];exact s3 _ _ (kp b' o e n)⟩;rw[au,e1];unfold iw;rw[dA]
 ·rintro σ Hh ⟨v2,rfl,hS,sm,kp⟩
  rw[aI,lq,kh,<-et]at hS;refine⟨_,rfl,k sg Hh sm hS ?_⟩;rw[et];omega
theorem Qg(w:ψ):SeqAt.shaped (.list (iD w))=true:=by unfold SeqAt.shaped;rw[fM];have:=t6 w;refine⟨sA w,bj ?_⟩;show PyData.depthAll _+1<=64;omega
theorem Z3(T:Txt K mg t)(oL:aE P w K mg base aM 3 t.pB t.rA ["instructions"] (su t)):aE P w K mg base aM 10 t.BM t.Kp ["program"] (Qd t):=by
 refine T.CV.ko ["program","turn","better"] λH Q hr h nd=>?_
 obtain⟨x,p,rfl,hX,O,N,k⟩:=h;have ji:=hr.mono (show 5<=9 by decide);refine⟨_,ak (gP gn rfl (wC rfl T.rG (aa (cJ T.L6 rfl) ag)) (bD 1 nd)
   (ak (aS 2 nd (pC (ZS T) hr T.Ls T.CU (aa (pv 0) ag)))
   (ak (aP (aQ (jT hr.units) (pC (Qe T oL) ji T.CM T.x_ (aa (pv 2) ag)) (pC (Qe T oL) ji T.CM T.x_ (aa (pv 0) ag))) (aq (aC (pv 2))) aR)
   (aq (aS 0 nd (pv 2))))))
  (aq (aC (pv 0))),?_⟩
 have h0:aN 0:=by unfold aN;omega
 have ok:∀r,PO ⟨p.vars,repeated (Sz43.once p.vars.length) r p.code⟩:=λr=>by obtain⟨g,l⟩:=D9 vj h0 O.good r;exact⟨g,bE l O.dk,O.dH⟩
 refine d5 ?_;refine⟨64,rfl,by decide,by decide,Gp (lo:=0) (n:=64) (λr σ Hh=>∃(y:Addr)(v1 v2:Option V),σ=[χ y,v1,v2]/\eV t Hh y ⟨p.vars,repeated (Sz43.once p.vars.length) r p.code⟩/\ae H Hh) ⟨x,none,none,rfl,hX,ae.refl H⟩ ?_ ?_⟩
 ·rintro r σ Hh hr' ⟨y,v1,v2,rfl,hY,sm⟩
  refine⟨_,rfl,y,_,rfl,hY,ok r,λz H1 s1 hZ=>?_⟩;have eo:Sz43.once p.vars.length (repeated (Sz43.once p.vars.length) r p.code)=repeated (Sz43.once p.vars.length) (r+1) p.code:=(dt _ r p.code).symm;have hZ:eV t H1 z ⟨p.vars,repeated (Sz43.once p.vars.length) (r+1) p.code⟩:=by rw[<-eo];exact hZ
  refine⟨_,rfl,z,_,rfl,hZ,ok (r+1),N,λb H2 s2 hb lb=>?_⟩;refine⟨_,rfl,y,_,rfl,(hY.same s1).same s2,ok r,N,λb' H3 s3 hb' lb'=>?_⟩;refine⟨.list (iD _),.list (iD _),.lst (aj.of (s3 _ _ hb)) (xm _),.lst (aj.of hb') (xm _),Qg _,Qg _,_,rfl,?_⟩;rw[show PyData.eqv (.list (iD (Sz43.Program.text ⟨p.vars,repeated (Sz43.once p.vars.length) (r+1) p.code⟩))) (.list (iD (Sz43.Program.text ⟨p.vars,repeated (Sz43.once p.vars.length) r p.code⟩)))=_ from A2 _ _];have s03:=((sm.trans s1).trans s2).trans s3;have hZ3:=(hZ.same s2).same s3;by_cases e:Sz43.Program.text ⟨p.vars,repeated (Sz43.once p.vars.length) (r+1) p.code⟩=Sz43.Program.text ⟨p.vars,repeated (Sz43.once p.vars.length) r p.code⟩
  ·rw[bj e];refine aD ⟨_,rfl,k z H3 s03 ?_⟩;have ec:repeated (Sz43.once p.vars.length) (r+1) p.code=repeated (Sz43.once p.vars.length) r p.code:=Y2 N (ok (r+1)).good (ok r).good e;have e64:repeated (Sz43.once p.vars.length) 64 p.code=repeated (Sz43.once p.vars.length) (r+1) p.code:=by
    rw[show 64=(r+1)+(63-r) by omega,Qc];refine yN _ ?_ _;rw[ec];exact eo.trans ec
   unfold Sz43.better;rw[show Sz43.ROUNDS=64 from rfl,e64];exact hZ3
  ·rw[aW e];exact az ⟨_,rfl,z,_,_,rfl,hZ3,s03⟩
 ·rintro σ Hh ⟨y,v1,v2,rfl,hY,sm⟩
  exact⟨_,rfl,k y Hh sm hY⟩
def iv(l:δ):List V:=l.map V.int
theorem Z4(tx:ψ):Sz43Neutral.nats (tx.map λ(c:Nat)=>(c:Int))=tx:=by unfold Sz43Neutral.nats;rw[fu];exact(wc λc _=>by simp).trans (F3 tx)
theorem zo(n:Nat)(z:Int):Sz43.sized n z=decide (0<=z/\z<=(n:Int)):=by unfold Sz43.sized;rw[Bool.decide_and]
theorem Z6{n:Nat}{c:Sz43.Code}(h:GoodC y8 n c):GoodC aN n c:=λi hi=>by have O:=h i hi;refine⟨O.us,O.gv,λd z e=>?_,O.op,O.tg⟩;unfold aN;exact O.nm d z e
theorem Z7(p:Sz43.Program):Sz43.better p=⟨p.vars,repeated (Sz43.once p.vars.length) Sz43.ROUNDS p.code⟩:=by unfold Sz43.better;generalize Sz43.ROUNDS=R;rfl
theorem Z8{p:Sz43.Program}(O:PO p):PO (Sz43.better p):=by rw[Z7];generalize Sz43.ROUNDS=R;have h:=D9 vj (show aN 0 by unfold aN;omega) O.good R;exact⟨h.1,bE h.2 O.dk,O.dH⟩
def Fz(H H':Hp):Prop:=∀b o u,H b=some (.gp o u)->H' b=some (.gp o u)
def Z9(sp:Sp):Sp:=λvs H Q E=>sp vs H (λv H'=>Fz H H'->Q v H') E
theorem Z_{P:Program}{w:World}{K:ax}{mg:τ}{base:Heap}{CX:jy}{k:Nat}{f:Addr}{fd:FuncData}{ps:γ}{sp:Sp}(F:aE P w K mg base CX k f fd ps sp):aE P w K mg base CX k f fd ps (Z9 sp):=⟨λvs H Q E h=>F.len vs H _ E h,λA outer s H args us vs Q E hr he hb hv hs=>mH (F.run A outer s H args us vs _ E hr he hb hv hs) λr s' h=>by
  cases r with
  |error e=>exact h
  |ok fl=>
   cases fl with
   |ret u=>obtain⟨v,H',os,bare,un,hok,r',q⟩:=h;exact⟨v,H',os,bare,un,hok,r',q un.iR⟩
   |_=>exact h⟩
def gh(K:ax)(H:Hp)(a:Addr)(ns:δ):Prop:=ns.length<=100000/\((∃o,H a=some (.gp o (.lst (ns.map V.int))))\/∃vs:List Value,K.lookup a=some {cls:=.type "list",data:=.seq vs.toArray}/\Vals (ns.map V.int) vs)
section
variable{K:ax}{H H':Hp}{a:Addr}{ns:δ}
theorem gh.tx(h:gh K H a ns):kC K H a ns:=⟨h.1,h.2.imp_left λh=>.inr h⟩
theorem gh.fz(h:gh K H a ns)(f:Fz H H'):gh K H' a ns:=⟨h.1,h.2.imp_left λ⟨o,h⟩=>⟨o,f _ _ _ h⟩⟩
theorem gh.same(h:gh K H a ns)(f:ae H H'):gh K H' a ns:=h.fz λ_ _ _ e=>f _ _ e
theorem gh.sq(h:gh K H a ns):aj K H a (ns.map V.int):=by
 rcases h.2 with h1 |⟨vs,e,r⟩
 ·exact .inl (.inr h1)
 ·refine .inr ⟨_,_,_,e,rfl,rfl,rfl,?_,?_⟩
  ·have l:=r.length;have:=h.1;rw[aI]at l;rw[cj,aZ];omega
  ·exact r
end
noncomputable def sx(i:Ins)(l:δ)(inp:δ):Int:=match i with
 | .num _ z=>z
 | .copy _ a=>l.getD a 0
 | .op k _ a b=>reckon k (l.getD a 0) (l.getD b 0)
 | .read _=>inp.headD 0
 |_=>0
noncomputable def E8(i:Ins)(inp:δ):List Int:=match i with
 | .read _=>inp.drop 1
 |_=>inp
structure jj(n:Nat)(c:Sz43.Code)(s:Sz43.St)(l:δ):Prop where
 len:l.length=n
 val:∀j,j<n->l.getD j 0=s.v j
 fS:∀z∈l,aN z
 pl:s.at_<=c.length
 inp:∀z∈s.inp,aN z
noncomputable def zp(s:Sz43.St)(i:Ins)(d:Nat)(l:δ):Sz43.St:=⟨Sz43.set s.v d (sx i l s.inp),s.at_+1,E8 i s.inp,s.out⟩
section
variable{n:Nat}{c:Sz43.Code}{s:Sz43.St}{l:δ}{i:Ins}
theorem vA(h:∀z∈l,aN z)(v:Nat):aN (l.getD v 0):=by
 by_cases hv:v<l.length
 ·rw[dy,aL hv];exact h _ (vY hv)
 ·rw[dy,iM (by omega)];show aN 0;unfold aN;omega
theorem jj.num(S:jj n c s l)(O:hV aN n c.length i):aN (sx i l s.inp):=by
 cases i with
 |num d z=>exact O.nm d z rfl
 |copy d a=>exact vA S.fS a
 |op k d a b=>exact Mu (vA S.fS a) (vA S.fS b)
 |read d=>
  show aN (s.inp.headD 0);have h:=S.inp;cases hz:s.inp with
  |nil=>show aN 0;unfold aN;omega
  |cons z r=>exact h z (by rw[hz];simp)
 |_=>show aN 0;unfold aN;omega
theorem jj.mB{d:Nat}(S:jj n c s l)(O:hV aN n c.length i)(hi:c[s.at_]? =some i)(hg:givesOf i=some d):jj n c (zp s i d l) (l.set d (sx i l s.inp))/\Sz43.step c s=some (zp s i d l):=by
 have hd:=O.gv d hg;have ha:=(bN.mp hi).1;refine⟨⟨by rw[gk];exact S.len,λj hj=>?_,λz hz=>?_,ha,λz hz=>?_⟩,?_⟩
 ·show(l.set d (sx i l s.inp)).getD j 0=if j=d then sx i l s.inp else s.v j
  rw[dy,List.getElem?_set];have ln:=S.len;by_cases e:j=d
  ·rw[ah e.symm,ah (by omega),ah e];rfl
  ·rw[af (λq=>e q.symm),af e,<-dy];exact S.val j hj
 ·rcases Rr hz with h |h
  ·exact S.fS z h
  ·rw[h];exact S.num O
 ·have h:z∈E8 i s.inp:=hz;refine S.inp z ?_;cases i with
  |read d=>exact List.mem_of_mem_drop h
  |_=>exact h
 ·unfold Sz43.step zp;rw[hi];cases i with
  |num d' z=>cases hg;rfl
  |copy d' a=>cases hg;show _=some (Sz43.St.mk (Sz43.set s.v d (l.getD a 0)) _ _ _);rw[S.val a (O.us a (by simp[usesOf]))];rfl
  |op k d' a b=>cases hg;show _=some (Sz43.St.mk (Sz43.set s.v d (reckon k (l.getD a 0) (l.getD b 0))) _ _ _);rw[S.val a (O.us a (by simp[usesOf])),S.val b (O.us b (by simp[usesOf]))];rfl
  |read d'=>cases hg;rfl
  |_=>cases hg
theorem jj.jump{u:Nat}(S:jj n c s l)(h:u<=c.length):jj n c {s with at_:=u} l:=⟨S.len,S.val,S.fS,h,S.inp⟩
theorem jj.out{o:δ}(S:jj n c s l)(h:s.at_+1<=c.length):jj n c {s with at_:=s.at_+1,out:=o} l:=⟨S.len,S.val,S.fS,h,S.inp⟩
theorem aaa{m:Nat}(h:Sz43.step c s=none):Sz43.goes c m s=(s,0):=by
 cases m with
 |zero=>rfl
 |succ m=>show(match Sz43.step c s with |some t=>((Sz43.goes c m t).1,(Sz43.goes c m t).2+1) |none=>(s,0))=_;rw[h]
theorem aab{m:Nat}{t:Sz43.St}(h:Sz43.step c s=some t):Sz43.goes c (m+1) s=((Sz43.goes c m t).1,(Sz43.goes c m t).2+1):=by show(match Sz43.step c s with |some t=>((Sz43.goes c m t).1,(Sz43.goes c m t).2+1) |none=>(s,0))=_;rw[h]
theorem vB{v:Nat}(h:v<l.length):(iv l)[v]? =some (.int (l.getD v 0)):=by unfold iv;rw[bC,dy,aL h];rfl
theorem qp:(iv l).length=l.length:=aI _
end
inductive Qh(t:Ad)(vs:ε)(H:Hp)(Q:VK)(e0:XK):Prop
 |mk (a vp wp:Addr) (i:Ins) (l inp:δ):vs=[.ref a,.ref vp,.ref wp]->IA t H a i->H vp=some (.lst (iv l))->H wp=some (.lst (iv inp.reverse))->(givesOf i).isSome=true->((∀v∈usesOf i,v<l.length))->((∀z∈l,aN z))->(∀H',((∀b,b≠wp->H' b=H b))->H' wp=some (.lst (iv (E8 i inp).reverse))->Q (.int (sx i l inp)) H')->Qh t vs H Q e0
def zq(p s:V):List (Str×V):=[("printed",p),("steps",s)]
theorem E9(p s:V):(zq p s).lookup ("printed" :Str)=some p:=rfl
theorem aac(p s:V):(zq p s).lookup ("steps" :Str)=some s:=rfl
inductive Qi(t:Ad)(vs:ε)(H:Hp)(Q:VK)(e0:XK):Prop
 |mk (a dx:Addr) (p n:V):vs=[.ref a,p,n]->H a=some (.ins t.nc dx [])->(∀H',H' a=some (.ins t.nc dx (zq p n))->(∀b,b≠a->H' b=H b)->Q .aw H')->Qi t vs H Q e0
def mC(a b c:Int):Bool:=decide ((0<=a/\a<=1)/\(0<=b/\b<=1000000)/\0<=c/\c<=65536)
inductive Qj(vs:ε)(H:Hp)(Q:VK)(e0:XK):Prop
 |mk (a b c:Int):vs=[.int a,.int b,.int c]->Q (.bl (mC a b c)) H->Qj vs H Q e0
theorem aad(T:Txt K mg t):aE P w K mg base aM 1 t.B5 t.KI ["self","printed","steps"] (Qi t):=by
 refine T.C9.ko ["self","printed","steps"] λH Q hr h nd=>?_
 obtain⟨a,dx,p,n,rfl,ha,k⟩:=h;refine⟨_,ak (fR (pv 0) (pv 1) rfl) (aq (fR (pv 0) (pv 2) rfl)),?_⟩;refine⟨_,rfl,_,rfl,a,_,dx,_,rfl,ha,T.pJ,T.uf,(by show 0<1000;decide),?_⟩;refine⟨_,rfl,_,rfl,a,_,dx,_,rfl,au,T.pJ,T.Dd,(by show 1<1000;decide),?_⟩;exact k _ au λb hb=>by rw[ay hb,ay hb]
theorem aae(T:Txt K mg t):aE P w K mg base aM 1 t.BQ t.Ku ["made","steps","most"] Qj:=by
 refine T.C0.ko ["made","steps","most"] λH Q hr h nd=>?_
 obtain⟨a,b,c,rfl,k⟩:=h;refine⟨_,aq (aC (z5 (tj iW iW aF (pv 0) aF) (z5 (tj iW iW aF (pv 1) (cJ T.Md rfl)) (zZ (tj iW iW aF (pv 2) (cJ T.Mc rfl)))))),?_⟩;have no:¬((0<=a/\a<=1)/\(0<=b/\b<=1000000)/\0<=c/\c<=65536)->Q (.bl false) H:=λh=>by unfold mC at k;rw[aW h]at k;exact k
 refine⟨_,rfl,_,_,rfl,rfl,_,rfl,?_⟩;refine cN (λc1=>?_) (λc1=>?_)
 ·refine⟨_,_,rfl,rfl,_,rfl,?_⟩;refine cN (λc2=>?_) (λc2=>?_)
  ·refine⟨_,rfl,_,_,rfl,rfl,_,rfl,?_⟩;refine cN (λc3=>?_) (λc3=>?_)
   ·refine⟨_,_,rfl,rfl,_,rfl,?_⟩;refine cN (λc4=>?_) (λc4=>?_)
    ·refine⟨_,rfl,_,_,rfl,rfl,_,rfl,?_⟩;simp only[oq]at c1 c2 c3 c4;refine cN (λc5=>?_) (λc5=>?_)
     ·refine⟨_,_,rfl,rfl,?_⟩;simp only[oq]at c5;have e:mC a b c=decide (c<=65536):=by
       unfold mC;exact mL.mpr ⟨λh=>h.2.2.2,λh=>⟨⟨c1,c2⟩,⟨c3,c4⟩,c5,h⟩⟩
      rw[e]at k;exact k
     ·simp only[oq]at c5;exact no λh=>c5 h.2.2.1
    ·simp only[oq]at c4;exact no λh=>c4 h.2.1.2
   ·simp only[oq]at c3;exact⟨_,rfl,az (no λh=>c3 h.2.1.1)⟩
  ·simp only[oq]at c2;exact no λh=>c2 h.1.2
 ·simp only[oq]at c1;exact⟨_,rfl,az (no λh=>c1 h.1.1)⟩
theorem aaf(T:Txt K mg t):aE P w K mg base aM 4 t.BO t.Ks ["instruction","variables","waiting"] (Qh t):=by
 refine T.CW.ko ["instruction","variables","waiting"] λH Q hr h nd=>?_
 obtain⟨a,vp,wp,i,l,inp,rfl,hI,hv,hw,hg,hus,h64,k⟩:=h;refine⟨_,ak (aP (aQ bB (aA (pv 0)) bq) (aq (aC (pC (MC T) hr T.Cw T.xV (aa (aA (pv 0)) (aa (aU bc (pv 1) (aU gR (aA (pv 0)) aF)) (aa (aU bc (pv 1) (aU gR (aA (pv 0)) aF)) ag)))))) aR) (ak (aP (aQ bB (aA (pv 0)) bq) (aq (aC (aA (pv 0)))) aR) (ak (aP (aQ bB (aA (pv 0)) bq) (aq (aC (aU bc (pv 1) (aU gR (aA (pv 0)) aF)))) aR) (aq (aC (gM (aQ qV (b8 c_ rfl T.cS c8 (aa (pv 2) ag)) aF) (wO fv RB RC Ax (pv 2)) aF))))),?_⟩
 dsimp only[bI,Cx.bZ];obtain⟨dx,u,op,ha,hu,hop⟩:=id hI;have cl:=T.cI;refine⟨_,rfl,a,_,dx,_,_,rfl,ha,cl,T.be,bo,rfl,_,rfl,?_⟩;cases i with
 |op n d v v'=>obtain⟨h12,q,rfl,hq⟩:=hop;exact aD ⟨_,rfl,a,_,dx,_,_,rfl,ha,cl,T.me,pR,_,rfl,_,rfl,a,_,dx,_,_,rfl,ha,cl,T.dR,eO,_,_,_,_,rfl,rfl,aV.of hu,aY (j:=0) rfl,vp,_,_,_,rfl,rfl,aj.of hv,aY (vB (hus v (by simp[usesOf]))),_,rfl,_,rfl,a,_,dx,_,_,rfl,ha,cl,T.dR,eO,_,_,_,_,rfl,rfl,aV.of hu,aY (j:=1) rfl,vp,_,_,_,rfl,rfl,aj.of hv,aY (vB (hus v' (by simp[usesOf]))),q,n,_,_,rfl,h12,hq,vA h64 v,vA h64 v',k H (λ_ _=>rfl) hw⟩
 |num d z=>refine az ⟨_,rfl,a,_,dx,_,_,rfl,ha,cl,T.be,bo,rfl,_,rfl,?_⟩;exact aD ⟨_,rfl,a,_,dx,_,_,rfl,ha,cl,T.ue,Dt,k H (λ_ _=>rfl) hw⟩
 |copy d v=>refine az ⟨_,rfl,a,_,dx,_,_,rfl,ha,cl,T.be,bo,rfl,_,rfl,?_⟩;refine az ⟨_,rfl,a,_,dx,_,_,rfl,ha,cl,T.be,bo,rfl,_,rfl,?_⟩;exact aD ⟨_,rfl,_,rfl,a,_,dx,_,_,rfl,ha,cl,T.dR,eO,_,_,_,_,rfl,rfl,aV.of hu,aY (j:=0) rfl,vp,_,_,_,rfl,rfl,aj.of hv,aY (vB (hus v (by simp[usesOf]))),k H (λ_ _=>rfl) hw⟩
 |read d=>
  refine az ⟨_,rfl,a,_,dx,_,_,rfl,ha,cl,T.be,bo,rfl,_,rfl,?_⟩;refine az ⟨_,rfl,a,_,dx,_,_,rfl,ha,cl,T.be,bo,rfl,_,rfl,?_⟩;refine az ⟨_,rfl,wp,_,rfl,.inl (aj.of hw),_,_,rfl,rfl,_,rfl,?_⟩;cases inp with
  |nil=>exact az (k H (λ_ _=>rfl) hw)
  |cons z r=>
   have vC:H wp=some (.lst (iv r.reverse++[.int z])):=by rw[hw,Rb];unfold iv;rw[dA];rfl
   have d0:decide ((0:Int)<((iv (z::r).reverse).length:Int))=true:=bj (by rw[qp,List.length_reverse,bT];omega);rw[d0];refine aD ⟨_,rfl,.inl ⟨rfl,_,aj.of vC⟩,wp,_,.int z,rfl,rfl,vC,?_,?_⟩
   ·rw[a8,cE,F4];simp
   ·rw[RE];exact k _ (λb hb=>ay hb) au
 |_=>cases hg
structure sy(t:Ad)(H:Hp)(li vp wp pp:Addr)(is:θ)(c:Sz43.Code)(l inp out:δ):Prop where
 lst:H li=some (.lst (is.map V.ref))
 ins:Paired (λa i=>IA t H a i) is (c++[.stop])
 var:H vp=some (.lst (iv l))
 e6:H wp=some (.lst (iv inp.reverse))
 vD:H pp=some (.lst (iv out))
 n1:li≠vp
 n2:li≠wp
 n3:li≠pp
 n4:vp≠wp
 n5:vp≠pp
 n6:wp≠pp
theorem sy.ch{t:Ad}{H H':Hp}{li vp wp pp:Addr}{is:θ}{c:Sz43.Code}{l inp out l' inp' out':δ}(R:sy t H li vp wp pp is c l inp out)(e:∀b,b≠vp->b≠wp->b≠pp->H' b=H b) (hv:H' vp=some (.lst (iv l')))(hw:H' wp=some (.lst (iv inp'.reverse)))(hp:H' pp=some (.lst (iv out'))):sy t H' li vp wp pp is c l' inp' out':=by
 have nl:NL H H':=λb o h n=>by
  have ne:∀{x:Addr}{xs:ε},H x=some (.lst xs)->b≠x:=λhx z=>by rw[z,hx]at h;exact n _ (b_ h).symm
  rw[e b (ne R.var) (ne R.e6) (ne R.vD)];exact h
 exact⟨(e _ R.n1 R.n2 R.n3).trans R.lst,Paired.cR R.ins λa i h=>h.nl nl,hv,hw,hp,R.n1,R.n2,R.n3,R.n4,R.n5,R.n6⟩
theorem zC{α β:Type}{F:α->β->Prop}{x:α}{y:β}(h:F x y):∀{l₁:List α}{l₂:List β},Paired F l₁ l₂->Paired F (l₁++[x]) (l₂++[y])
 |_,_,.nil=>.cons h .nil
 |_,_,.cons r t=>.cons r (zC h t)
inductive Ql(t:Ad)(K:ax)(vs:ε)(H:Hp)(Q:VK)(e0:XK):Prop
 |mk (x ip:Addr) (n:Nat) (p:Sz43.Program) (inp:δ):vs=[.ref x,.ref ip,.int (n:Int)]->eV t H x p->PO p->gh K H ip inp->((∀z∈inp,aN z))->n<=1000000->((Sz43.ended p.code (Sz43.goes p.code n (Sz43.begun inp)).1=false->∀H',Q .aw H'))->((Sz43.ended p.code (Sz43.goes p.code n (Sz43.begun inp)).1=true->∀q dx b H',H' q=some (.ins t.nc dx (zq (.ref b) (.int ((Sz43.goes p.code n (Sz43.begun inp)).2:Int))))->H' b=some (.lst (iv (Sz43.goes p.code n (Sz43.begun inp)).1.out))->(Sz43.goes p.code n (Sz43.begun inp)).1.out.length<=1000000->Q (.ref q) H'))->Ql t K vs H Q e0
def NR:List Str:=["program","inputs","most_steps","instructions","variables","waiting","printed","place","steps","instruction"]
theorem aag(T:Txt K mg t):aE P w K mg base aM 5 t.BP t.Kt ["program","inputs","most_steps"] (Ql t K):=by
 refine T.CY.ko NR λH Q hr h nd=>?_
 obtain⟨x,ip,n,p,inp,rfl,hX,O,hT,h64,hn,kN,kR⟩:=h;have hr2:=hr.mono (show 2<=4 by decide);have vd:Vals [.aw,.aw,.aw,.aw] [Value.none,.none,.none,.none]:=.cons rfl (.cons rfl (.cons rfl (.cons rfl .nil)));refine⟨_,ak (aS 3 nd (bG tI (aA (pv 0)) (bV (aa (mW T.gZ (iA T) hr2 rfl T.gX (uD T) vd dE (aa bq (aa (fE ag) ag))) ag))))
  (ak (aS 4 nd (bG Tt (bV (aa aF ag)) (b8 c_ rfl T.cS c8 (aa (aA (pv 0)) ag))))
  (ak (aS 5 nd (lW Hl rfl T.yh rfl (aa (pv 1) ag)))
  (ak (eA (wO fv PySem.F.slot_list_reverse PySem.F.type_list_reverse Ts (pv 5)))
  (ak (aS 6 nd (bV ag))
  (ak (aS 7 nd aF)
  (ak (aS 8 nd aF)
  (ak (sV gn (aQ qU (aA (aU bc (pv 3) (pv 7)) rfl) bq) (ak (aP (aQ bB (pv 8) (pv 2)) (aq (aC e_)) aR) (ak (aS 9 nd (aU bc (pv 3) (pv 7))) (ak (aS 7 nd (bG iq (pv 7) aF)) (ak (aS 8 nd (bG iq (pv 8) aF)) (aq (aP (cG (lP (aA (pv 9)))) (aq (oz (pC (aaf T) hr T.Lw T.CW (aa (pv 9) (aa (pv 4) (aa (pv 5) ag)))) (oy (pv 4) (aA (pv 9)) qu))) (aq (aP (aQ bB (aA (pv 9)) bq) (aq (eA (gq fv jL jM i6 (pv 6) (aa (aU bc (pv 4) (aU gR (aA (pv 9)) aF)) ag)))) (aq (aP (PW.pt (lR (aQ bB (aA (pv 9)) bq) (lQ (aQ qU (aU bc (pv 4) (aU gR (aA (pv 9)) aF)) aF)))) (aq (aS 7 nd (aA (pv 9)))) aR)))))))))))
  (aq (aC (mW T.LO (aad T) hr2 rfl T.LM (ny T.C9) .nil dE (aa (pv 6) (aa (pv 8) ag)))))))))))),?_⟩
 dsimp only[bI,Cx.bZ];obtain⟨dx,li0,ns,hx,⟨is0,aah,Qm⟩,qs,hns,hqs⟩:=hX;have dk:=O.dk;have dH:=O.dH;have DA:is0.length=p.code.length:=bt Qm;have lq:qs.length=p.vars.length:=bt hqs;refine⟨_,rfl,x,_,dx,_,_,rfl,hx,T.eK,T.jU,mn _ _,bS _,λu hu=>λe dxe ne nde nee=>⟨e,dxe,"end",_,_,_,_,_,rfl,au,λH1 h1 h2=>⟨rfl,?_⟩⟩⟩;have s0:=ae.new (o:=.tup []) hu;have s1:=s0.trans (fG ne nde h2);have hE:IA t H1 e .stop:=⟨dxe,u,.aw,h1,(fG ne nde h2) _ _ au,rfl⟩;refine⟨z1,λb1 hb1=>?_⟩;have s2:=s1.trans (ae.new (o:=.lst [.ref e]) hb1);have hE2:=hE.nl (ae.new (o:=.lst [.ref e]) hb1).nl;refine⟨li0,b1,_,_,rfl,rfl,s2 _ _ aah,au,(by rw[aI,aZ];show _+1<=_;omega),λli hli=>?_⟩;have eis:is0.map V.ref++[V.ref e]=(is0++[e]).map V.ref:=by rw[dA];rfl
 rw[eis];have sr:=ae.new (o:=.lst ((is0++[e]).map V.ref)) hli;have s3:=s2.trans sr;have hE3:=hE2.nl sr.nl;refine⟨z1,λz hz=>?_⟩;have s4':=ae.new (o:=.lst [.int 0]) hz;have s4:=s3.trans s4';refine⟨_,rfl,x,_,dx,_,_,rfl,s4 _ _ hx,T.eK,T.kJ,nH _ _,ns,_,rfl,.inl (aj.of (s4 _ _ hns)),z,_,_,rfl,rfl,au,by omega,(by rw[aI];omega),(by rw[aI,aZ];show 1*_<=_;omega),λvp hvp=>?_⟩;have evs:(List.replicate (((qs.map V.ref).length:Int)).toNat [V.int 0]).flatten=iv (List.replicate p.vars.length 0):=by rw[List.flatten_replicate_singleton,aI,lq,vP];unfold iv;rw[RF]
 rw[evs];have s5':=ae.new (o:=.lst (iv (List.replicate p.vars.length 0))) hvp;have s5:=s4.trans s5';refine⟨_,rfl,ip,_,rfl,.inl (hT.same s5).sq,λwp hwp=>?_⟩;have s6':=ae.new (o:=.lst (inp.map V.int)) hwp;have s6:=s5.trans s6';refine⟨_,rfl,.inl ⟨rfl,_,aj.of au⟩,wp,_,rfl,rfl,au,?_⟩;rw[zR,<-List.map_reverse];have s7':=ae.new (o:=.lst (inp.reverse.map V.int)) hwp;have s7:=s5.trans s7';refine⟨bS _,λpp hpp=>?_⟩;have vE:=ae.new (o:=.lst []) hpp;have s8:=s7.trans vE;have E_:(upd (upd (upd (upd (upd H1 b1 (.lst [.ref e])) li (.lst ((is0++[e]).map V.ref))) z (.lst [.int 0])) vp (.lst (iv (List.replicate p.vars.length 0)))) wp (.lst (inp.reverse.map V.int))) li=some (.lst ((is0++[e]).map V.ref)):=s7' _ _ (s5' _ _ (s4' _ _ au));have R0:sy t (upd (upd (upd (upd (upd (upd H1 b1 (.lst [.ref e])) li (.lst ((is0++[e]).map V.ref))) z (.lst [.int 0])) vp (.lst (iv (List.replicate p.vars.length 0)))) wp (.lst (inp.reverse.map V.int))) pp (.lst [])) li vp wp pp (is0++[e]) p.code (List.replicate p.vars.length 0) inp []:=by
  refine⟨vE _ _ E_,zC (hE3.nl ((s4'.trans s5').trans (s7'.trans vE)).nl) (Paired.cR Qm λa i h=>h.nl s8.nl),vE _ _ (s7' _ _ au),vE _ _ au,au,?_,?_,?_,?_,?_,?_⟩
  ·exact aH (s4' _ _ au) hvp
  ·exact aH (s5' _ _ (s4' _ _ au)) hwp
  ·exact aH E_ hpp
  ·exact aH au hwp
  ·exact aH (s7' _ _ au) hpp
  ·exact aH au hpp
 obtain⟨I,hZ⟩:∃I:Nat->St->Hp->Prop,∀m σ Hh,I m σ Hh ↔ ∃(s:Sz43.St)(l:δ)(j:Nat)(v9:Option V),m+j=n/\σ=[χ x,χ ip,υ n,χ li,χ vp,χ wp,χ pp,some (.int (s.at_:Int)),υ j,v9]/\sy t Hh li vp wp pp (is0++[e]) p.code l s.inp s.out/\jj p.vars.length p.code s l/\Sz43.goes p.code n (Sz43.begun inp)=((Sz43.goes p.code m s).1,(Sz43.goes p.code m s).2+j)/\s.out.length<=j:=⟨_,λ_ _ _=>jt⟩;refine⟨I,⟨n,(hZ _ _ _).mpr ⟨Sz43.begun inp,List.replicate p.vars.length 0,0,none,rfl,rfl,R0,⟨qy,λj hj=>?_,λz hz=>?_,bS _,h64⟩,rfl,aJ _⟩⟩,?_⟩
 ·rw[dy,n8,ah hj];rfl
 ·rw[RD hz];unfold aN;omega
 clear R0 E_;intro m σ Hh hh;obtain⟨s,l,j,v9,hm,rfl,R,S,hG,hO⟩:=(hZ _ _ _).mp hh;have lis:(is0++[e]).length=p.code.length+1:=by rw[a8,DA];rfl
 have hpl:=S.pl;obtain⟨i,hi⟩:∃i,(p.code++[Ins.stop])[s.at_]? =some i:=⟨_,aL (by rw[a8,cE];omega)⟩;obtain⟨a,hai⟩:∃a,(is0++[e])[s.at_]? =some a:=⟨_,aL (by omega)⟩;have hI:=cp R.ins hai hi;have hat:((is0++[e]).map V.ref)[s.at_]? =some (.ref a):=by rw[bC,hai];rfl
 obtain⟨lu,ui,op,ha,hui,hop⟩:=id hI;have cl:=T.cI;refine⟨_,rfl,_,rfl,li,_,_,_,rfl,rfl,aj.of R.lst,aY hat,a,_,lu,_,_,rfl,ha,cl,T.be,bo,rfl,_,rfl,?_⟩;by_cases hs:i=.stop
 ·subst hs;refine az ?_;have hst:Sz43.step p.code s=none:=by
   unfold Sz43.step;by_cases hc:s.at_<p.code.length
   ·rw[Fw hc]at hi;rw[hi]
   ·rw[iM (by omega)]
  rw[aaa hst]at hG;have hen:Sz43.ended p.code (Sz43.goes p.code n (Sz43.begun inp)).1=true:=by rw[hG];unfold Sz43.ended;rw[hst];rfl
  have kR:=kR hen;rw[hG,og]at kR;refine⟨_,rfl,_,rfl,?_⟩;intro q dq nq ndq neq;refine⟨q,dq,_,_,rfl,au,λH2 h1 h2=>⟨rfl,?_⟩⟩;exact kR q dq pp H2 h1 ((fG nq ndq h2) _ _ R.vD) (by show s.out.length<=_;omega)
 have hc:p.code[s.at_]? =some i:=by
  by_cases hc:s.at_<p.code.length
  ·rw[Fw hc]at hi;exact hi
  ·have e0:s.at_-p.code.length=0:=by omega
   rw[List.getElem?_append_right (by omega),e0]at hi;exact absurd (b_ hi).symm hs
 have hcl:=(bN.mp hc).1;have OI:=O.good i (br hc);have lv:=S.len;refine cN (λ_=>?_) (λc=>absurd (by cases i<;>first |rfl |exact absurd rfl hs) c);refine⟨λσ' H'=>∃m',m'<m/\I m' σ' H',λσ' H' h=>h,?_⟩;refine⟨_,rfl,_,rfl,rfl,_,rfl,?_⟩;rw[dU];by_cases hj:j=n
 ·rw[bj hj];refine aD ?_;refine kN ?_ _;have m0:m=0:=by omega
  rw[m0]at hG;rw[hG];show Sz43.ended p.code s=false;unfold Sz43.ended Sz43.step;rw[hc];cases i with
  |stop=>exact absurd rfl hs
  |cond v u'=>dsimp only;split<;>rfl
  |_=>rfl
 rw[aW hj];refine az ?_;obtain⟨m',rfl⟩:∃m',m=m'+1:=⟨m-1,by omega⟩;have vF:∀(s':Sz43.St)(l':δ)(H':Hp),Sz43.step p.code s=some s'->sy t H' li vp wp pp (is0++[e]) p.code l' s'.inp s'.out->jj p.vars.length p.code s' l'->s'.out.length<=j+1->∃k,k<m'+1/\I k [χ x,χ ip,υ n,χ li,χ vp,χ wp,χ pp,some (.int (s'.at_:Int)),some (.int ((j:Int)+1)),χ a] H':=λs' l' H' h1 h2 h3 h4=>by refine⟨m',sE _,(hZ _ _ _).mpr ⟨s',l',j+1,_,by omega,rfl,h2,h3,?_,h4⟩⟩;rw[hG,aab h1];show(_,_+1+j)=(_,_+(j+1));rw[Nat.add_assoc,FC 1 j]
 refine⟨_,rfl,_,rfl,li,_,_,_,rfl,rfl,aj.of R.lst,aY hat,_,rfl,_,_,rfl,rfl,_,rfl,_,_,rfl,rfl,?_⟩;refine⟨_,rfl,a,_,lu,_,_,rfl,ha,cl,T.cA,cO,_,rfl,?_⟩;cases hg:givesOf i with
 |some d=>
  have eg:df i=.int (d:Int):=by unfold df;rw[hg]
  rw[eg];refine aD ?_;obtain⟨S',st'⟩:=S.mB OI hc hg;have hd:=OI.gv d hg;refine⟨_,rfl,_,rfl,_,rfl,a,vp,wp,i,l,s.inp,rfl,hI,R.var,R.e6,by rw[hg];rfl,λv hv=>by rw[lv];exact OI.us v hv,S.fS,λH1 e1 w1=>?_⟩;have ha1:H1 a=_:=(e1 a (bg ha R.e6)).trans ha;have hv1:H1 vp=_:=(e1 vp R.n4).trans R.var;refine⟨_,rfl,_,rfl,a,_,lu,_,_,rfl,ha1,cl,T.cA,cO,vp,_,(d:Int),d,rfl,eg,hv1,?_,?_⟩
  ·unfold iu;rw[qp,ah (by omega),ah (by omega)];simp
  ·refine vF (zp s i d l) _ _ st' (R.ch (λb n1 n2 n3=>?_) ?_ ?_ ?_) S' (by show s.out.length<=_;omega)
   ·rw[ay n1];exact e1 b n2
   ·rw[au];unfold iv;rw[List.map_set]
   ·rw[ay R.n4.symm];exact w1
   ·rw[ay R.n5.symm];exact(e1 pp R.n6.symm).trans R.vD
 |none=>
  have eg:df i=.aw:=by unfold df;rw[hg]
  rw[eg];refine az ⟨_,rfl,a,_,lu,_,_,rfl,ha,cl,T.be,bo,rfl,_,rfl,?_⟩;cases i with
  |print v=>
   refine aD ?_;have hv:v<l.length:=by rw[lv];exact OI.us v (by simp[usesOf])
   refine⟨_,rfl,.inl ⟨rfl,_,aj.of R.vD⟩,_,rfl,_,rfl,a,_,lu,_,_,rfl,ha,cl,T.dR,eO,_,_,_,_,rfl,rfl,aV.of hui,aY (j:=0) rfl,vp,_,_,_,rfl,rfl,aj.of R.var,aY (vB hv),pp,_,_,rfl,rfl,R.vD,(by rw[qp,aZ];omega),?_⟩;refine vF {s with at_:=s.at_+1,out:=s.out++[s.v v]} l _ ?_ (R.ch (λb n1 n2 n3=>ay n3) ?_ ?_ ?_) (S.out hcl) ?_
   ·unfold Sz43.step;rw[hc]
   ·rw[ay R.n5];exact R.var
   ·rw[ay R.n6];exact R.e6
   ·rw[au,<-S.val v (by omega)];unfold iv;rw[dA];rfl
   ·show(s.out++[s.v v]).length<=_;rw[a8,cE];omega
  |goto u'=>refine az ⟨_,rfl,a,_,lu,_,_,rfl,ha,cl,T.be,bo,rfl,_,rfl,?_⟩;refine aD (aD ?_);refine⟨_,rfl,a,_,lu,_,_,rfl,ha,cl,T.eJ,fX,?_⟩;refine vF {s with at_:=u'} l Hh ?_ R (S.jump (OI.tg u' rfl)) (by show s.out.length<=_;omega);unfold Sz43.step;rw[hc]
  |cond v u'=>
   refine az ?_;have hv:v<l.length:=by rw[lv];exact OI.us v (by simp[usesOf])
   refine⟨_,rfl,a,_,lu,_,_,rfl,ha,cl,T.be,bo,rfl,_,rfl,?_⟩;refine az ⟨_,rfl,_,rfl,a,_,lu,_,_,rfl,ha,cl,T.dR,eO,_,_,_,_,rfl,rfl,aV.of hui,aY (j:=0) rfl,vp,_,_,_,rfl,rfl,aj.of R.var,aY (vB hv),rfl,_,rfl,?_⟩;have ev:=S.val v (by omega);by_cases h0:l.getD v 0=0
   ·rw[h0];refine az ?_;refine vF {s with at_:=s.at_+1} l Hh ?_ R (S.jump hcl) (by show s.out.length<=_;omega);unfold Sz43.step;rw[hc];dsimp only;rw[af (by rw[<-ev,h0];simp)]
   ·refine cN (λ_=>?_) (λc=>absurd ?_ c)
    ·refine⟨_,rfl,a,_,lu,_,_,rfl,ha,cl,T.eJ,fX,?_⟩;refine vF {s with at_:=u'} l Hh ?_ R (S.jump (OI.tg u' rfl)) (by show s.out.length<=_;omega);unfold Sz43.step;rw[hc];dsimp only;rw[ah (by rw[<-ev];exact h0)]
    ·simpa using h0
  |stop=>exact absurd rfl hs
  |_=>cases hg
noncomputable def jH(md:Int)(p:Sz43.Program):Sz43.Program:=if md=1 then Sz43.better p else p
noncomputable def zr(mo:Int)(p:Sz43.Program)(n:Nat)(inp:δ):List Int:=if Sz43.ended p.code (Sz43.goes p.code n (Sz43.begun inp)).1=false then [-5]else if mo<((Sz43.goes p.code n (Sz43.begun inp)).1.out.length:Int)then [-1]else (((Sz43.goes p.code n (Sz43.begun inp)).1.out.length:Nat):Int)::((Sz43.goes p.code n (Sz43.begun inp)).1.out++[((Sz43.goes p.code n (Sz43.begun inp)).2:Int)])
theorem aai(md st mo:Int)(tx:ψ)(inp:δ)(h:tx.length<=65536)(h':inp.length<=65536):PySz43.bt_run md st mo (tx.map λ(c:Nat)=>(c:Int)) inp=if mC md st mo=false then [-2]else match Sz43.parse tx with
  | .error k=>[-100-(k:Int)]
  | .ok p=>zr mo (jH md p) st.toNat inp:=by
 have e0:PySz43.bt_run md st mo (tx.map λ(c:Nat)=>(c:Int)) inp=(Sz43.does (.run (Sz43Neutral.nats (tx.map λ(c:Nat)=>(c:Int))) ((tx.map λ(c:Nat)=>(c:Int)).length:Int) md inp (inp.length:Int) st mo)).value::((Sz43.does (.run (Sz43Neutral.nats (tx.map λ(c:Nat)=>(c:Int))) ((tx.map λ(c:Nat)=>(c:Int)).length:Int) md inp (inp.length:Int) st mo)).out++(Sz43.does (.run (Sz43Neutral.nats (tx.map λ(c:Nat)=>(c:Int))) ((tx.map λ(c:Nat)=>(c:Int)).length:Int) md inp (inp.length:Int) st mo)).done):=rfl;rw[e0,Z4,aI];have sz:∀(n m:Nat),n<=m->Sz43.sized m (n:Int)=true:=λn m q=>by rw[zo];exact bj ⟨by omega,by omega⟩
 have e1:=sz tx.length Sz43.LONG (by unfold Sz43.LONG;exact h);have e3:=sz inp.length Sz43.MOSTROOM (by unfold Sz43.MOSTROOM;exact h');have e2:Sz43.does (.run tx (tx.length:Int) md inp (inp.length:Int) st mo)=if Sz43.sized Sz43.LONG (tx.length:Int)=false\/Sz43.sized 1 md=false\/Sz43.sized Sz43.MOSTROOM (inp.length:Int)=false\/Sz43.sized Sz43.MOSTSTEPS st=false\/Sz43.sized Sz43.MOSTROOM mo=false then ⟨-2,[],[]⟩else match Sz43.parse tx with
  | .error k=>⟨-100-(k:Int),[],[]⟩
  | .ok p=>if Sz43.ended (if md=1 then (Sz43.better p).code else p.code) (Sz43.goes (if md=1 then (Sz43.better p).code else p.code) st.toNat (Sz43.begun inp)).1=false then ⟨-5,[],[]⟩else if mo<((Sz43.goes (if md=1 then (Sz43.better p).code else p.code) st.toNat (Sz43.begun inp)).1.out.length:Int)then ⟨-1,[],[]⟩else ⟨((Sz43.goes (if md=1 then (Sz43.better p).code else p.code) st.toNat (Sz43.begun inp)).1.out.length:Nat),(Sz43.goes (if md=1 then (Sz43.better p).code else p.code) st.toNat (Sz43.begun inp)).1.out,[((Sz43.goes (if md=1 then (Sz43.better p).code else p.code) st.toNat (Sz43.begun inp)).2:Int)]⟩:=rfl
 rw[e2,e1,e3,zo,zo,zo];have em:((Sz43.MOSTROOM:Nat):Int)=65536:=rfl;have es:((Sz43.MOSTSTEPS:Nat):Int)=1000000:=rfl;rw[em,es];by_cases hz:(0<=md/\md<=1)/\(0<=st/\st<=1000000)/\0<=mo/\mo<=65536
 ·have er:mC md st mo=true:=bj hz;rw[er,bj (show 0<=md/\md<=((1:Nat):Int) from hz.1),bj hz.2.1,bj hz.2.2,af (by simp),af (by simp)];cases Sz43.parse tx with
  |error k=>rfl
  |ok p=>
   dsimp only;have ec:(if md=1 then (Sz43.better p).code else p.code)=(jH md p).code:=by unfold jH;split<;>rfl
   rw[ec];unfold zr;by_cases h1:Sz43.ended (jH md p).code (Sz43.goes (jH md p).code st.toNat (Sz43.begun inp)).1=false
   ·rw[ah h1,ah h1];rfl
   ·rw[af h1,af h1];by_cases h2:mo<((Sz43.goes (jH md p).code st.toNat (Sz43.begun inp)).1.out.length:Int)
    ·rw[ah h2,ah h2];rfl
    ·rw[af h2,af h2]
 ·have er:mC md st mo=false:=aW hz;rw[er,ah rfl,ah]
  ·rfl
  ·by_cases h1:0<=md/\md<=1
   ·by_cases h2:0<=st/\st<=1000000
    ·exact .inr (.inr (.inr (.inr (aW λq=>hz ⟨h1,h2,q⟩))))
    ·exact .inr (.inr (.inr (.inl (aW h2))))
   ·exact .inr (.inl (aW h1))
inductive Qo(K:ax)(vs:ε)(H:Hp)(Q:VK)(e0:XK):Prop
 |mk (md st mo:Int) (a b:Addr) (tx:ψ) (inp:δ):vs=[.int md,.int st,.int mo,.ref a,.ref b]->(kC K H a (tx.map λ(c:Nat)=>(c:Int)))->gh K H b inp->tx.length<=65536->inp.length<=65536->((∀z∈inp,aN z))->(∀q H',H' q=some (.lst (iv (PySz43.bt_run md st mo (tx.map λ(c:Nat)=>(c:Int)) inp)))->Q (.ref q) H')->Qo K vs H Q e0
theorem aaj(T:Txt K mg t)(oL:aE P w K mg base aM 3 t.pB t.rA ["instructions"] (su t)):aE P w K mg base aM 11 t.t_ t.B6 ["made","steps","most","text","inputs"] (Qo K):=by
 refine T.CZ.ko ["made","steps","most","text","inputs","program","wrong","done"] λH Q hr h nd=>?_
 obtain⟨md,st,mo,a,b,tx,inp,rfl,hT,hB,hl,hl',h64,k⟩:=h;have hr1:=hr.mono (show 1<=10 by decide);have ji:=hr.mono (show 5<=10 by decide);have hr9:=hr.mono (show 9<=10 by decide);refine⟨_,ak (aP (ox (jv (pC (aae T) hr1 T.Lz T.C0 (aa (pv 0) (aa (pv 1) (aa (pv 2) ag)))))) (aq (aC (bV (aa (cJ T.Ma rfl) ag)))) aR)
  (ak (U1 (i:=6) (E:=λv _ _=>∃k:Nat,v=.int (k:Int) 0/\Sz43.parse tx=.error k) T.xc rfl rfl nd rfl rfl rfl rfl T.kK (λP=>aq (aS 5 nd (tm (Z_ (X1 T)) hr9 rfl T.Lv T.yd.kp (ni T.yd) .nil (gW rfl rfl) (aa (pv 3) ag)))) (λP e=>aq (aC (bV (aa (bG s_ (cJ T.L9 rfl) (UX T.xc (pv 6) rfl)) ag)))))
  (ak (aS 7 nd (pC (aag T) ji T.Lx T.CY (aa (gM (aQ bB (pv 0) aF) (pC (Z3 T oL) hr T.Lu T.CV (aa (pv 5) ag)) (pv 5)) (aa (pv 4) (aa (pv 1) ag)))))
  (ak (aP (cG (ig (pv 7))) (aq (aC (bV (aa (cJ T.L_ rfl) ag)))) aR)
  (ak (aP (aQ qV (b8 c_ rfl T.cS c8 (aa (aA (pv 7)) ag)) (pv 2)) (aq (aC (bV (aa (cJ T.Mb rfl) ag)))) aR)
  (aq (aC (bG tI (bG tI (bV (aa (b8 c_ rfl T.cS c8 (aa (aA (pv 7)) ag)) ag)) (aA (pv 7))) (bV (aa (aA (pv 7)) ag))))))))),?_⟩
 dsimp only[bI,Cx.bZ];have eB:=aai md st mo tx inp hl hl';refine⟨_,rfl,_,rfl,_,rfl,md,st,mo,rfl,_,rfl,?_⟩;by_cases hz:(0<=md/\md<=1)/\(0<=st/\st<=1000000)/\0<=mo/\mo<=65536
 case neg=>have er:mC md st mo=false:=aW hz;rw[er]at eB ⊢;exact aD ⟨z1,λq hq=>k q _ (by rw[au,eB];rfl)⟩
 have er:mC md st mo=true:=bj hz;rw[er]at eB ⊢;refine az ?_;rw[af (by simp)]at eB;refine⟨⟨_,rfl,a,tx,rfl,hT,λk' hk' H'=>⟨k',rfl,hk'⟩,λp hp x H1 hX fz=>?_⟩,?_⟩
 case refine_2=>
  rintro n H' a' dx ⟨kk,e1,e2⟩ h1 h2 h3
  have e1:n=(kk:Int):=by injection e1
  refine⟨_,rfl,a',dx,n,rfl,au,(by rw[ay h3];exact au),_,_,rfl,rfl,z1,λq hq=>k q _ ?_⟩;rw[au,eB,e2,e1];rfl
 rw[hp]at eB;obtain⟨o1,oN,o3,o4⟩:=Y9 hp;have O:PO p:=⟨Z6 o1,o3,o4⟩;dsimp only at eB;have hB1:=hB.fz fz;have OB:PO (jH md p):=by
  unfold jH;split
  ·exact Z8 O
  ·exact O
 refine⟨_,rfl,rfl,_,rfl,?_⟩;refine Mt (λy H2=>eV t H2 y (jH md p)/\gh K H2 b inp) (λc kk=>?_) (λc kk=>?_) λy H2 hY=>?_
 ·have c:md=1:=by simpa using c
  refine⟨_,rfl,x,p,rfl,hX,O,oN,λy H2 s2 hY=>kk y H2 ⟨?_,hB1.same s2⟩⟩;unfold jH;rw[ah c];exact hY
 ·have c:md≠1:=by simpa using c
  refine⟨_,rfl,kk x H1 ⟨?_,hB1⟩⟩;unfold jH;rw[af c];exact hX
 obtain⟨pb,epb⟩:∃pb,pb=jH md p:=⟨_,rfl⟩;rw[<-epb]at hY OB eB;have rK:V.int st=V.int ((st.toNat:Nat):Int):=by rw[Int.toNat_of_nonneg hz.2.1.1]
 refine⟨_,rfl,_,rfl,y,b,st.toNat,pb,inp,by rw[rK];rfl,hY.1,OB,hY.2,h64,by omega,λen H3=>?_,λen q dq pp H3 hq hpp lpp=>?_⟩
 ·refine⟨_,rfl,_,rfl,?_⟩;refine aD ?_;unfold zr at eB;rw[ah en]at eB;exact⟨z1,λq hq=>k q _ (by rw[au,eB];rfl)⟩
 ·refine⟨_,rfl,_,rfl,?_⟩;refine az ?_;unfold zr at eB;rw[af (by rw[en];simp)]at eB;obtain⟨r,er⟩:∃r,r=Sz43.goes pb.code st.toNat (Sz43.begun inp):=⟨_,rfl⟩;rw[<-er]at hq hpp lpp eB;refine⟨_,rfl,q,_,dq,_,_,rfl,hq,T.pJ,T.uf,E9 _ _,pp,_,rfl,.inl (aj.of hpp),_,rfl,_,_,rfl,rfl,_,rfl,?_⟩;rw[qp];by_cases hz2:mo<(r.1.out.length:Int)
  ·rw[bj hz2];refine aD ?_;rw[ah hz2]at eB;exact⟨z1,λq hq=>k q _ (by rw[au,eB];rfl)⟩
  rw[aW hz2];refine az ?_;rw[af hz2]at eB;refine⟨_,rfl,q,_,dq,_,_,rfl,hq,T.pJ,T.uf,E9 _ _,pp,_,rfl,.inl (aj.of hpp),z1,λc hc=>?_⟩;have s4:=ae.new (o:=.lst [.int ((iv r.1.out).length:Int)]) hc;refine⟨_,rfl,q,_,dq,_,_,rfl,s4 _ _ hq,T.pJ,T.uf,E9 _ _,c,pp,_,_,rfl,rfl,au,s4 _ _ hpp,(by rw[qp,aZ];show 1+_<=_;omega),λf hf=>?_⟩;have s5:=ae.new (o:=.lst ([.int ((iv r.1.out).length:Int)]++iv r.1.out)) hf;refine⟨_,rfl,q,_,dq,_,_,rfl,s5 _ _ (s4 _ _ hq),T.pJ,T.Dd,aac _ _,z1,λg hg=>?_⟩;have s6:=ae.new (o:=.lst [.int ((r.2:Nat):Int)]) hg;refine⟨f,g,_,_,rfl,rfl,s6 _ _ au,au,(by rw[a8,qp,aZ];show 1+_+1<=_;omega),λq' hq'=>k q' _ ?_⟩;rw[au,eB,qp];unfold iv;rw[bx,dA];rfl
end My
namespace L2
open PySem PySem.Spec PyProof.Rows
theorem Qp(x:Str):Str.empty++x=x:=by
 cases x with
 |mk c=>show Str.mk (#[]++c)=_;simp
theorem aak(x y:Str):(x++y).cps.toList=x.cps.toList++y.cps.toList:=by
 cases x with
 |mk c=>
  cases y with
  |mk d=>show(c++d).toList=_;simp
section
variable{X:Cx}{e:Expr}{te:TE}{p1 p2 pos:Pos}
inductive Qq(x:Str)(Q:VK)(v:V)(H1:Hp):Prop
 |mk (i:Int):v=.int i->i.natAbs.log2<1920->(x++Str.ofString (toString i)).length<=1000->Q (.str (x++Str.ofString (toString i))) H1->Qq x Q v H1
def tFs(x:Str)(te:TE):TE:=λσ H Q=>te σ H λv H1=>Qq x Q v H1
theorem aal{x:Str}{j:Nat}(he:PE X e te)(hx:x.length<=100:=by decide):PE X (.JoinedStr [.Constant (.str x) j p1,.FormattedValue e (-1) none p2] pos) (tFs x te):=by
 intro pins s σ H Q I h;have hs:=aZ;refine JoinedStr_many (joinParts_cons (Calls.Constant_str ⟨?_,joinParts_cons (FormattedValue_plain (aG (he pins _ σ H _ (I.tok _) h) λu s1 ⟨v,H1,I1,rv,i,ev,hl,hz,q⟩=>?_))⟩))
 ·rw[Qp];omega
 ·subst ev;obtain⟨t,rfl⟩:=rv;rw[Qp];refine formatField_int_small hl ⟨?_,joinParts_nil ?_ ?_⟩
  ·omega
  ·exact⟨.str (x++Str.ofString (toString i)),H1,(I1.tok _).tok _,⟨_,rfl⟩,q⟩
  ·omega
end
end L2
namespace L2
open PySem PySem.Spec PyProof.Rows
def qr(xs:Array Nat):Prop:=xs.toList.Pairwise (· < ·)
def ia(L:Bool)(t:SetTable):Prop:=t.led=L/\t.dummies= #[]/\qr t.place
theorem qr.lt{xs:Array Nat}(h:qr xs){i k:Nat}(hik:i<k)(hk:k<xs.size):xs.getD i 0<xs.getD k 0:=by
 have h1:i<xs.size:=by omega
 have:=List.pairwise_iff_getElem.mp h i k (by simpa using h1) (by simpa using hk) hik;simp only[Array.getElem_toList]at this;simpa[Array.getD,h1,hk]using this
theorem Fb{xs:Array Nat}{j:Nat}(hs:qr xs):∀(fuel lo hi:Nat),hi<=xs.size->hi-lo<=fuel->lo<=hi->(∀i,i<lo->xs.getD i 0<j)->(∀i,hi<=i->i<xs.size->j<=xs.getD i 0)->SetTable.below.go xs j fuel lo hi<=xs.size/\(∀i,i<SetTable.below.go xs j fuel lo hi->xs.getD i 0<j)/\∀i,SetTable.below.go xs j fuel lo hi<=i->i<xs.size->j<=xs.getD i 0
 |0,lo,hi,h1,h2,h3,h4,h5=>by
  have e:lo=hi:=by omega
  subst e;exact⟨h1,h4,h5⟩
 |fuel+1,lo,hi,h1,h2,h3,h4,h5=>by
  have eg:SetTable.below.go xs j (fuel+1) lo hi=if lo<hi then (if xs.getD ((lo+hi)/2) j<j then SetTable.below.go xs j fuel ((lo+hi)/2+1) hi else SetTable.below.go xs j fuel lo ((lo+hi)/2))else lo:=rfl
  rw[eg];by_cases hl:lo<hi
  ·have hm:(lo+hi)/2<xs.size:=by omega
   have ed:xs.getD ((lo+hi)/2) j=xs.getD ((lo+hi)/2) 0:=by simp[Array.getD,hm]
   rw[ah hl,ed];by_cases hc:xs.getD ((lo+hi)/2) 0<j
   ·rw[ah hc];refine Fb hs fuel ((lo+hi)/2+1) hi h1 (by omega) (by omega) (λi hi'=>?_) h5;by_cases e:i=(lo+hi)/2
    ·rw[e];exact hc
    ·exact vS (hs.lt (i:=i) (k:=(lo+hi)/2) (by omega) hm) hc
   ·rw[af hc];refine Fb hs fuel lo ((lo+hi)/2) (by omega) (by omega) (by omega) h4 λi hi' hi2=>?_
    by_cases e:i=(lo+hi)/2
    ·rw[e];omega
    ·have:=hs.lt (i:=(lo+hi)/2) (k:=i) (by omega) hi2;omega
  ·rw[af hl];have e:lo=hi:=by omega
   subst e;exact⟨h1,h4,h5⟩
theorem Fc{xs:Array Nat}(hs:qr xs)(j:Nat):SetTable.below xs j<=xs.size/\(∀i,i<SetTable.below xs j->xs.getD i 0<j)/\∀i,SetTable.below xs j<=i->i<xs.size->j<=xs.getD i 0:=Fb hs xs.size 0 xs.size (aJ _) (by omega) (by omega) (λi h=>absurd h (by omega)) λi h1 h2=>absurd h1 (by omega)
theorem aam{xs:Array Nat}(hs:qr xs){i:Nat}(hi:i<xs.size):SetTable.below xs (xs.getD i 0+1)=i+1:=by
 obtain⟨b1,b2,b3⟩:=Fc hs (xs.getD i 0+1);by_cases h:SetTable.below xs (xs.getD i 0+1)<=i
 ·have:=b3 i h hi;omega
 ·by_cases h2:SetTable.below xs (xs.getD i 0+1)=i+1
  ·exact h2
  ·have h3:=b2 (i+1) (by omega);have h4:=hs.lt (i:=i) (k:=i+1) (by omega) (by omega);omega
theorem aan{xs:Array Nat}(hs:qr xs):SetTable.below xs 0=0:=by
 obtain⟨b1,b2,b3⟩:=Fc hs 0;by_cases h:SetTable.below xs 0=0
 ·exact h
 ·have:=b2 0 (by omega);omega
theorem vK{xs:Array Nat}{i:Nat}(hi:i<xs.size):xs.getD i 0=xs[i]:=by simp[Array.getD,hi]
theorem aao{t:SetTable}{L:Bool}(h:ia L t){j:Nat}(hn:t.place[SetTable.below t.place j]? ≠some j):ia L (t.put j).1:=by
 obtain⟨h1,h2,h3⟩:=h;obtain⟨b1,b2,b3⟩:=Fc h3 j;refine⟨h1,?_,?_⟩
 ·show(if SetTable.has t.dummies j=true then _ else t.dummies)= #[];rw[h2];rfl
 ·show((t.place.extract 0 (SetTable.below t.place j)).push j++t.place.extract (SetTable.below t.place j) t.place.size).toList.Pairwise (· < ·);generalize hp:SetTable.below t.place j=p at*;rw[Array.toList_append,RG,Array.toList_extract,Array.toList_extract,List.extract_eq_take_drop,List.extract_eq_take_drop];have e1:List.take (p-0) (List.drop 0 t.place.toList)=t.place.toList.take p:=by simp
  have e2:List.take (t.place.size-p) (List.drop p t.place.toList)=t.place.toList.drop p:=Rn (by simp);rw[e1,e2];have l1:∀x∈t.place.toList.take p,x<j:=λx hx=>by obtain⟨i,hi⟩:=we hx;have il:i<(t.place.toList.take p).length:=(bN.mp hi).1;rw[vO,gI]at il;have:=b2 i (by omega);rw[vK (by omega)]at this;rw[List.getElem?_take_of_lt (by omega),qB,jq (by omega)]at hi;rw[<-b_ hi];exact this
  have l2:∀x∈t.place.toList.drop p,j<x:=λx hx=>by
   obtain⟨i,hi⟩:=we hx;have il:i<(t.place.toList.drop p).length:=(bN.mp hi).1;rw[zB,gI]at il;rw[List.getElem?_drop,qB,jq (by omega)]at hi;have ex:=b_ hi;have hps:p<t.place.size:=by omega
   have h0:=b3 p (aJ _) hps;rw[vK hps]at h0;have hne:t.place[p]≠j:=λe=>hn (by rw[jq hps,e])
   have h5:t.place[p]<=x:=by
    rw[<-ex];by_cases e:i=0
    ·subst e;exact nZ (by simp)
    ·have:=h3.lt (i:=p) (k:=p+i) (by omega) (by omega);rw[vK hps,vK (by omega)]at this;exact qw this
   omega
  rw[mJ,List.pairwise_append];refine⟨h3.sublist (Q_ _ _),?_,λa ha b hb=>?_⟩
  ·rw[List.singleton_append,RH];exact⟨l2,h3.sublist (List.drop_sublist _ _)⟩
  ·rcases bL.mp hb with e |e
   ·rw[sN]at e;rw[e];exact l1 a ha
   ·exact vS (l1 a ha) (l2 b e)
theorem zt{t:SetTable}{L:Bool}(h:t.led=L)(n:Nat):ia L (t.standIn n):=by refine⟨h,rfl,?_⟩;show(Array.range n).toList.Pairwise (· < ·);rw[Array.toList_range];exact RI
theorem aap{t:SetTable}(hd:t.dummies= #[]){h:Int}{j:Nat}{b:Bool}(e:t.freeSlot h=some (j,b)):t.place[SetTable.below t.place j]? ≠some j:=by
 have nod:∀i,t.slot i≠ .dummy:=λi z=>by
  unfold SetTable.slot at z;dsimp only at z;split at z
  ·cases z
  ·rw[hd]at z;cases z
 have go:∀(fuel:Nat)(p:SetTable.Probe)(q:Nat)(dm:Option Nat),p.dummy=none->SetTable.probe.go t (λ_=>h+1) h fuel p=some (.empty q dm)->dm=none/\t.slot q=.empty:=by
  intro fuel
  induction fuel with
  |zero=>intro p q dm _ z;cases z
  |succ f ih=>
   intro p q dm hp z;unfold SetTable.probe.go at z;split at z
   ·next hs=>cases z;exact⟨hp,hs⟩
   ·next hs=>exact absurd hs (nod _)
   ·next i hs=>
    split at z
    ·cases z
    ·refine ih _ q dm ?_ z;unfold SetTable.advance;split
     ·exact hp
     ·exact hp
 unfold SetTable.freeSlot at e;split at e
 ·next q dm hq=>obtain⟨e1,e2⟩:=go _ _ q dm rfl hq;subst e1;have e:(q,false)=(j,b):=b_ e;cases e;intro z;unfold SetTable.slot at e2;dsimp only at e2;rw[z]at e2;simp at e2
 ·cases e
theorem aaq{t:SetTable}{L:Bool}(h:ia L t)(es:Array (Int×Value))(hs:Int)(x:Value):ia L (layNew t es hs x).2.1:=by
 unfold layNew;split
 ·next slot wd e=>
  have hp:=aao h (aap h.2.1 e);show ia L ((t.put slot).1.orStandIn _);unfold SetTable.orStandIn;split
  ·exact hp
  ·exact zt hp.1 _
 ·exact zt h.1 _
theorem aar{t:SetTable}{L:Bool}(h:ia L t)(es:Array (Int×Value))(n:Nat):ia L (relayAll t es n).2.1:=by
 unfold relayAll;split
 ·next t' order e=>
  dsimp only;split
  ·unfold SetTable.relaid SetTable.laid at e;cases ho:SetTable.layClean (SetTable.sizeAbove n-1) (es.map (·.1))with
   |none=>rw[ho]at e;cases e
   |some owner=>
    rw[ho]at e;cases e;refine⟨h.1,rfl,?_⟩;show(List.map (·.1) (List.filterMap (λj=>(owner.getD j none).map (j,·)) (List.range (SetTable.sizeAbove n-1+1)))).toArray.toList.Pairwise (· < ·);rw[List.toList_toArray,List.map_filterMap];have e2:(λj=>((owner.getD j none).map (j,·)).map (·.1))=λ(j:Nat)=>if (owner.getD j none).isSome=true then some j else none:=by funext j;cases owner.getD j none<;>rfl
    rw[e2];have e3:∀l:List Nat,l.filterMap (λ(j:Nat)=>if (owner.getD j none).isSome=true then some j else none)=l.filter λj=>(owner.getD j none).isSome:=by
     intro l
     induction l with
     |nil=>rfl
     |cons a l ih=>rw[Fs,qK,ih];cases(owner.getD a none).isSome<;>rfl
    rw[e3];exact RI.filter _
  ·exact zt h.1 _
 ·exact zt h.1 _
end L2
namespace L2
open PySem PySem.Spec PyProof.Rows
def lA:Value->Int
 | .int i _=>i
 |_=>0
def jk(w:World):Bool:=w.params.followText "set-order"
structure vG(P:Program)(w:World)(S:Int->Bool)(n:Nat)(es:Array (Int×Value))(t:SetTable):Prop where
 el:ElemsOf (intKind P w) es.toList
 mem:∀k,S k=true ↔ ∃e∈es.toList,(intKind P w).is k e.2=true
 sm:es.size<scanBound
 fit:t.fits es.size=true
 sz:es.size=n
 tok:ia (!(jk w)) t
 nd:(es.toList.map λe=>lA e.2).Nodup
def ic(P:Program)(w:World)(h:Heap)(a:Addr)(S:Int->Bool)(n:Nat):Prop:=∃o es ep t,h.get? a=some o/\o.ExactSet/\o.data=.set es ep t/\vG P w S n es t
theorem ic.keep{P:Program}{w:World}{h h':Heap}{a:Addr}{S:Int->Bool}{n:Nat}(x:ic P w h a S n)(k:∀o,h.get? a=some o->h'.get? a=some o):ic P w h' a S n:=by obtain⟨o,es,ep,t,h1,r⟩:=x;exact⟨o,es,ep,t,k o h1,r⟩
section
variable{P:Program}{w:World}{A:Around}{E:ρ}{s:Shared}
theorem Qr{h:Heap}{a:Addr}{o:Obj}{es es':Array (Int×Value)}{ep n:Nat}{t t':SetTable}{S:Int->Bool}(g1:h.get? a=some o)(g2:o.ExactSet)(g3:o.data=.set es ep t)(D:vG P w S n es' t'):(h.update a (Obj.putSet es' t')).get? a=some {o with data:=.set es' (ep+1) t'}/\ic P w (h.update a (Obj.putSet es' t')) a S n:=by
 have q:(h.update a (Obj.putSet es' t')).get? a=some {o with data:=.set es' (ep+1) t'}:=by have z:=n_ (Obj.putSet es' t') g1 (by rw[putSet_of es' t' g3];rfl);rw[putSet_of es' t' g3]at z;exact z
 exact⟨q,_,es',ep+1,t',q,g2,rfl,D⟩
theorem Qs{g:Bool->Sem Unit}(hg:∀(b:Bool)(s1:Shared)(Q':Unit->Shared->Prop),Q' () s1->wpAny (model P w) A (g b) Q' E s1) {a:Addr}{o:Obj}{es es1:Array (Int×Value)}{ep n:Nat}{t t2:SetTable}{S:Int->Bool}(g1:s.heap.get? a=some o)(g2:o.ExactSet)(g3:o.data=.set es ep t)(D:vG P w S n es1 t2){wd:Bool}{R:Option Bool->Shared->Prop} (h:∀h',Heap.SameBut a s.heap h'->ic P w h' a S n->R (some true) {s with heap:=h'}):wpAny (model P w) A (do
    storeSet a es1 t2
    if (!wd&&t2.tooFull)=true then do
      g (relayAll t2 es1 (SetTable.grown es1.size)).2.2
      storeSet a (relayAll t2 es1 (SetTable.grown es1.size)).1 (relayAll t2 es1 (SetTable.grown es1.size)).2.1
      pure (some true)
     else pure (some true)) R E s:=by
 refine ai (wpAny_storeSet_of g1 g3 ?_ (fits_of_scanBound D.sm));obtain⟨q1,q2⟩:=Qr g1 g2 g3 D;have sb:=FP s.heap a (Obj.putSet es1 t2);split
 ·have pm:=relayAll_perm t2 es1 (SetTable.grown es1.size);have ft:=relayAll_fits t2 es1 (SetTable.grown es1.size);have tk:=aar D.tok es1 (SetTable.grown es1.size);generalize relayAll t2 es1 (SetTable.grown es1.size)=Rl at pm ft tk ⊢;obtain⟨yu,t3,gv⟩:=Rl;dsimp only at pm ft tk ⊢;have sz:yu.size=es1.size:=by rw[<-gI,pm.length_eq,gI]
  have D2:vG P w S n yu t3:=⟨D.el.perm pm,λk=>(D.mem k).trans ⟨λ⟨e,he,q⟩=>⟨e,pm.mem_iff.mpr he,q⟩,λ⟨e,he,q⟩=>⟨e,pm.mem_iff.mp he,q⟩⟩,by rw[sz];exact D.sm,ft,sz.trans D.sz,tk,(pm.map _).nodup_iff.mpr D.nd⟩;refine ai (hg _ _ _ ?_);refine ai (wpAny_storeSet_of q1 rfl ?_ (fits_of_scanBound D2.sm));obtain⟨_,q4⟩:=Qr q1 g2 rfl D2;exact aB (h _ (sb.trans (FP _ a _)) q4)
 ·exact aB (h _ sb q2)
theorem Fd{k:Int}{v:Value}(h:(intKind P w).is k v=true):lA v=k:=by obtain⟨t,rfl⟩:=Value.isInt_shape h;rfl
theorem aas{a:Addr}{S:Int->Bool}{n:Nat}{k:Int}{tk:Tok}{Q:Bool->Shared->Prop}(hS:ic P w s.heap a S n)(room:n+1<scanBound) (h:∀h',Heap.SameBut a s.heap h'->ic P w h' a (λk'=>S k'||decide (k'=k)) (if S k then n else n+1)->Q (!S k) {s with heap:=h'}):wpAny (model P w) A (setAddHashed a (.int k tk) ((intKind P w).hash k)) Q E s:=by
 obtain⟨o,es,ep,t,g1,g2,g3,D⟩:=hS;have hk:(intKind P w).is k (.int k tk)=true:=intKind_is _ _ _ _;have hsc:(Value.int k tk).scannable=true:=rfl;unfold setAddHashed setAddHashedIn;refine jn (ai (wj g1 g3 D.fit ?_));dsimp only;rw[byScan_of hsc D.sm D.el];simp only[↓reduceIte];unfold setAddByScan;refine ai (ai (vU (ai (wpAny_setScan_of hk g1 g3 D.fit D.el ?_))));cases hr:List.findIdx? (λe=>(intKind P w).is k e.2) es.toList with
 |some j=>
  dsimp only;obtain⟨j1,j2,_⟩:=mM.mp hr;have yes:S k=true:=(D.mem k).mpr ⟨es.toList[j],vY j1,j2⟩;refine aB (aB ?_);have z:=h s.heap (Heap.SameBut.refl a s.heap) ⟨o,es,ep,t,g1,g2,g3,D.el,λk'=>by rw[zO,oq,<-D.mem k'];exact⟨λc=>c.elim id λe=>e▸yes,.inl⟩,D.sm,D.fit,by rw[yes];exact D.sz,D.tok,D.nd⟩
  rw[yes]at z;exact z
 |none=>
  dsimp only;have no:S k=false:=by
   cases c:S k with
   |false=>rfl
   |true=>obtain⟨e,he,q⟩:=(D.mem k).mp c;have z:=F2.mp hr e he;rw[q]at z;cases z
  have gw:∀(b:Bool){s1:Shared}{Q':Unit->Shared->Prop},Q' () s1->wpAny (model P w) A (match b with |true=>rule "set.scan.the-table-gave-way" |false=>pure ()) Q' E s1:=λb s1 Q' q=>by
   cases b
   ·exact aB q
   ·exact vU q
  have pm:=layNew_perm t es ((intKind P w).hash k) (.int k tk);have ft:=layNew_fits t es ((intKind P w).hash k) (.int k tk);have to:=aaq D.tok es ((intKind P w).hash k) (.int k tk);generalize layNew t es ((intKind P w).hash k) (.int k tk)=Ln at pm ft to ⊢;obtain⟨es1,t1,wd,gv⟩:=Ln;dsimp only at pm ft to ⊢;rw[RG]at pm;have sz:es1.size=n+1:=by rw[<-gI,pm.length_eq,a8,gI,D.sz];rfl
  have nd1:(es1.toList.map λe=>lA e.2).Nodup:=by
   rw[(pm.map _).nodup_iff,dA,vZ];refine⟨D.nd,by simp,λx hx y hy=>?_⟩;have ey:y=k:=by simpa[lA]using hy
   obtain⟨e,he,ex⟩:=d_.mp hx;obtain⟨⟨k',hk',_⟩,_⟩:=D.el e he
   rintro rfl
   have e2:k'=k:=by rw[<-Fd hk',ex,ey]
   rw[e2]at hk';have z:=(D.mem k).mpr ⟨e,he,hk'⟩;rw[no]at z;cases z
  have Dn:∀t2:SetTable,t2.fits es1.size=true->ia (!(jk w)) t2->vG P w (λk'=>S k'||decide (k'=k)) (n+1) es1 t2:=λt2 f o=>⟨(D.el.push hk hsc).perm pm,mem_push_iff hk D.mem pm,by rw[sz];exact room,f,sz,o,nd1⟩
  have fin:∀h',Heap.SameBut a s.heap h'->ic P w h' a (λk'=>S k'||decide (k'=k)) (n+1)->Q true {s with heap:=h'}:=λh' c d=>by have z:=h h' c;rw[no]at z;exact z d
  refine ai (gw _ ?_);split
  ·refine ai ?_;rw[hashByValue_scannable 8 hsc];refine aB ?_;refine Qs (λb s1 Q' q=>?_) g1 g2 g3 (Dn _ ?_ ?_) ?_
   ·cases b
    ·exact aB q
    ·exact vU q
   ·split
    ·exact ft
    ·exact SetTable.fits_plain_off ft
   ·split
    ·exact to
    ·exact to
   ·intro h' c d;dsimp only;exact aB (fin h' c d)
  ·refine ai (aB ?_);simp only[↓reduceIte];refine Qs (λb s1 Q' q=>?_) g1 g2 g3 (Dn _ ft to) ?_
   ·cases b
    ·exact aB q
    ·exact vU q
   ·intro h' c d;dsimp only;exact aB (fin h' c d)
end
end L2
namespace L2
open PySem PySem.Spec PyProof.Rows
abbrev j_(w:World):Obj:= {cls:=.type "set",dict:=none,data:=.set #[] 0 (.fresh 0 0 (!(jk w)))}
section
variable{P:Program}{w:World}{A:Around}{E:ρ}{s:Shared}
theorem aat(a:Value){Q1:ρ}(h:Q1 (.ref s.heap.objs.size) {s with heap:=s.heap.push (j_ w)}):codeAny (model P w) A (.call (.builtin "set.__new__") ⟨[.type "set",a],[]⟩) (wants Q1 E) s:=by
 refine codeAny_of_tree ?_;show wpAny _ A.in1 (checkBuiltinCall "set.__new__" ⟨[.type "set",a],[]⟩>>=λ_=>again (.builtin "set.__new__" ⟨[.type "set",a],[]⟩)) _ _ s;refine ai (wpAny_of_eq (PySem.F.newCall_set_1 a) (aB ⟨qG PySem.F.plain_set_new _,qF PySem.F.entry_set_new ?_⟩));rw[sM PySem.F.plain_set_new _];unfold Builtin.«set.__new__» Builtin.Frozenset.newClass;have q:=sub_set_self;obtain⟨hp,g,d,tk,os⟩:=s;dsimp only at h ⊢
 wp_walk
 refine wk (aB ?_);dsimp only;simp only[newObj];exact ai (wpAny_alloc (aB (aB h)))
end
section
variable{P:Program}{w:World}{A:Around}{R:Result->Shared->Prop}{I:Addr}{fp wr:θ}{G:Array GenState->Array GenState->Prop}{n:Nat}{Pv:Nat->Value->Prop}{St:Nat->Shared->Prop}
theorem aau(W:WalksS P w A.in1 I fp wr G n Pv St)(a:Addr)(na:a ∉ fp)(val:Nat->Int)(hv:∀i v,Pv i v->∃t,v=.int (val i) t)(hb:n+1<scanBound):∀(k i:Nat)(s:Shared),n-i=k->i<=n->St i s->ic P w s.heap a (λz=>(firstMet val i).any (· ==z)) (firstMet val i).length->(∀s',Moved (a::wr) G s s'->ic P w s'.heap a (λz=>(firstMet val n).any (· ==z)) (firstMet val n).length->R (.ok (.ret .none)) s')->codeAny (model P w) A (.builtin "set.update.loop" ⟨[.ref a,.ref I],[]⟩) R s:=by
 have nw:a ∉ wr:=λz=>na (W.sub _ z)
 have up:∀b∈wr,b∈a::wr:=λb z=>bM _ z
 intro k
 induction k with
 |zero=>
  intro i s e1 e2 st hS kk;obtain rfl:i=n:=by omega
  refine qF abD ?_;rw[sM RJ _];show wpAny _ A.in1 (pyNext (.ref I)>>=_) _ _ s;refine ai (W.done s _ _ st λs' mv=>?_);show wpAny _ A.in1 (ret Value.none) _ _ s';exact aB (kk s' (mv.mono up) (hS.keep λo e=>mv.heap a o nw e))
 |succ k ih=>
  intro i s e1 e2 st hS kk;have lt:i<n:=by omega
  refine qF abD ?_;rw[sM RJ _];show wpAny _ A.in1 (pyNext (.ref I)>>=_) _ _ s;refine ai (W.item i s _ _ lt st λv s' hP st' mv=>?_);obtain⟨t,rfl⟩:=hv i v hP;have hS':=hS.keep λo e=>mv.heap a o nw e
  show wpAny _ A.in1 (holding [Value.int (val i) t] (setAdd a (.int (val i) t))>>=_) _ _ s';refine ai (jn ?_);unfold setAdd;refine jn (ai ((intKind P w).pyHash (k:=val i) (intKind_is _ _ _ _) ?_));have rm:(firstMet val i).length+1<scanBound:=by have:=firstMet_length_le val i;omega
  refine aas (s:= {s' with toks:=s'.toks+1}) hS' rm λh' sb Fe=>?_
  have qm:ic P w h' a (λz=>(firstMet val (i+1)).any (· ==z)) (firstMet val (i+1)).length:=by
   have e1:(λz=>(firstMet val (i+1)).any (· ==z))=λz=>(firstMet val i).any (· ==z)||decide (z=val i):=funext λz=>by rw[firstMet_succ,step_any]
   have e2:(firstMet val (i+1)).length=if (firstMet val i).any (· ==val i)then (firstMet val i).length else (firstMet val i).length+1:=by rw[firstMet_succ,step_length]
   rw[e1,e2];exact Fe
  refine aB ⟨qG RJ _,ih (i+1) _ (by omega) lt (W.frame _ s' _ _ st' (mI _) λb z o e=>?_) qm λs2 mv2 sv=>?_⟩
  ·rw[sb.2 b (λc:b=a=>na (c▸z))];exact e
  ·refine kk s2 (Moved.trans W.gtrans ((mv.mono up).then_heap (mI _) λb o z e=>?_) mv2) sv;rw[sb.2 b (λc:b=a=>z (c▸dN))];exact e
end
section
variable{P:Program}{w:World}{A:Around}{E:ρ}{s:Shared}
theorem aav{h:Heap}{a:Addr}(g:h.get? a=some (j_ w)):ic P w h a (λ_=>false) 0:=⟨_, #[],0,_,g,⟨rfl,rfl,rfl⟩,rfl,λe he=>by simp at he,λk=>by simp,by decide,rfl,rfl,⟨rfl,rfl,List.Pairwise.nil⟩,zD⟩
set_option maxHeartbeats 3200000 in
theorem aaw{l:Addr}{its:Array Value}{ns:δ}{Q:ρ}(hh:A.handled=none)(hl:s.heap.IsList l its)(hi:IntsAre its.toList ns)(hb:its.size+1<scanBound) (h:∀(h':Heap)(tk:Nat),ic P w h' s.heap.objs.size (λz=>(firstMet (λi=>ns.getD i 0) its.size).any (· ==z)) (firstMet (λi=>ns.getD i 0) its.size).length->(∀b o,b<s.heap.objs.size->s.heap.get? b=some o->h'.get? b=some o)->Q (.ref s.heap.objs.size) {s with heap:=h',toks:=tk}):wpAny (model P w) A (call (.type "set") [.ref l]) Q E s:=by
 obtain⟨c,tl,mro⟩:=qN.mro;have made:=qN.made;have sub:=qN.sub;refine sF (codeAny_of_tree ?_);show wpAny _ _ (callAny (.type "set") _) _ _ _;refine aB ⟨Rh _ (by decide+kernel),qF PySem.F.entry_type_call ?_⟩;rw[Around.under_plain (weight_type_call_type "set" [.ref l] []) rfl];have q1:=qN.notType;have q2:=qN.canCreate;have q3:=PySem.F.typeCall_set_1 (.ref l)
 repeat (any_goals (first |assumption |wp_step))
 refine mH (aat (.ref l) (E:=E) (Q1:=λobj s1=>obj=.ref s.heap.objs.size/\s1= {s with heap:=s.heap.push (j_ w)}) ⟨rfl,rfl⟩) λr s1 hr=>?_
 cases r with
 |error e=>exact hr
 |ok fl=>
  cases fl with
  |ret obj=>
   obtain⟨rfl,rfl⟩:=hr;have gS:(s.heap.push (j_ w)).get? s.heap.objs.size=some (j_ w):=cw _ rfl;have tS:Shared.TypeIs {s with heap:=s.heap.push (j_ w)} (.ref s.heap.objs.size) "set":=⟨_,gS,rfl⟩;have q4:=qN.init.lookup;have q5:=qN.init.bind (.ref s.heap.objs.size)
   repeat (any_goals (first |assumption |wp_step))
   refine mH (Rk (R:=wants (λr s2=>r=.none/\∃h' tk,s2= {s with heap:=h',toks:=tk}/\ ic P w h' s.heap.objs.size (λz=>(firstMet (λi=>ns.getD i 0) its.size).any (· ==z)) (firstMet (λi=>ns.getD i 0) its.size).length/\ (∀b o,b<s.heap.objs.size->s.heap.get? b=some o->h'.get? b=some o)) E) qN.init.plain PySem.F.entry_set_init (check_set_init_1 tS ?_)) λr2 s2 hr2=>?_
   ·obtain⟨ol,gl,cl,nl,dl⟩:=hl;obtain⟨ocls,odict,odata,abE⟩:=ol;simp only at cl dl;subst cl;subst dl;have gl':=bu (j_ w) gl;have q6:=PySem.F.sub_list_set;have q7:=PySem.F.sub_list_frozenset;have q8:(Value.type "list"==Value.type "dict")=false:=by decide
    have hl1:(s.heap.push (j_ w)).IsList l its:=⟨_,gl',rfl,nl,rfl⟩;unfold Builtin.«set.__init__» noKeywords Builtin.Frozenset.updateFrom;generalize hPI:pyIter=PI
    wp_walk
    subst hPI;refine Fu hl1 (ai (wpAny_runValue ?_));have lS:l<s.heap.objs.size:=a7 gl;have h3:A.in1.in1.in1.handled=none:=by simp[hh]
    have nI:l≠(s.heap.push (j_ w)).objs.size:=by rw[e8];exact bQ (sJ lS)
    have nS:s.heap.objs.size ∉ [(s.heap.push (j_ w)).objs.size,l]:=by rw[e8];simp only[aX,sN,dB,dC,not_or];exact⟨bQ (sE _),mG lS⟩
    have vals:∀(i:Nat)(v:Value),its[i]? =some v->∃t,v=.int ((λi=>ns.getD i 0) i) t:=λi v q=>hi.int_at i v (by rw[qB];exact q)
    refine aau ((Walks.list h3 _ l nI its).toS) s.heap.objs.size nS (λi=>ns.getD i 0) vals hb (its.size-0) 0 _ (by omega) (bS _) ⟨⟨_,cw _ rfl,rfl,rfl⟩,(hl1.push _)⟩ ?c0 ?c1
    case c0=>exact aav (bu _ gS)
    case c1=>
     intro s' mv hS';obtain⟨h',g',d',tk',os'⟩:=s';have eg:g'=s.gens:=mv.gens;have ed:d'=s.drawn:=mv.drawn;have eo:os'=s.os:=mv.os;subst eg ed eo;show wpAny _ _ _ _ _ _;refine aB ?_;show wpAny _ _ (ret Value.none) _ _ _;refine aB ⟨rfl,h',tk',rfl,hS',λb o lb e=>?_⟩;have b1:b≠s.heap.objs.size:=bQ lb;have b2:b≠(s.heap.push (j_ w)).objs.size:=by rw[e8];exact bQ (sJ lb)
     exact mv.heap b o (by simp only[aX,sN,dB,dC,not_or];exact⟨b1,b2⟩) (bu _ (bu _ e))
   ·cases r2 with
    |error e=>exact hr2
    |ok fl2=>
     cases fl2 with
     |ret r=>
      obtain⟨rfl,h',tk,rfl,hS',hk'⟩:=hr2
      repeat (any_goals (first |assumption |wp_step))
      exact h _ _ hS' hk'
     |_=>exact hr2.elim
  |_=>exact hr.elim
end
end L2
namespace L2
open PySem PySem.Spec PyProof.Rows
theorem qt:Slot "set_iterator" "__next__" "set_iterator.__next__":=.of (owner:="set_iterator") (n:="__next__") (by rw[typeLookup_type,Rj];kernel_rfl) (by decide+kernel) (by decide+kernel) (by decide+kernel) (by first |exact .inl (by decide+kernel) |exact .inr (by decide+kernel)) (by rw[isSubtype_type];kernel_rfl)
theorem Qt:entryFor table "set_iterator.__next__"=some Builtin.«set_iterator.__next__»:=entryFor_of_tree (by kernel_rfl)
theorem Qu(a:Value):argsOk "set_iterator.__next__" ⟨[a],[]⟩:=by unfold argsOk;kernel_rfl
theorem aax:entryFor table "set.__iter__"=some Builtin.«frozenset.__iter__»:=entryFor_alias (id':="frozenset.__iter__") (by kernel_rfl) rfl (by decide+kernel) (by kernel_rfl)
theorem Qv:Slot "set_iterator" "__iter__" "set_iterator.__iter__":=.of (owner:="set_iterator") (n:="__iter__") (by rw[typeLookup_type,Rj];kernel_rfl) (by decide+kernel) (by decide+kernel) (by decide+kernel) (by first |exact .inl (by decide+kernel) |exact .inr (by decide+kernel)) (by rw[isSubtype_type];kernel_rfl)
theorem Ff{α:Type}:∀(l:List α)(v:Nat)(h:v<l.length),(l[v]::l.eraseIdx v).Perm l
 |x::l,0,_=>List.Perm.refl _
 |x::l,v+1,h=>(List.Perm.swap _ _ _).trans ((Ff l v (by simpa using h)).cons x)
theorem Qw{α:Type}(f:Nat->Nat):∀(n k:Nat)(l:List α)(out:Array α),n=l.length->(pickOrder.go f n k l out).toList.Perm (out.toList++l)
 |0,k,l,out,e=>by obtain rfl:=abB e.symm;simp[pickOrder.go]
 |n+1,k,l,out,e=>by have hv:f k%l.length<l.length:=Nat.mod_lt _ (by omega);unfold pickOrder.go;rw[aL hv];refine(Qw f n (k+1) _ _ (by rw[List.length_eraseIdx_of_lt hv];omega)).trans ?_;rw[RG,mJ];exact(Ff l _ hv).append_left _
section
variable{M:Model}{P:Program}{w:World}{A:Around}{E:ρ}{s:Shared}
theorem aay{src:Source}{n:Nat}{Q:Nat->Shared->Prop}(hn:n≠0)(h:∀v d,v<n->Q v {s with drawn:=d}):wpAny M A (choose src n) Q E s:=λ_ _ _=>⟨hn,h _ _ (Nat.mod_lt _ (Nat.pos_of_ne_zero hn))⟩
theorem Qx{α:Type}:∀(n:Nat)(xs:List α)(s:Shared)(Q:List α->Shared->Prop),n=xs.length->(∀ys d,ys.Perm xs->Q ys {s with drawn:=d})->wpAny M A (drawOrder n xs) Q E s
 |0,[],s,Q,_,h=>aB (h [] s.drawn (List.Perm.refl _))
 |0,_::_,_,_,e,_=>absurd e (by simp)
 |n+1,[],_,_,e,_=>absurd e (by simp)
 |n+1,x::xs,s,Q,e,h=>by unfold drawOrder;refine ai (aay (by simp) λv d hv=>?_);have gx:(x::xs)[v]? =some (x::xs)[v]:=aL hv;rw[gx];dsimp only;refine ai (Qx n ((x::xs).eraseIdx v) _ _ (by rw[List.length_eraseIdx_of_lt hv];simpa using e) λys d' pm=>?_);refine aB (h _ d' ?_);exact(List.Perm.cons _ pm).trans (Ff _ v hv)
def fL(h:Heap)(I:Addr)(f:Value)(i:Nat)(a:Addr)(n ep:Nat):Prop:=∃o,h.get? I=some o/\o.cls=.type "set_iterator" /\o.data=.fields #[f,.int i 0,.ref a,.int n 0,.int ep 0]
theorem fL.ty{I a:Addr}{f:Value}{i n ep:Nat}(h:fL s.heap I f i a n ep):s.TypeIs (.ref I) "set_iterator":=let ⟨o,h1,h2,_⟩:=h;⟨o,h1,h2⟩
theorem fL.keep{h h':Heap}{I a:Addr}{f:Value}{i n ep:Nat}(x:fL h I f i a n ep)(k:∀o,h.get? I=some o->h'.get? I=some o):fL h' I f i a n ep:=let ⟨o,h1,h2⟩:=x;⟨o,k o h1,h2⟩
theorem fL.put{h:Heap}{I a:Addr}{f:Value}{i n ep:Nat}(x:fL h I f i a n ep)(f':Value):fL (h.update I (Obj.mapFields (·.setIfInBounds 0 f'))) I f' i a n ep:=by obtain⟨o,h1,h2,h3⟩:=x;exact⟨_,n_ _ h1 (FO (qH h3 _)),(Obj.cls_mapFields ..).trans h2,by rw[qH h3];simp⟩
theorem fL.step{h:Heap}{I a:Addr}{f:Value}{i n ep:Nat}(x:fL h I f i a n ep):fL (h.update I (Obj.mapFields (·.setIfInBounds 1 (rawInt ((i:Int)+1))))) I f (i+1) a n ep:=by obtain⟨o,h1,h2,h3⟩:=x;exact⟨_,n_ _ h1 (FO (qH h3 _)),(Obj.cls_mapFields ..).trans h2,by rw[qH h3];simp[rawInt]⟩
theorem Qy{B:Around}(hh:B.handled=none){Q:PySem.Fin->Shared->Prop}{E':ρ}(h:∀h' v,(∀b o,s.heap.get? b=some o->h'.get? b=some o)->({s with heap:=h'}:Shared).TypeIs v "StopIteration" ->E' v {s with heap:=h'}):wpAny (model P w) B (do raiseNew (<-newExc (.type "StopIteration") [])) Q E' s:=by
 refine ai ?_;simp only[newExc,newTuple];refine ai (jo ?_ (by size_fits));refine ai (m:=firstArgMember _ _) (wpAny_of_eq (a:=Value.none) (by first |rfl |(simp only[firstArgMember];rfl)) ?_);refine jo ?_ (by size_fits);simp only[raiseNew];refine ai (wpAny_handled ?_);rw[hh];refine ai (aB (wpAny_throw (h _ _ (λb o e=>?_) ?_)))
 ·exact bu _ (bu _ e)
 ·exact⟨_,cw _ rfl,rfl⟩
theorem Qz{I a:Addr}{sl i ep:Nat}{o:Obj}{es:Array (Int×Value)}{t:SetTable}{r:Option (Value×Nat)}{Q:Option Value->Shared->Prop}(hh:A.handled=none) (hI:fL s.heap I (.int sl 0) i a es.size ep)(g1:s.heap.get? a=some o)(g2:o.data=.set es ep t)(g3:t.fits es.size=true) (hN:∀(B:Around)(E':ρ)(Q':Option (Value×Nat)->Shared->Prop),Q' r s->wpAny (model P w) B (setNext a sl i ep) Q' E' s) (k1:∀x nx h',r=some (x,nx)->fL h' I (.int (nx:Nat) 0) (i+1) a es.size ep->(∀b o,b≠I->s.heap.get? b=some o->h'.get? b=some o)->Q (some x) {s with heap:=h'}) (k2:r=none->∀h',(∀b o,b≠I->s.heap.get? b=some o->h'.get? b=some o)->Q none {s with heap:=h'}):wpAny (model P w) A (pyNext (.ref I)) Q E s:=by
 obtain⟨oi,i1,i2,i3⟩:=id hI;unfold pyNext;refine ai (FJ (vQ (name:=Str.ofString "__next__") hI.ty qt (n9 qt hI.ty Qt ?_ (Qu _))));refine ai (aB ?_);refine ai (FN i1 i3 ?_);show wpAny _ _ (setEntries a>>=_) _ _ s;refine ai (RK g1 g2 g3 ?_);rw[af (by simp)];show wpAny _ _ (setNext a sl i ep>>=_) _ _ s;refine ai (hN _ _ _ ?_)
 match r,k1,k2 with
 |some (x,nx),k1,_=>show wpAny _ _ (setField (.ref I) 0 (rawInt nx)>>=_) _ _ s;refine ai (lG i1 i3 (by simp) ?_);have j1:=hI.put (rawInt nx);obtain⟨o2,j2,j3,j4⟩:=id j1;refine ai (lG (s:= {s with heap:=_}) j2 j4 (by simp) ?_);have j5:=j1.step;exact aB ⟨_,rfl,aB (k1 x nx _ rfl j5 λb o nb e=>(iL _ _ (cq nb)).trans ((iL _ _ (cq nb)).trans e))⟩
 |none,_,k2=>
  show wpAny _ _ (setField (.ref I) 2 .none>>=_) _ _ s;refine ai (lG i1 i3 (by simp) ?_);refine Qy (B:=A.in1) hh λh' v hk hv=>?_
  refine ai (FQ (T:="StopIteration") (b:=true) hv isSubtype_stop ?_);exact aB (k2 rfl _ λb o nb e=>hk b o ((iL _ _ (cq nb)).trans e))
theorem QA{I a T:Addr}{i ep:Nat}{o:Obj}{es:Array (Int×Value)}{t:SetTable}{ps:ψ}{Q:Option Value->Shared->Prop}(hh:A.handled=none) (hI:fL s.heap I (.ref T) i a es.size ep)(hT:s.heap.IsTuple T (ps.map λ(p:Nat)=>rawInt p).toArray)(g1:s.heap.get? a=some o)(g2:o.data=.set es ep t)(g3:t.fits es.size=true) (k1:∀p,ps[i]? =some p->∃e,es[p]? =some e/\∀h',fL h' I (.ref T) (i+1) a es.size ep->(∀b o,b≠I->s.heap.get? b=some o->h'.get? b=some o)->Q (some e.2) {s with heap:=h'}) (k2:ps[i]? =none->∀h',(∀b o,b≠I->s.heap.get? b=some o->h'.get? b=some o)->Q none {s with heap:=h'}):wpAny (model P w) A (pyNext (.ref I)) Q E s:=by
 obtain⟨oi,i1,i2,i3⟩:=id hI;unfold pyNext;refine ai (FJ (vQ (name:=Str.ofString "__next__") hI.ty qt (n9 qt hI.ty Qt ?_ (Qu _))));refine ai (aB ?_);refine ai (FN i1 i3 ?_);show wpAny _ _ (setEntries a>>=_) _ _ s;refine ai (RK g1 g2 g3 ?_);rw[af (by simp)];show wpAny _ _ (seqItems? (.ref T)>>=_) _ _ s;obtain⟨ot,t1,_,n0,t3⟩:=hT;unfold seqItems?;refine ai (ai (wpAny_load t1 ?_));rw[t3];refine aB ?_;dsimp only[Int.toNat_natCast];cases hp:ps[i]? with
 |some p=>
  obtain⟨e,he,kk⟩:=k1 p hp;have Fg:(ps.map λ(p:Nat)=>rawInt p).toArray[i]? =some (rawInt p):=by simp[hp]
  rw[Fg];show wpAny _ _ (setNextDrawn a p ep>>=_) _ _ s;unfold setNextDrawn;refine ai (ai (wj g1 g2 g3 ?_));dsimp only;rw[af (by simp),he];refine aB ?_;refine ai (lG i1 i3 (by simp) ?_);exact aB ⟨_,rfl,aB (kk _ hI.step λb o nb e=>(iL _ _ (cq nb)).trans e)⟩
 |none=>
  have Fg:(ps.map λ(p:Nat)=>rawInt p).toArray[i]? =none:=by simpa using hp
  rw[Fg];dsimp only;refine ai (lG i1 i3 (by simp) ?_);have j1:=hI.put (rawInt 0);obtain⟨o2,j2,j3,j4⟩:=id j1;refine ai (lG (s:= {s with heap:=_}) j2 j4 (by simp) ?_);refine Qy (B:=A.in1) hh λh' v hk hv=>?_
  refine ai (FQ (T:="StopIteration") (b:=true) hv isSubtype_stop ?_);exact aB (k2 hp _ λb o nb e=>hk b o ((iL _ _ (cq nb)).trans ((iL _ _ (cq nb)).trans e)))
theorem aaz:entryFor table "set_iterator.__iter__"=some Builtin.«dict_keyiterator.__iter__»:=entryFor_alias (id':="dict_keyiterator.__iter__") (by kernel_rfl) rfl (by decide+kernel) (by kernel_rfl)
theorem aaA(a:Value):argsOk "set_iterator.__iter__" ⟨[a],[]⟩:=by unfold argsOk;kernel_rfl
theorem QB{I a:Addr}{f:Value}{i n ep:Nat}{Q:ρ}(h:fL s.heap I f i a n ep)(q:Q (.ref I) s):wpAny (model P w) A (pyIter (.ref I)) Q E s:=by refine wpAny_pyIter_slot h.ty Qv (n9 Qv h.ty aaz ?_ (aaA _));show wpAny _ _ (ret (.ref I)) _ _ s;exact aB ⟨_,rfl,"set_iterator",_,h.ty,qt.lookup,q⟩
theorem aaB{a:Addr}{sl i ep:Nat}{o:Obj}{es:Array (Int×Value)}{t:SetTable}(g1:s.heap.get? a=some o)(g2:o.data=.set es ep t)(g3:t.fits es.size=true)(hb:jk w=true) {Q:Option (Value×Nat)->Shared->Prop}(q:Q (((pickOrder (w.params.setOrder a ep) es)[i]?).map λe=>(e.2,sl)) s):wpAny (model P w) A (setNext a sl i ep) Q E s:=by
 have hb':(model P w).w.params.followText "set-order"=true:=hb;unfold setNext;refine ai (wj g1 g2 g3 ?_);unfold setsByText;refine ai (ai (wk (aB ?_)));dsimp only;rw[ah hb',af (by simp)];unfold setWalk setsByText;refine ai (ai (wj g1 g2 g3 ?_));refine ai (ai (wk (aB ?_)));dsimp only;rw[ah hb'];exact ai (wk (aB (aB q)))
theorem aaC{a:Addr}{i ep:Nat}{o:Obj}{es:Array (Int×Value)}{t:SetTable}(g1:s.heap.get? a=some o)(g2:o.data=.set es ep t)(g3:t.fits es.size=true)(hb:jk w=false)(tk:ia (!(jk w)) t) (np:(!t.plain&&decide (es.size>1))=false)(hi:i<=es.size){Q:Option (Value×Nat)->Shared->Prop}(sl:Nat->Nat)(s0:sl 0=0)(s1:∀j,j<es.size->sl (j+1)=t.place.getD j 0+1) (q:Q ((es[i]?).map λe=>(e.2,sl (i+1))) s):wpAny (model P w) A (setNext a (sl i) i ep) Q E s:=by
 obtain⟨t1,t2,t3⟩:=tk;have sz:t.place.size=es.size:=by simp only[SetTable.fits,fM,ke,oq]at g3;exact g3.1
 unfold setNext;refine ai (wj g1 g2 g3 ?_);unfold setsByText;refine ai (ai (wk (aB ?_)));dsimp only;have hb':(model P w).w.params.followText "set-order"=false:=hb;rw[af (by rw[hb'];decide)];show wpAny _ _ (if (!t.plain&&decide (es.size>1))=true then _ else _) _ _ s;rw[af (by rw[np];decide)];show wpAny _ _ ((if (!t.led&& !es.isEmpty)=true then _ else _)>>=_) _ _ s;rw[af (by rw[t1,hb];simp)];refine ai (aB ?_);have eb:SetTable.below t.place (sl i)=i:=by
  cases i with
  |zero=>rw[s0,aan t3]
  |succ j=>rw[s1 j (by omega),aam t3 (by omega)]
 rw[eb];refine aB ?_;by_cases h:i<es.size
 ·have h2:i<t.place.size:=by omega
  rw[jq h]at q;rw[jq h,jq h2];rw[mK,s1 i h,vK h2]at q;exact q
 ·rw[zE (by omega)]at q;rw[zE (by omega)];exact q
theorem aaD{I a:Addr}{ep:Nat}{o:Obj}{es:Array (Int×Value)}{t:SetTable}(sl:Nat->Nat)(vs:ω)(hh:A.handled=none)(ne:a≠I)(g2:o.data=.set es ep t)(g3:t.fits es.size=true) (hN:∀(i:Nat)(s:Shared)(B:Around)(E':ρ)(Q':Option (Value×Nat)->Shared->Prop),i<=vs.length->s.heap.get? a=some o->Q' ((vs[i]?).map λx=>(x,sl (i+1))) s->wpAny (model P w) B (setNext a (sl i) i ep) Q' E' s):Walks P w A I [I,a] [I] vs.length (λi v=>vs[i]? =some v) λi h=>fL h I (.int (sl i:Nat) 0) i a es.size ep/\h.get? a=some o where
 sub:=λb hb=>by simp at hb;simp[hb]
 frame:=λ_ _ _ x hk=>⟨x.1.keep λo e=>hk I (by simp) o e,hk a (by simp) _ x.2⟩
 item:=λi s Q E hi x hQ=>by
  refine Qz hh x.1 x.2 g2 g3 (hN i s · · · (by omega) x.2) (λy nx h' e1 e2 e3=>?_) λe=>?_
  ·rw[aL hi,mK]at e1;obtain⟨rfl,rfl⟩:=Prod.mk.inj (b_ e1);exact hQ _ h' s.toks (aL hi) ⟨e2,e3 a o ne x.2⟩ λb o hb e=>e3 b o (λz=>hb (by simp[z])) e
  ·rw[aL hi]at e;cases e
 done:=λs Q E x hQ=>by
  refine Qz hh x.1 x.2 g2 g3 (hN _ s · · · (by omega) x.2) (λy nx h' e1 e2 e3=>?_) λ_ h' e3=>?_
  ·rw[iM (aJ _)]at e1;cases e1
  ·exact hQ h' s.toks λb o hb e=>e3 b o (λz=>hb (by simp[z])) e
 self:=λ_ _ _ _ x hQ=>QB x.1 hQ
theorem aaE{I a T:Addr}{ep:Nat}{o:Obj}{es:Array (Int×Value)}{t:SetTable}(ps:ψ)(hh:A.handled=none)(ne:a≠I)(nT:T≠I)(g2:o.data=.set es ep t)(g3:t.fits es.size=true)(hp:∀p∈ps,p<es.size):Walks P w A I [I,a,T] [I] (ps.map λp=>((es[p]?).getD (0,.none)).2).length (λi v=>(ps.map λp=>((es[p]?).getD (0,.none)).2)[i]? =some v) λi h=>fL h I (.ref T) i a es.size ep/\h.get? a=some o/\h.IsTuple T (ps.map λ(p:Nat)=>rawInt p).toArray where
 sub:=λb hb=>by simp at hb;simp[hb]
 frame:=λ_ _ _ x hk=>⟨x.1.keep λo e=>hk I (by simp) o e,hk a (by simp) _ x.2.1,let ⟨ot,t1,t2⟩:=x.2.2;⟨ot,hk T (by simp) _ t1,t2⟩⟩
 item:=λi s Q E hi x hQ=>by
  refine QA hh x.1 x.2.2 x.2.1 g2 g3 (λp e1=>?_) λe=>?_
  ·have lp:=hp p (br e1);refine⟨es[p],jq lp,λh' e2 e3=>?_⟩;refine hQ _ h' s.toks ?_ ⟨e2,e3 a o ne x.2.1,?_⟩ λb o hb e=>e3 b o (λz=>hb (by simp[z])) e
   ·rw[bC,e1,mK,jq lp];rfl
   ·obtain⟨ot,t1,t2⟩:=x.2.2;exact⟨ot,e3 T _ nT t1,t2⟩
  ·rw[aL (by simpa using hi)]at e;cases e
 done:=λs Q E x hQ=>by
  refine QA hh x.1 x.2.2 x.2.1 g2 g3 (λp e1=>?_) λ_ h' e3=>?_
  ·rw[iM (by simp)]at e1;cases e1
  ·exact hQ h' s.toks λb o hb e=>e3 b o (λz=>hb (by simp[z])) e
 self:=λ_ _ _ _ x hQ=>QB x.1 hQ
theorem map_range{es:Array (Int×Value)}{ps:ψ}(h:ps.Perm (List.range es.size)):(ps.map λp=>((es[p]?).getD (0,Value.none)).2).Perm (es.toList.map (·.2)):=by
 refine(h.map _).trans (List.Perm.of_eq ?_);refine List.ext_getElem (by simp) λi h1 h2=>?_
 have:i<es.size:=by simpa using h1
 simp[this]
theorem aaF{B:Around}{a:Addr}{ep:Nat}{o:Obj}{es:Array (Int×Value)}{t:SetTable}{Q:ρ}(hh:B.handled=none)(g1:s.heap.get? a=some o)(g0:o.ExactSet)(g2:o.data=.set es ep t)(g3:t.fits es.size=true) (tk:ia (!(jk w)) t)(sm:es.size<scanBound) (h:∀(I:Addr)(h1:Heap)(d:Drawn)(vs:ω)(fp:θ)(St:Nat->Heap->Prop),Walks P w B I fp [I] vs.length (λi v=>vs[i]? =some v) St->St 0 h1->(∀b∈fp,b=a\/s.heap.objs.size<=b)->s.heap.objs.size<=I->(∀b o,s.heap.get? b=some o->h1.get? b=some o)->vs.Perm (es.toList.map (·.2))->Q (.ref I) {s with heap:=h1,drawn:=d}):wpAny (model P w) A (pyIter (.ref a)) Q E s:=by
 have la:=a7 g1;have hT:s.TypeIs (.ref a) "set":=⟨o,g1,g0.1⟩;refine wpAny_pyIter_slot hT PySem.F.slot_set_iter (n9 PySem.F.slot_set_iter hT aax ?_ (PySem.F.args_set_iter_1 _));unfold Builtin.«frozenset.__iter__» Builtin.Frozenset.slot0 slotArgs;simp only[List.isEmpty_nil,Bool.not_true,qD,↓reduceIte,bind_assoc,qE,bne_self_eq_false];unfold Builtin.Frozenset.addrOf Builtin.Frozenset.sizeOf;refine ai (aB ?_);refine ai (aB ?_);refine ai (ai (RK g1 g2 g3 (aB ?_)));unfold setDrawn setsByText;refine ai (ai (wj g1 g2 g3 ?_));refine ai (ai (wk (aB (aB ?_))));show wpAny _ _ (if (!(jk w)&&(!t.plain&&decide (es.size>1)))=true then _ else _) _ _ s;have lz:es.size<=sizeLine:=by rw[aZ];unfold scanBound at sm;omega
 by_cases hc:(!(jk w)&&(!t.plain&&decide (es.size>1)))=true
 ·rw[ah hc];refine ai (Qx es.size (List.range es.size) _ _ (by simp) λps d pm=>?_);have pl:ps.length=es.size:=by rw[pm.length_eq,gJ]
  refine ai (wpAny_newTuple ?_ (by rw[aI,pl];exact lz));refine ai ?_;have g1':=bu {cls:=.type "tuple",data:=.seq (ps.map λ(p:Nat)=>rawInt p).toArray} g1;refine wpAny_setEpoch_of (s:= {s with heap:=_,drawn:=_}) g1' g2 g3 ?_;refine ai (jo (aB ⟨_,rfl,"set_iterator",_,⟨_,cw _ rfl,rfl⟩,qt.lookup,?_⟩));refine h _ _ d _ _ _ (aaE (T:=s.heap.objs.size) (ep:=ep) (o:=o) ps hh ?_ ?_ g2 g3 λp hp=>by simpa using pm.mem_iff.mp hp) ⟨⟨_,cw _ rfl,rfl,rfl⟩,bu _ g1',⟨_,bu _ (cw _ rfl),rfl,_,rfl⟩⟩
   (λb hb=>?_) ?_ (λb o e=>bu _ (bu _ e)) (map_range pm)
  ·rw[e8];exact bQ (sJ la)
  ·rw[e8];exact bQ (sE _)
  ·simp only[aX,dB,dC]at hb;rcases hb with e |e |e
   ·exact Or.inr (by rw[e,e8];exact mI _)
   ·exact Or.inl e
   ·exact Or.inr (nZ e.symm)
  ·rw[e8];exact mI _
 ·rw[af hc];refine ai (aB ?_);refine ai ?_;refine wpAny_setEpoch_of g1 g2 g3 ?_;refine ai (jo (aB ⟨_,rfl,"set_iterator",_,⟨_,cw _ rfl,rfl⟩,qt.lookup,?_⟩));have fin:∀(sl:Nat->Nat)(vs:ω),sl 0=0->vs.Perm (es.toList.map (·.2))->(∀(i:Nat)(s:Shared)(B:Around)(E':ρ)(Q':Option (Value×Nat)->Shared->Prop),i<=vs.length->s.heap.get? a=some o->Q' ((vs[i]?).map λx=>(x,sl (i+1))) s->wpAny (model P w) B (setNext a (sl i) i ep) Q' E' s)->
    Q (.ref s.heap.objs.size) {s with heap:=s.heap.push {cls:=.type "set_iterator",data:=.fields [rawInt 0,rawInt 0,.ref a,rawInt es.size,rawInt ep].toArray}}:=λsl vs s0 pm hN=>by
   refine h _ _ s.drawn vs _ _ (aaD sl vs hh (bQ la) g2 g3 hN) ⟨⟨_,cw _ rfl,rfl,by rw[s0];rfl⟩,bu _ g1⟩ (λb hb=>?_) (aJ _) (λb o e=>bu _ e) pm;simp only[aX,dB,dC]at hb;rcases hb with e |e
   ·exact Or.inr (nZ e.symm)
   ·exact Or.inl e
  cases hb:jk w with
  |true=>
   refine fin (λ_=>0) ((pickOrder (w.params.setOrder a ep) es).toList.map (·.2)) rfl ((Qw _ _ _ _ _ (by simp)).map _) λi s B E' Q' hi g q=>?_
   refine aaB g g2 g3 hb ?_;rw[bC,qB,Option.map_map]at q;exact q
  |false=>
   have np:(!t.plain&&decide (es.size>1))=false:=by rw[hb]at hc;simpa using hc
   refine fin (λj=>match j with |0=>0 |j+1=>t.place.getD j 0+1) (es.toList.map (·.2)) rfl (List.Perm.refl _) λi s B E' Q' hi g q=>?_
   refine aaC g g2 g3 hb tk np (by simpa using hi) (λj=>match j with |0=>0 |j+1=>t.place.getD j 0+1) rfl (λ_ _=>rfl) ?_;rw[bC,qB,Option.map_map]at q;exact q
end
end L2
namespace L2
open PySem PySem.Spec PyProof.Rows
section
variable{P:Program}{w:World}{A:Around}{E:ρ}{s:Shared}
theorem aaG{r:Addr}{Q:Bool->Shared->Prop}(hT:s.TypeIs (.ref r) "set")(q:Q false s):wpAny (model P w) A (Builtin.List.listLengthHint (.ref r)) Q E s:=by
 unfold Builtin.List.listLengthHint;refine ai (wpAny_specialOf hT PySem.F.slot_set_len.lookup ?_);generalize hid:("set.__len__" :String)=z
 wp_delta
 rw[show splitId z=some ("set","__len__") from by subst hid;decide+kernel];subst hid;refine ai (FQ (T:="set") (b:=true) hT (by rw[isSubtype_type];kernel_rfl) ?_);refine wpAny_ite_split (λc=>absurd c (by decide)) (λ_=>?_);refine wpAny_ite_split (λ_=>?_) (λc=>absurd (by decide+kernel) c);exact ai (vR hT (aB q))
theorem aaH{R:Result->Shared->Prop}{a S:Addr}{ep c0:Nat}{o:Obj}{es:Array (Int×Value)}{t:SetTable}(hh:A.handled=none)(g1:s.heap.get? a=some o)(g0:o.ExactSet)(g2:o.data=.set es ep t)(g3:t.fits es.size=true) (tk:ia (!(jk w)) t)(sm:es.size<scanBound)(res:Value)(nS:S≠a)(gS:s.heap.get? S=some {cls:=.type "list",data:=.seq #[] c0}) (kk:∀h' tk d(vs:Array Value) c',(∀b o,b≠S->s.heap.get? b=some o->h'.get? b=some o)->h'.get? S=some {cls:=.type "list",dict:=none,data:=.seq vs c',slots:= #[]}->vs.toList.Perm (es.toList.map (·.2))->R (.ok (.ret res)) {s with heap:=h',toks:=tk,drawn:=d}):wpAny (model P w) A.in1 (Builtin.List.listExtendWith (.ref S) (.ref a) res) (λfin s'=>match fin with | .done f=>R (.ok f) s' | .again c'=>c'.quiet=true/\codeAny (model P w) A c' R s') (λe s'=>R (.error e) s') s:=by
 have hT:s.TypeIs (.ref a) "set":=⟨o,g1,g0.1⟩;have lz:es.size<=sizeLine:=by rw[aZ];unfold scanBound at sm;omega
 unfold Builtin.List.listExtendWith;refine ai (vR hT ?_);have q1:Builtin.List.listSameRef (.ref S) (.ref a)=false:=by simp[Builtin.List.listSameRef,nS]
 have q2:(Value.type "set"==Value.type "list")=false:=by decide
 have q3:(Value.type "set"==Value.type "tuple")=false:=by decide
 simp only[q1,q2,q3,Bool.or_false,qD,kf];refine ai (aaF (B:=A.in1) (by simp[hh]) g1 g0 g2 g3 tk sm λI h1 d vs fp St W st hfp hI hk pm=>?_);have lS:=a7 gS;have nSf:S ∉ fp:=λz=>(hfp S z).elim nS λy=>absurd lS (Nat.not_lt.mpr y)
 have nSI:S≠I:=λz=>absurd lS (Nat.not_lt.mpr (z▸hI))
 have vl:vs.length<=sizeLine:=by rw[pm.length_eq,aI,gI];exact lz
 have key:∀(h:Heap)(c1 tk:Nat),St 0 h->(∀b o,b≠S->s.heap.get? b=some o->h.get? b=some o)->
   h.get? S=some {cls:=.type "list",data:=.seq #[] c1}->codeAny (model P w) A (.builtin "list.extend.loop" ⟨[.ref S,.ref I,res],[]⟩) R {s with heap:=h,toks:=tk,drawn:=d}:=by
  intro h c1 tk hst hk2 vH;refine codeAny_extend_loopS W.toS vl S nSf res vs.length 0 _ #[] c1 rfl (bS _) hst vH (ItemsOf.nil _) λs' acc c' mv mD ha=>?_
  rw[Moved.eq_with mv];refine kk s'.heap s'.toks d acc c' (λb o nb e=>mv.heap b o (λz=>?_) (hk2 b o nb e)) mD ?_
  ·rcases aX.mp z with e' |z
   ·exact nb e'
   ·exact absurd (a7 e) (by rw[sN.mp z];exact Nat.not_lt.mpr hI)
  ·have e:acc.toList=vs:=by
    refine List.ext_getElem? λj=>?_
    by_cases hj:j<vs.length
    ·have:j<acc.size:=by rw[ha.1];exact hj
     have h3:=ha.2 j acc[j] (jq this);rw[qB,jq this];exact h3.symm
    ·rw[iM (by rw[gI,ha.1];omega),iM (by omega)]
   rw[e];exact pm
 have vH:=hk S _ gS;have hT1:({s with heap:=h1,drawn:=d}:Shared).TypeIs (.ref a) "set":=⟨o,hk a _ g1,g0.1⟩;refine ai (jn (aaG hT1 ?_));refine wpAny_ite_split (λ_=>?_) (λ_=>aB ⟨qG PySem.F.plain_extend_loop _,key _ c0 _ st (λb o _ e=>hk b o e) vH⟩);refine ai (vU (ai ?_));show wpAny _ _ (updateSeq S (·.push .none)>>=λ_=>updateSeq S (·.pop)) _ _ _;refine ai (wpAny_updateSeq vH rfl ?_);have gS2:=n_ (Obj.mapSeq (·.push Value.none)) vH rfl;refine wpAny_updateSeq (hz:=by seq_fits) gS2 rfl ?_;have gS3:=n_ (Obj.mapSeq (·.pop)) gS2 rfl;refine aB ⟨qG PySem.F.plain_extend_loop _,key _ _ _ ?_ (λb o nb e=>?_) gS3⟩
 ·refine W.frame 0 _ _ st λb hb o e=>?_
  have nb:b≠S:=λz=>nSf (z▸hb)
  exact(iL _ _ nb.symm).trans ((iL _ _ nb.symm).trans e)
 ·exact(iL _ _ nb.symm).trans ((iL _ _ nb.symm).trans (hk b o e))
theorem aaI{R:List Value->Shared->Prop}{a:Addr}{ep:Nat}{o:Obj}{es:Array (Int×Value)}{t:SetTable}(hh:A.handled=none)(g1:s.heap.get? a=some o)(g0:o.ExactSet)(g2:o.data=.set es ep t)(g3:t.fits es.size=true) (tk:ia (!(jk w)) t)(sm:es.size<scanBound) (kk:∀h' tk d(vs:ω),s.heap.objs.size<=h'.objs.size->(∀b o,s.heap.get? b=some o->h'.get? b=some o)->vs.Perm (es.toList.map (·.2))->R vs {s with heap:=h',toks:=tk,drawn:=d}):wpAny (model P w) A (collect (.ref a)) R E s:=by
 have la:=a7 g1;unfold collect;refine ai (wpAny_runValue (qF entry_proto_collect' ?_));rw[sM PySem.F.plain_proto_collect _];refine ai (m:=newList []) (jo ?_);refine aB ⟨qG PySem.F.plain_list_iadd _,qF entry_list_iadd' ?_⟩;rw[sM PySem.F.plain_list_iadd _];have gS:(s.heap.push {cls:=.type "list",data:=.seq ([]:List Value).toArray}).get? s.heap.objs.size=some {cls:=.type "list",data:=.seq #[]}:=cw _ rfl;show wpAny _ A.in1 (Builtin.List.listExtendWith (.ref s.heap.objs.size) (.ref a) (.ref s.heap.objs.size)) _ _ _;refine di (aaH (A:=A) (s:= {s with heap:=_}) (R:=λ(q:Result)(s':Shared)=>∃(h':Heap)(tk:Nat)(d:Drawn)(vs:Array Value)(c':Nat),q=.ok (.ret (.ref s.heap.objs.size))/\s'= {s with heap:=h',toks:=tk,drawn:=d}/\
   (∀b o,s.heap.get? b=some o->h'.get? b=some o)/\h'.get? s.heap.objs.size=some {cls:=.type "list",dict:=none,data:=.seq vs c',slots:= #[]}/\vs.toList.Perm (es.toList.map (·.2)))
  hh (bu _ g1) g0 g2 g3 tk sm _ (mG la) gS λh' tk d vs c' hk mD pm=>⟨h',tk,d,vs,c',rfl,rfl,λb o e=>hk b o (bQ (a7 e)) (bu _ e),mD,pm⟩) (λfin s' x=>?_) λe s' x=>?_
 ·cases fin with
  |done f=>obtain⟨h',tk,d,vs,c',e,rfl,hk,mD,pm⟩:=x;cases e;exact ai (m:=load _) (wpAny_load mD (aB (kk h' tk d _ (qw (a7 mD)) hk pm)))
  |again c1=>refine⟨x.1,mH x.2 λq s2 y=>?_⟩;obtain⟨h',tk,d,vs,c',rfl,rfl,hk,mD,pm⟩:=y;exact ai (m:=load _) (wpAny_load mD (aB (kk h' tk d _ (qw (a7 mD)) hk pm)))
 ·obtain⟨_,_,_,_,_,e',_⟩:=x;cases e'
theorem QC:∀{vs:ω},(∀v∈vs,∃n t,v=.int n t)->IntsAre vs (vs.map lA)
 |[],_=>.nil
 |v::vs,h=>by obtain⟨n,t,rfl⟩:=h v dN;exact .cons n t (QC λx hx=>h x (bM _ hx))
theorem aaJ{Q:ρ}{a:Addr}{ep:Nat}{o:Obj}{es:Array (Int×Value)}{t:SetTable}(hh:A.handled=none)(g1:s.heap.get? a=some o)(g0:o.ExactSet)(g2:o.data=.set es ep t)(g3:t.fits es.size=true) (tk:ia (!(jk w)) t)(sm:es.size<scanBound)(hi:∀e∈es.toList,∃n t,e.2=.int n t) (kk:∀h' tk d(D:Addr)(out:Array Value)(ns':δ) c',(∀b o,s.heap.get? b=some o->h'.get? b=some o)->s.heap.objs.size<=D->h'.get? D=some (seqObj "list" out c')->IntsAre out.toList ns'->ns'.Perm (es.toList.map λe=>lA e.2)->ns'.Pairwise (· <= ·)->Q (.ref D) {s with heap:=h',toks:=tk,drawn:=d}):wpAny (model P w) A (call (.builtin "sorted") [.ref a]) Q E s:=by
 refine PySem.Calls.call_function_entry kind_sorted plain_sorted entry_sorted (args_sorted1 _) ?_;unfold Builtin.«sorted»;refine ai (m:=checkCount "sorted" 1 1 _) (aB ?_);refine ai (aaI (A:=A.in1) (by simp[hh]) g1 g0 g2 g3 tk sm λh' tk d vs hz hk pm=>?_);have lz:vs.length<=sizeLine:=by rw[pm.length_eq,aI,gI,aZ];unfold scanBound at sm;omega
 refine ai (wpAny_newList ?_ lz);have gD:(h'.push (seqObj "list" vs.toArray 0)).get? h'.objs.size=some (seqObj "list" vs.toArray 0):=cw _ rfl;have h1:IntsAre vs (vs.map lA):=QC λv hv=>by obtain⟨e,he,rfl⟩:=d_.mp (pm.mem_iff.mp hv);exact hi e he
 have h2:(vs.map lA).Perm (es.toList.map λe=>lA e.2):=by
  have:=pm.map lA
  rwa [fu]at this
 refine ai (jn (n9 slot_list_sort ⟨_,gD,rfl⟩ entry_list_sort (list_sort_treeAny gD h1 lz λout ns' a1 a2 a3=>⟨_,rfl,?_⟩) (args_list_sort _)));refine aB ⟨_,rfl,?_⟩;obtain⟨c',gE⟩:=sortedHeap_at (vs:=vs) (out:=out) gD;refine kk _ tk d _ out ns' c' (λb o e=>?_) ?_ gE a1 (a2.trans h2) a3
 ·have e':=hk b o e;have lb:=a7 e';rw[sortedHeap_old (bQ lb) (by rw[e8];exact sJ lb)];exact bu _ e'
 ·exact hz
end
end L2
namespace L2
open PySem PySem.Spec PyProof.Rows
theorem QD(val:Nat->Int)(z:Int):∀n,(firstMet val n).any (· ==z)=true ↔ ∃i,i<n/\val i=z
 |0=>by simp[firstMet]
 |n+1=>by
  rw[firstMet_succ,step_any,zO,QD val z n,qL];constructor
  ·rintro(⟨i,h1,h2⟩ |h)
   ·exact⟨i,by omega,h2⟩
   ·exact⟨n,by omega,h.symm⟩
  ·rintro⟨i,h1,h2⟩
   by_cases e:i=n
   ·exact .inr (by rw[<-h2,e])
   ·exact .inl ⟨i,by omega,h2⟩
def Fh(P:Program)(w:World)(p:Addr)(ns:δ):HO:=HO.ext λh=>ic P w h p (λz=>(firstMet (λi=>ns.getD i 0) ns.length).any (· ==z)) (firstMet (λi=>ns.getD i 0) ns.length).length
section
variable{X:Cx}
theorem Inv.drw{pins:η}{σ:List (Option V)}{H:Hp}{s:Shared}(I:Inv X pins σ H s)(d:Drawn):Inv X pins σ H {s with drawn:=d}:=⟨I.ok,I.os,I.bare,I.base,I.loc,I.cell,I.free,I.fC,I.pin,I.hok,I.len⟩
inductive QE(X:Cx)(vs:ε)(H:Hp)(Q:VK):Prop
 |mk (a:Addr) (ns:δ):vs=[V.ref a]->aj X.K H a (ns.map V.int)->ns.length<=1000->(∀p o,H p=none->o=Fh X.prog X.w p ns->Q (.ref p) (upd H p o))->QE X vs H Q
theorem aaK(hc:X.calm=true):ij X (.type "set") (QE X):=by
 intro pins s σ H vs us Q I r h;obtain⟨a,ns,rfl,hs,hn,q⟩:=h;obtain⟨its,rv,hl,_⟩:=I.list hs;rw[Vals.Az r];have hi:=rv.ints;have ez:its.toArray.size=ns.length:=by have:=rv.length;simp only[aI]at this;simp[this]
 refine aaw (I.ok.hd hc) hl.isList hi (by rw[ez];unfold scanBound;omega) λh' tk hS hk=>?_
 rw[ez]at hS;refine⟨.ref _,upd H s.heap.objs.size (Fh X.prog X.w s.heap.objs.size ns),I.laid (λb u e=>hk b u (a7 e) e) (aJ _) ⟨hS,?_,λh1 h2 x k=>x.keep k⟩,rfl,q _ _ (I.hok.fresh (aJ _)) rfl⟩;obtain⟨o,_,_,_,h1,_⟩:=hS;exact⟨o,h1⟩
inductive QF(X:Cx)(vs:ε)(H:Hp)(Q:VK):Prop
 |mk (p:Addr) (ns:δ) (o:HO):vs=[V.ref p]->H p=some o->o=Fh X.prog X.w p ns->(∀(ms:δ)(q:Addr),(∀z,z∈ms ↔ z∈ns)->ms.Pairwise (· < ·)->H q=none->Q (.ref q) (upd H q (.lst (ms.map V.int))))->QF X vs H Q
theorem aaL(hc:X.calm=true):ij X (.builtin "sorted") (QF X):=by
 intro pins s σ H vs us Q I r h;obtain⟨p,ns,_,rfl,hp,rfl,q⟩:=h;rw[Vals.Az r];obtain⟨⟨o,es,ep,t,g1,g2,g3,D⟩,_,_⟩:=I.hok p _ hp;refine aaJ (I.ok.hd hc) g1 g2 g3 D.fit D.tok D.sm (λe he=>?_) λh' tk d a out ms c' hk ha gD h1 h2 h3=>?_
 ·obtain⟨⟨k,hk,_⟩,_⟩:=D.el e he;obtain⟨t,e2⟩:=Value.isInt_shape hk;exact⟨_,_,e2⟩
 ·have nd:ms.Nodup:=h2.nodup_iff.mpr D.nd;have lt:ms.Pairwise (· < ·):=(h3.and nd).imp λ⟨a,b⟩=>by omega
  have lz:(ms.map V.int).length<=sizeLine:=by have sm:=D.sm;unfold scanBound at sm;rw[aI,h2.length_eq,aI,gI,aZ];omega
  refine⟨.ref _,upd H a (.lst (ms.map V.int)),(I.laid (o:=.lst (ms.map V.int)) (t':=tk) hk ha ⟨lz,out.toList,c',Hu h1,gD⟩).drw d,rfl,q ms a (λz=>?_) lt (I.hok.fresh ha)⟩;have m1:=D.mem z;rw[QD]at m1;constructor
  ·intro hz;obtain⟨e,he,rfl⟩:=d_.mp (h2.mem_iff.mp hz);obtain⟨⟨k,hk,_⟩,_⟩:=D.el e he;have ek:=Fd hk;obtain⟨i,h5,h6⟩:=m1.mpr ⟨e,he,by rw[ek];exact hk⟩;rw[<-h6,dy,aL h5];exact vY h5
  ·intro hz;obtain⟨i,h5,h6⟩:=List.getElem_of_mem hz;obtain⟨e,he,h7⟩:=m1.mp ⟨i,h5,by rw[dy,aL h5];exact h6⟩;rw[<-Fd h7];exact h2.mem_iff.mpr (d_.mpr ⟨e,he,rfl⟩)
end
end L2
namespace My
open PySem L2
theorem QG:∀{l m:δ},l.Pairwise (· < ·)->m.Pairwise (· < ·)->(∀z,z∈l ↔ z∈m)->l=m
 |[],[],_,_,_=>rfl
 |[],b::m,_,_,h=>absurd ((h b).mpr dN) (by simp)
 |a::l,[],_,_,h=>absurd ((h a).mp dN) (by simp)
 |a::l,b::m,h1,h2,h=>by
  obtain⟨p1,q1⟩:=RH.mp h1;obtain⟨p2,q2⟩:=RH.mp h2;have e:a=b:=by
   rcases aX.mp ((h a).mp dN)with e |e
   ·exact e
   ·rcases aX.mp ((h b).mpr dN)with e' |e'
    ·exact e'.symm
    ·have:=p2 a e;have:=p1 b e';omega
  subst e;rw[QG q1 q2 λz=>?_];constructor
  ·intro hz;rcases aX.mp ((h z).mp (bM _ hz))with e |e
   ·have:=p1 z hz;omega
   ·exact e
  ·intro hz;rcases aX.mp ((h z).mpr (bM _ hz))with e |e
   ·have:=p2 z hz;omega
   ·exact e
theorem Fi(c:Sz43.Code):(targets c).Pairwise (· < ·):=RI.filter _
theorem QH{u:Nat}{i:Ins}:Sz43.leads u i=true ↔ tgt i=some u:=by cases i<;>simp[Sz43.leads,tgt]
theorem QI{c:Sz43.Code}(h:∀x∈c,∀u,tgt x=some u->u<=c.length){u:Nat}:u∈targets c ↔ u∈c.filterMap tgt:=by
 rw[uU,mO,nY];constructor
 ·rintro⟨_,x,h1,h2⟩
  exact⟨x,h1,QH.mp h2⟩
 ·rintro⟨x,h1,h2⟩
  exact⟨h x h1 u h2,x,h1,QH.mpr h2⟩
theorem aaM{c:Sz43.Code}{ms:δ}(h:∀x∈c,∀u,tgt x=some u->u<=c.length)(hm:∀z,z∈ms ↔ z∈(c.filterMap tgt).map λ(u:Nat)=>(u:Int))(hp:ms.Pairwise (· < ·)):ms.map V.int=iw (targets c):=by
 have e:ms=(targets c).map λ(u:Nat)=>(u:Int):=by
  refine QG hp ?_ λz=>(hm z).trans ?_
  ·rw[List.pairwise_map];exact(Fi c).imp λh=>by omega
  ·rw[d_,d_];exact⟨λ⟨u,a,b⟩=>⟨u,(QI h).mpr a,b⟩,λ⟨u,a,b⟩=>⟨u,(QI h).mp a,b⟩⟩
 rw[e,fu];rfl
theorem QJ{k:Key}:∀(kvs acc:List (Key×V)),(kvs.map (·.1)).Nodup->bR (jz acc kvs) k=(bR kvs k).or (bR acc k)
 |[],acc,_=>rfl
 |p::r,acc,h=>by
  obtain⟨h1,h2⟩:=vN.mp h;show bR (jz (dM acc p.1 p.2) r) k=_;rw[QJ r _ h2,TN];by_cases e:p.1=k
  ·rw[gr e,ah e.symm];have:bR r k=none:=by
    unfold bR;rw[Rp.mpr λq hq=>by rw[qL];intro z;exact h1 (by show p.1∈_;rw[e,<-z];exact List.mem_map_of_mem hq)]
    rfl
   rw[this];rfl
  ·rw[gu e,af λz=>e z.symm]
theorem aaN{c:Sz43.Code}{i u:Nat}(h:(targets c)[i]? =some u):(targets c).findIdx? (λx=>x==u)=some i:=by obtain⟨h1,h2⟩:=bN.mp h;rw[mM];refine⟨h1,by rw[h2];exact beq_self_eq_true u,λj hj=>?_⟩;have:=List.pairwise_iff_getElem.mp (Fi c) j i (by omega) h1 hj;simp only[ke];omega
theorem aaO{H:Hp}{c:Sz43.Code}{K:ax}{us:ψ}{ys:ε}(h:Paired (λ(u:Nat) y=>∃p q,y=V.ref p/\H p=some (.tup [.int (u:Int),.ref q])/\H q=some (.tup (iw (lM c u)))) us ys):∃(ps:θ)(kvs:List (Key×V)),ys=ps.map V.ref/\Paired (λp kv=>aV K H p [kV kv.1,kv.2]) ps kvs/\Paired (λ(u:Nat)(kv:Key×V)=>kv.1=Sum.inl (u:Int)/\∃q,kv.2=.ref q/\H q=some (.tup (iw (lM c u)))) us kvs:=by
 induction h with
 |nil=>exact⟨[],[],rfl,.nil,.nil⟩
 | @cons u _ _ _ r _ ih=>obtain⟨p,q,rfl,h1,h2⟩:=r;obtain⟨ps,kvs,rfl,h3,h4⟩:=ih;exact⟨p::ps,(Sum.inl (u:Int),.ref q)::kvs,rfl,.cons (aV.of h1) h3,.cons ⟨rfl,q,rfl,h2⟩ h4⟩
theorem aaP{H:Hp}{c:Sz43.Code}{us:ψ}{kvs:List (Key×V)}(h:Paired (λ(u:Nat)(kv:Key×V)=>kv.1=Sum.inl (u:Int)/\∃q,kv.2=.ref q/\H q=some (.tup (iw (lM c u)))) us kvs):kvs.map (·.1)=us.map (λ(u:Nat)=>(Sum.inl (u:Int):Key))/\∀u:Nat,(∃q,u∈us/\bR kvs (Sum.inl (u:Int))=some (.ref q)/\H q=some (.tup (iw (lM c u))))\/(u ∉ us/\bR kvs (Sum.inl (u:Int))=none):=by
 induction h with
 |nil=>exact⟨rfl,λu=>.inr ⟨by simp,rfl⟩⟩
 | @cons v kv us kvs r _ ih=>
  obtain⟨e1,q,e2,hq⟩:=r;refine⟨by rw[bx,bx,ih.1,e1],λu=>?_⟩;by_cases e:v=u
  ·subst e;exact .inl ⟨q,dN,by rw[gr e1,e2],hq⟩
  ·have ne:¬kv.1=Sum.inl (u:Int):=by
    rw[e1];intro z;have:=Sum.inl.inj z;omega
   rw[gu ne];rcases ih.2 u with ⟨q',a,b,d⟩ |⟨a,b⟩
   ·exact .inl ⟨q',bM _ a,b,d⟩
   ·exact .inr ⟨λz=>(aX.mp z).elim (λy=>e y.symm) a,b⟩
theorem aaQ{us:ψ}{ys:ε}(h:Paired (λ(u:Nat) y=>y=V.int (u:Int)) us ys):ys=(us.map λ(u:Nat)=>(u:Int)).map V.int:=by
 induction h with
 |nil=>rfl
 |cons r _ ih=>rw[r,ih];rfl
variable{P:Program}{w:World}{K:ax}{mg:τ}{base:Heap}{t:Ad}
theorem aaR(T:Txt K mg t):aE P w K mg base aM 3 t.pB t.rA ["instructions"] (su t):=by
 refine T.x9.ko ["instructions","places","instruction","number","place"] λH Q hr h nd=>?_
 obtain⟨li,c,n,rfl,hL,G,h256,k⟩:=h;have hr1:=hr.mono (show 1<=2 by decide);refine⟨_,ak (aS 1 nd (b8 (aaL rfl) rfl T.Mg rfl (aa (lW (aaK rfl) rfl T.Mi rfl (aa
   (iy (tt:=tB (F9 (oH K (dX 2) "place"))) (te:=oH K (dX 2) "place") (own:=[("instruction",2)]) rfl nd (gO (pv 0)) ?b1 (λs H C cl fp=>bD 2 nd) (λs H C cl fp=>HC (cG (lP (aA (pv 2))))) (λs H C cl fp=>aA (pv 2))) ag)) ag)))
  (aq (aC (lW (Uh rfl) rfl T.Mh rfl (aa (iy (g:=jQ K 2 (eC (cW 3) (eC (cW 4) kl))) (own:=[("number",3),("place",4)]) rfl nd (AX rfl T.yj (aa (pv 1) ag)) ?b2 (λs H C cl fp=>mU rfl (fQ (bD 3 nd) (fQ (bD 4 nd) mT))) (λs H C cl fp=>eE) (λs H C cl fp=>fE (aa (pv 4) (aa (pC (fF T) hr1 T.fe T.eF (aa (aal (pv 3)) ag)) ag)))) ag)))),?_⟩
 ·show cX ["instructions","places","instruction","number","place"] (bp A5) _ _;exact bk
 ·show cX ["instructions","places","instruction","number","place"] (bp A5) _ _;exact bk
 ·dsimp only[bI,Cx.bZ];obtain⟨is,hli,cQ⟩:=id hL;have ln:is.length=c.length:=bt cQ;have cl:=T.cI;have tg:∀x∈c,∀u,tgt x=some u->u<=c.length:=λx hx u hu=>(G x hx).tg u hu
  refine⟨_,rfl,li,rfl,⟨_,aj.of hli⟩,λD1 ET=>?_⟩;refine uE (xs:=is.map V.ref) (λi=>((c.map tgt)[i]?.bind id).isSome) (λi y H=>∀u,(c.map tgt)[i]? =some (some u)->y=V.int (u:Int)) ET (by rw[aI,aZ];omega) (λH2 s2=>rl (aj.of (s2 _ _ hli))) (λi y H H' r _=>r) (λx=>rfl) (λi y H2 hi s2 A B hA hB=>?_) λys H2 s2 hL2 pr=>?_
  ·rw[bC]at hi;obtain⟨a,hai,rfl⟩:=cF.mp hi;have il:i<c.length:=by have:=(bN.mp hai).1;omega
   have hc:c[i]? =some c[i]:=aL il;obtain⟨dx,u,op,ha,hu,hop⟩:=(cp (F:=λa i=>IA t H a i) cQ hai hc).nl s2.nl;rw[bC,hc]at hA hB;refine⟨_,rfl,a,_,dx,_,_,rfl,ha,cl,T.eJ,fX,_,rfl,?_⟩;have ep:=vm c[i];cases hq:tgt c[i]with
   |none=>rw[hq]at ep;rw[ep];refine az (hB (by rw[mK,hq];rfl) _ (ae.refl _))
   |some v=>rw[hq]at ep;rw[ep];refine aD ⟨_,rfl,a,_,dx,_,_,rfl,ha,cl,T.eJ,fX,?_⟩;rw[ep];exact hA (by rw[mK,hq];rfl) _ _ (ae.refl _) λu' d7=>by rw[mK,hq]at d7;cases d7;rfl
  ·have pr:Paired (λ(i:Nat) y=>∀u:Nat,(c.map tgt)[i]? =some (some u)->y=V.int (u:Int)) ((List.range (c.map tgt).length).filter λi=>((c.map tgt)[i]?.bind id).isSome) ys:=by
    rw[aI,ln]at pr;rw[aI];exact pr
   have Fj:=Po (G:=λ(u:Nat) y=>y=V.int (u:Int)) pr;have e:(c.map tgt).filterMap id=c.filterMap tgt:=by rw[List.filterMap_map];rfl
   rw[e]at Fj;have ey:=aaQ Fj;clear pr Fj e;subst ey;have lf:(c.filterMap tgt).length<=256:=bE (List.length_filterMap_le _ _) h256;refine⟨D1,_,rfl,aj.of hL2,by rw[aI];omega,λp so hp hso=>?_⟩;refine⟨p,_,so,rfl,au,hso,λms q hm E6 hq=>?_⟩;have s3:ae H (upd H2 p so):=s2.trans (ae.new hp);obtain⟨H3,zu⟩:∃H3,H3=upd (upd H2 p so) q (.lst (ms.map V.int)):=⟨_,rfl⟩;have s4:ae H H3:=by rw[zu];exact s3.trans (ae.new hq)
   have rO:H3 q=some (.lst (iw (targets c))):=by rw[zu,<-aaM tg hm E6];exact au
   rw[<-zu];clear zu s3;have tl:(targets c).length<=257:=by unfold targets;refine bE (v_ _ _) ?_;rw[gJ];omega
   refine⟨_,rfl,q,_,rfl,aj.of rO,λD2 uw=>?_⟩;refine DD (λ_=>true) (λi y H=>∀u:Nat,(targets c)[i]? =some u->∃p q,y=V.ref p/\H p=some (.tup [.int (u:Int),.ref q])/\H q=some (.tup (iw (lM c u)))) uw (by rw[bJ,aZ];omega) (aj.of rO) (λi y H H' r k u hu=>?_) (λx y=>rfl) (λi y H4 hi s5 A B hA hB=>?_) λys H4 s5 EX pr=>?_
   ·obtain⟨p,q,e,h1,h2⟩:=r u hu;exact⟨p,q,e,k _ _ h1 (by intro z y;cases y),k _ _ h2 (by intro z y;cases y)⟩
   ·obtain⟨u,hu,rfl⟩:∃u:Nat,(targets c)[i]? =some u/\y=.int (u:Int):=by
     unfold iw at hi;rw[bC]at hi;obtain⟨u,h1,h2⟩:=cF.mp hi;exact⟨u,h1,h2.symm⟩
    refine aD (B:=B H4) ?_;have il:i<257:=by have:=(bN.mp hu).1;omega
    have ew:(Str.ofString "l" ++Str.ofString (toString (i:Int))).cps.toList=lM c u:=by rw[aak,EY];unfold lM;rw[aaN hu];rfl
    have ez:(Str.ofString "l" ++Str.ofString (toString (i:Int))).cps.size<=21:=by rw[<-gI,ew];exact E5 h256 u
    refine⟨_,rfl,_,rfl,_,rfl,?_,?_,_,rfl,?_,λp H5 s6 hp hw=>?_⟩
    ·show(i:Int).natAbs.log2<1920;by_cases h0:i=0
     ·subst h0
      decide
     ·exact(Nat.log2_lt (by omega)).mpr (e7 (show(i:Int).natAbs<2^9 by omega) (Nat.pow_le_pow_right (by decide) (by decide)))
    ·show(Str.ofString "l" ++Str.ofString (toString (i:Int))).cps.size<=1000;omega
    ·omega
    ·rw[ew]at hw;exact⟨z2,λb hb=>hA rfl _ _ (s6.trans (ae.new hb)) λu' d7=>by rw[hu]at d7;cases d7;exact⟨b,p,rfl,au,ae.new hb _ _ hw⟩⟩
   ·rw[kU,bJ]at pr;obtain⟨ps,kvs,rfl,h1,h2⟩:=aaO (K:=K) (kX pr);refine⟨D2,ps,kvs,rfl,aj.of EX,h1,λp hp=>k p _ ((s4.trans s5).trans (ae.new hp)) ⟨_,au,λu=>?_⟩⟩;obtain⟨e1,e2⟩:=aaP h2;have nk:(kvs.map (·.1)).Nodup:=by
     rw[e1,List.Nodup,List.pairwise_map];exact(Fi c).imp λh z=>by have:=Sum.inl.inj z;omega
    rw[QJ kvs [] nk];rcases e2 u with ⟨q',a,b,d⟩ |⟨a,b⟩
    ·exact .inl ⟨q',a,by rw[b];rfl,ae.new hp _ _ d⟩
    ·exact .inr ⟨a,by rw[b];rfl⟩
end My
namespace My
open PySem PySem.Spec PyProof.Rows L2
theorem aaS{P:Program}{w:World}{K:ax}{mg mb:τ}{k:Nat}{fa a b:Addr}{fd:FuncData}{ps:γ}{sp:Sp}{s₁:Shared}{vs vs2:ω}{ns ns2 out:δ}{x y z:Int}{tx ty tz:Tok} (KX:K.In s₁.heap)(hns:s₁.heap.Ns mainGlobals mg)(hb:s₁.heap.Ns builtinsNs mb)(hbb:∀x:Str,x≠ "__name__" ->mb x=bootBuiltins x)(hlim:s₁.heap.NoLimit)(hg:s₁.gens= #[]) (ha:s₁.heap.get? a=some {cls:=.type "list",data:=.seq vs.toArray})(hi:IntsAre vs ns)(hl:ns.length<=100000)(ha2:s₁.heap.get? b=some {cls:=.type "list",data:=.seq vs2.toArray})(hi2:IntsAre vs2 ns2)(hl2:ns2.length<=100000)(hr:b7 k callerA) (F:∀base:Heap,K.In base->base.Ns mainGlobals mg->aE P w K mg base aM k fa fd ps sp)(hbind:∀s:Shared,K.In s.heap->BindsTo s fd ⟨[.int x tx,.int y ty,.int z tz,.ref a,.ref b],[]⟩ (ps.zip [.int x tx,.int y ty,.int z tz,.ref a,.ref b])) (hsp:∀H:Hp,gh K H a ns->gh K H b ns2->sp [.int x,.int y,.int z,.ref a,.ref b] H (λv H'=>∃q,v=.ref q/\H' q=some (.lst (out.map V.int))) λ_ _ _=>False):codeAny (model P w) callerA (.call (.ref fa) ⟨[.int x tx,.int y ty,.int z tz,.ref a,.ref b],[]⟩) (λr s'=>(∃(q:Addr)(its:ω)(n:Nat),r=.ok (.ret (.ref q))/\s'.heap.get? q=some {cls:=.type "list",data:=.seq its.toArray n}/\Vals (out.map V.int) its)/\OldK s₁.heap s'.heap/\s'.os=s₁.os/\AllBare s'.gens) s₁:=by
 have rv:=AZ hi;have lY:=AZ hi2;obtain⟨H,eH⟩:∃H:Hp,H=λc=>if c=a/\K.lookup a=none then some (.gp {cls:=.type "list",data:=.seq vs.toArray} (.lst (ns.map V.int)))else if c=b/\K.lookup b=none then some (.gp {cls:=.type "list",data:=.seq vs2.toArray} (.lst (ns2.map V.int)))else none:=⟨_,rfl⟩
 have at_:∀c u,H c=some u->(c=a/\K.lookup a=none/\u=.gp {cls:=.type "list",data:=.seq vs.toArray} (.lst (ns.map V.int)))\/(c=b/\K.lookup b=none/\u=.gp {cls:=.type "list",data:=.seq vs2.toArray} (.lst (ns2.map V.int))):=λc u h=>by
  rw[eH]at h;dsimp only at h;split at h
  ·rename_i q
   exact .inl ⟨q.1,q.2,(b_ h).symm⟩
  ·split at h
   ·rename_i q
    exact .inr ⟨q.1,q.2,(b_ h).symm⟩
   ·cases h
 have hO:Uy H:=λc=>by
  cases q:H c with
  |none=>exact .inl rfl
  |some u=>
   rcases at_ c u q with ⟨_,_,e⟩ |⟨_,_,e⟩
   ·exact .inr ⟨_,_,by rw[e]⟩
   ·exact .inr ⟨_,_,by rw[e]⟩
 have hS:gh K H a ns:=⟨hl,by
  cases hk:K.lookup a with
  |some o=>have e:=KX a o hk;rw[ha]at e;cases e;exact .inr ⟨vs,rfl,rv⟩
  |none=>exact .inl ⟨_,by rw[eH];exact ah ⟨rfl,hk⟩⟩⟩
 have Fe:gh K H b ns2:=⟨hl2,by
  cases hk:K.lookup b with
  |some o=>have e:=KX b o hk;rw[ha2]at e;cases e;exact .inr ⟨vs2,rfl,lY⟩
  |none=>
   by_cases hab:b=a
   ·subst hab;rw[ha]at ha2;injection ha2 with e
    injection e with _ _ e
    injection e with e
    have e:vs=vs2:=by have:=c7 Array.toList e;simpa using this
    rw[<-e]at lY;rw[lY.inj rv];exact .inl ⟨_,by rw[eH];exact ah ⟨rfl,hk⟩⟩
   ·refine .inl ⟨{cls:=.type "list",data:=.seq vs2.toArray},?_⟩;rw[eH];dsimp only;rw[af (λq=>hab q.1),ah ⟨rfl,hk⟩]⟩
 have hok:cu P w H s₁.heap:=λc u h=>by
  rcases at_ c u h with ⟨e1,_,e2⟩ |⟨e1,_,e2⟩
  ·rw[e1,e2];exact⟨ha,by rw[aI,aZ];omega,vs,_,rv,ha⟩
  ·rw[e1,e2];exact⟨ha2,by rw[aI,aZ];omega,vs2,_,lY,ha2⟩
 have hA:∀c,H c≠none->c=a\/c=b:=λc h=>by
  cases q:H c with
  |none=>exact absurd q h
  |some u=>exact(at_ c u q).imp (λh=>h.1) λh=>h.1
 have hK:∀c,H c≠none->K.lookup c=none:=λc h=>by
  cases q:H c with
  |none=>exact absurd q h
  |some u=>
   rcases at_ c u q with ⟨e1,e2,_⟩ |⟨e1,e2,_⟩
   ·rw[e1];exact e2
   ·rw[e1];exact e2
 have base_of:∀{b:Addr}{o:Obj},s₁.heap.get? b=some o->H b=none->(lJ s₁.heap H).get? b=some o:=λe n=>RU e n
 have noA:∀{c:Addr}{o:Obj}{es:Array DictEntry}{ep:Nat},s₁.heap.get? c=some o->o.data=.dict es ep->H c=none:=λ{c o es ep} e d=>by
  cases q:H c with
  |none=>rfl
  |some u=>
   rcases hA c (by rw[q];simp)with e' |e'
   ·subst e';rw[ha]at e;cases e;have d':Data.seq vs.toArray _=Data.dict es ep:=d;cases d'
   ·subst e';rw[ha2]at e;cases e;have d':Data.seq vs2.toArray _=Data.dict es ep:=d;cases d'
 have nsK:∀{b:Addr}{m:τ},s₁.heap.Ns b m->(lJ s₁.heap H).Ns b m:=λ{b m} ⟨o,es,ep,e,d,r⟩=>⟨o,es,ep,base_of e (noA e d),d,r⟩
 have hKb:K.In (lJ s₁.heap H):=λb o e=>base_of (KX b o e) (by
  cases q:H b with
  |none=>rfl
  |some u=>rw[hK b (by rw[q];simp)]at e;cases e)
 have hM:Mod K mg (lJ s₁.heap H):=⟨hKb,nsK hns,⟨mb,nsK hb,hbb⟩,let ⟨mc,h1,h2⟩:=hlim;⟨mc,nsK h1,h2⟩⟩;have e0:oJ P w K mg (lJ s₁.heap H) callerA [] s₁ H:=⟨rfl,hM,λb o e=>RV e,nZ (RT _ _),trivial,λb hb=>absurd (show b∈([]:List Addr) from hb) (by simp),hok,.of_eq hg⟩;refine mH ((F _ hKb (nsK hns)).run callerA [] s₁ H ⟨[.int x tx,.int y ty,.int z tz,.ref a,.ref b],[]⟩ [.int x tx,.int y ty,.int z tz,.ref a,.ref b] [.int x,.int y,.int z,.ref a,.ref b] _ _ hr e0 (hbind s₁ KX) (.cons ⟨tx,rfl⟩ (.cons ⟨ty,rfl⟩ (.cons ⟨tz,rfl⟩ (.cons rfl (.cons rfl .nil))))) (hsp H hS Fe)) λr s' h=>?_
 cases r with
 |error e=>exact False.elim h
 |ok fl=>
  cases fl with
  |next=>exact False.elim h
  |brk=>exact False.elim h
  |cont=>exact False.elim h
  |ret u=>
   obtain⟨v,H',os,bare,un,QK,r',q,eq,hq⟩:=h;subst eq;obtain rfl:u=Value.ref q:=r';obtain⟨_,its,n,DE,hget⟩:=QK q _ hq;refine⟨⟨q,its,n,rfl,hget,DE⟩,OldK.of_keep λb o e=>?_,os,bare⟩;cases q:H b with
   |none=>exact un.keep b o e q (by intro z;exact absurd (show b∈([]:List Addr) from z) (by simp)) (by simp)
   |some u=>
    rcases hO b with z |⟨ob,xs,z⟩
    ·rw[q]at z;cases z
    ·have z2:=un.iR b ob _ z;obtain⟨e1,_⟩:=hok b _ z;obtain⟨e2,_⟩:=QK b _ z2;rw[e]at e1;cases e1;exact e2
theorem QL{R:PySem.W.WRecords}{cl:Str->Option Addr}{h:Heap}:∀{out:δ}{its:ω},Vals (out.map V.int) its->∃as,PySem.W.ReadsAllW R cl h its (out.map PySem.W.WData.int) as
 |[],_,.nil=>⟨_,.nil⟩
 |i::r,_,.cons ⟨t,e⟩ q=>by obtain⟨as,h'⟩:=QL (R:=R) (cl:=cl) (h:=h) q;subst e;exact⟨_,.cons (.int i t) h'⟩
def cZ(ks:δ):Int:=reduceHash (Builtin.Tuple.tupleHashOf (ks.map hashInt))
theorem hash_eq(P:Program)(w:World)(ks:δ):(tupleKind (bU P w)).hash (ks.map Sum.inl)=cZ ks:=by unfold cZ;show reduceHash (Builtin.Tuple.tupleHashOf ((ks.map Sum.inl).map (bU P w).hash))=_;rw[fu];rfl
def iI(K:ax)(a:Addr)(ks:δ):Prop:=∀(P:Program)(w:World)(h:Heap),K.In h->(tupleKind (bU P w)).is h (ks.map Sum.inl) a
theorem aaT{K:ax}{a:Addr}{o:Obj}{n:Nat}{k:Int}{t:Tok}(l:K.lookup a=some o)(d:o.cls=.type "tuple" /\o.data=.seq #[.int k t] n):iI K a [k]:=λP w h X=>⟨o,_,n,X _ _ l,d.1,d.2,.cons (wm k t) .nil⟩
theorem aaU{K:ax}{a:Addr}{o:Obj}{n:Nat}{k k':Int}{t t':Tok}(l:K.lookup a=some o)(d:o.cls=.type "tuple" /\o.data=.seq #[.int k t,.int k' t'] n):iI K a [k,k']:=λP w h X=>⟨o,_,n,X _ _ l,d.1,d.2,.cons (wm k t) (.cons (wm k' t') .nil)⟩
theorem aaV{P:Program}{w:World}{K:ax}{t:Ad}{oO:Obj}{epO:Nat}{QM:Int}{QN:Int}{QO:Int}{QP:Int}{QQ:Int}{QR:Int}{QS:Int}{QT:Int}{QU:Int}{QV:Int}{QW:Int}{QX:Int}(l_O:K.lookup t.pD=some oO)(d_O:oO.ExactDict/\oO.data=.dict #[⟨QM,.ref t.xB,.ref t.oZ⟩,⟨QN,.ref t.xC,.ref t.o6⟩,⟨QO,.ref t.xD,.ref t.o7⟩,⟨QP,.ref t.xE,.ref t.o8⟩,⟨QQ,.ref t.xF,.ref t.o9⟩,⟨QR,.ref t.xG,.ref t.o_⟩,⟨QS,.ref t.xH,.ref t.pf⟩,⟨QT,.ref t.xI,.ref t.ph⟩,⟨QU,.ref t.xJ,.ref t.pj⟩,⟨QV,.ref t.xK,.ref t.pw⟩,⟨QW,.ref t.xM,.ref t.pz⟩,⟨QX,.ref t.xN,.ref t.pA⟩] epO)(n_O:(t.pD==sysModules)=false) (aaW:QM=cZ [43])(aaX:iI K t.xB [43])(aaY:QN=cZ [45])(aaZ:iI K t.xC [45])(aa0:QO=cZ [42])(aa1:iI K t.xD [42])(aa2:QP=cZ [47])(aa3:iI K t.xE [47])(aa4:QQ=cZ [37])(aa5:iI K t.xF [37])(aa6:QR=cZ [38])(aa7:iI K t.xG [38])(aa8:QS=cZ [124])(aa9:iI K t.xH [124])(aa_:QT=cZ [94])(aba:iI K t.xI [94])(abb:QU=cZ [60,60])(abc:iI K t.xJ [60,60])(abd:QV=cZ [62,62])(abe:iI K t.xK [62,62])(abf:QW=cZ [60])(abg:iI K t.xM [60])(abh:QX=cZ [61,61])(abi:iI K t.xN [61,61]):zv P w K t.pD (pE t):=by
 refine⟨λh X=>⟨oO,_,epO,X _ _ l_O,d_O.1,d_O.2,?_,?_,?_⟩,n_O⟩
 ·subst aaW aaY aa0 aa2 aa4 aa6 aa8 aa_ abb abd abf abh;simp only[pE,bx,qC,entryOfKey];rw[show(tupleKind (bU P w)).hash [Sum.inl 43]=cZ [43] from hash_eq P w [43],show(tupleKind (bU P w)).hash [Sum.inl 45]=cZ [45] from hash_eq P w [45],show(tupleKind (bU P w)).hash [Sum.inl 42]=cZ [42] from hash_eq P w [42],show(tupleKind (bU P w)).hash [Sum.inl 47]=cZ [47] from hash_eq P w [47],show(tupleKind (bU P w)).hash [Sum.inl 37]=cZ [37] from hash_eq P w [37],show(tupleKind (bU P w)).hash [Sum.inl 38]=cZ [38] from hash_eq P w [38],show(tupleKind (bU P w)).hash [Sum.inl 124]=cZ [124] from hash_eq P w [124],show(tupleKind (bU P w)).hash [Sum.inl 94]=cZ [94] from hash_eq P w [94],show(tupleKind (bU P w)).hash [Sum.inl 60,Sum.inl 60]=cZ [60,60] from hash_eq P w [60,60],show(tupleKind (bU P w)).hash [Sum.inl 62,Sum.inl 62]=cZ [62,62] from hash_eq P w [62,62],show(tupleKind (bU P w)).hash [Sum.inl 60]=cZ [60] from hash_eq P w [60],show(tupleKind (bU P w)).hash [Sum.inl 61,Sum.inl 61]=cZ [61,61] from hash_eq P w [61,61]]
 ·intro x hx;unfold pE at hx;simp only[aX,dB,dC]at hx;rcases hx with rfl |rfl |rfl |rfl |rfl |rfl |rfl |rfl |rfl |rfl |rfl |rfl
  ·exact aaX P w h X
  ·exact aaZ P w h X
  ·exact aa1 P w h X
  ·exact aa3 P w h X
  ·exact aa5 P w h X
  ·exact aa7 P w h X
  ·exact aa9 P w h X
  ·exact aba P w h X
  ·exact abc P w h X
  ·exact abe P w h X
  ·exact abg P w h X
  ·exact abi P w h X
 ·show([[Sum.inl 43],[Sum.inl 45],[Sum.inl 42],[Sum.inl 47],[Sum.inl 37],[Sum.inl 38],[Sum.inl 124],[Sum.inl 94],[Sum.inl 60,Sum.inl 60],[Sum.inl 62,Sum.inl 62],[Sum.inl 60],[Sum.inl 61,Sum.inl 61]]:List (List Key)).Nodup
  decide
theorem abj{K:ax}{C N fI:Addr}{nm q:Str}{bs sub:ω}{sn:γ}{ab:Bool}{col:Option Bool}{dd:Option Addr}{k0 k1 k2 k3 k5:Option Value}{oc:Value}{od:Option Addr}{es:Array DictEntry}{ep:Nat}{sl:Array (Option Value)} (c:K.lookup C=some (excClassObj nm q C N bs [.type "Exception",.type "BaseException",.type "object"] true sn sub ab col dd k0 k1 k2 k3 k5 "Exception.__new__"))(l:K.lookup N=some ⟨oc,od,.dict es ep,sl⟩) (al:(es.toList.all λe=>match e.key with | .str _ _=>true |_=>false)=true)(i:nsIn K N "__init__"=some (some (.ref fI)))(sa:nsIn K N "__setattr__"=some none)(ln:nsIn K N "line"=some none)(ga:nsIn K N "__getattribute__"=some none)(gt:nsIn K N "__getattr__"=some none) (fn:isFn K (.ref fI)=true)(kp:keepIn K (.ref C)=true):XC K C N fI:=⟨⟨_,_,_,_,_,_,_,_,_,_,_,_,_,c⟩,(by unfold PySem.W.nsOkIn;rw[l];show(es.all λe=>match e.key with | .str _ _=>true |_=>false)=true;rw[<-Array.all_toList];exact al),i,sa,ln,ga,gt,fn,kp⟩
theorem sq3{K:ax}{a:Addr}{o:Obj}{n:Nat}{x y z:Int}{t u v:Tok}(l:K.lookup a=some o)(d:o.cls=.type "tuple" /\o.data=.seq #[.int x t,.int y u,.int z v] n)(H:Hp):aV K H a [.int x,.int y,.int z]:=.inr ⟨o,_,n,l,d.1,d.2,z3,.cons ⟨_,rfl⟩ (.cons ⟨_,rfl⟩ (.cons ⟨_,rfl⟩ .nil))⟩
theorem sq6{K:ax}{a:Addr}{o:Obj}{n:Nat}{x y z x' y' z':Str}{t u v t' u' v':Tok}(l:K.lookup a=some o)(d:o.cls=.type "tuple" /\o.data=.seq #[.str x t,.str y u,.str z v,.str x' t',.str y' u',.str z' v'] n)(H:Hp):aV K H a [.str x,.str y,.str z,.str x',.str y',.str z']:=.inr ⟨o,_,n,l,d.1,d.2,z6,.cons ⟨_,rfl⟩ (.cons ⟨_,rfl⟩ (.cons ⟨_,rfl⟩ (.cons ⟨_,rfl⟩ (.cons ⟨_,rfl⟩ (.cons ⟨_,rfl⟩ .nil)))))⟩
theorem int_mk{K:ax}{h:Heap}{mg:τ}{x:Str}{n:Int}{tk:Tok}(X:K.In h)(G:h.Ns mainGlobals mg)(e:nsIn K mainGlobals x=some (some (.int n tk))):∃tk,mg x=some (.int n tk):=⟨tk,PySem.W.mg_of X G e⟩
theorem abk{K:ax}{f a:Addr}{st:Stmt}{x q:Str}{oc kV doc pm cdv ct:Value}{od an:Option Addr}{osl:Array (Option Value)}(l:K.lookup f=some ⟨oc,od,.func (fnOf x q (gU st) (fb st) (bp st) (.ref a) kV doc pm an cdv ct),osl⟩)(c:codeIn K cdv q=true):∃(oc:Value)(od:Option Addr)(fi doc' pm':Value)(an':Option Addr)(cdv' ct':Value)(osl:Array (Option Value)),fnOf x q (gU st) (fb st) (bp st) (.ref a) kV doc pm an cdv ct=fnOf x q (gU st) (fb st) (bp st) (.ref a) fi doc' pm' an' cdv' ct'/\K.lookup f=some ⟨oc,od,.func (fnOf x q (gU st) (fb st) (bp st) (.ref a) kV doc pm an cdv ct),osl⟩/\codeIn K cdv' q=true:=⟨_,_,_,_,_,_,_,_,_,rfl,l,c⟩
theorem abl{K:ax}{a:Addr}{o:Obj}{n:Nat}{xs:Array Value}(l:K.lookup a=some o)(e:o.data=.seq xs n):∃(o:Obj)(n:Nat),K.lookup a=some o/\o.data=.seq xs n:=⟨o,n,l,e⟩
end My
namespace My
open PySem PySem.W PyProof.Rows L2
abbrev R0:=PySem.Challenge.rw_sameruns_s03_bt_run
theorem Fk{p:Params}{h:Heap}{v:Value}{x:Int}(w:Well p h v (WData.int x)):∃t,v=.int x t:=by cases w;exact⟨_,rfl⟩
theorem QY{p:Params}{h:Heap}{v:Value}{l:List WData}(w:Well p h v (WData.list l)):∃a vs,v=.ref a/\h.get? a=some {cls:=.type "list",data:=.seq vs.toArray}/\WellAll p h vs l:=by
 cases w with
 |list ho hall=>exact⟨_,_,rfl,ho,hall⟩
theorem vI{p:Params}{h:Heap}{us:ω}{d:WData}{ds:List WData}(w:WellAll p h us (d::ds)):∃v vs,us=v::vs/\Well p h v d/\WellAll p h vs ds:=by
 cases w with
 |cons w1 w2=>exact⟨_,_,rfl,w1,w2⟩
theorem abm{p:Params}{h:Heap}{vals:ω}{x y z:Int}{l m:List WData}(w:WellAll p h vals [WData.int x,WData.int y,WData.int z,WData.list l,WData.list m]):∃t1 t2 t3 a b vs us,vals=[.int x t1,.int y t2,.int z t3,.ref a,.ref b]/\(h.get? a=some {cls:=.type "list",data:=.seq vs.toArray}/\WellAll p h vs l)/\h.get? b=some {cls:=.type "list",data:=.seq us.toArray}/\WellAll p h us m:=by
 obtain⟨v1,r1,e1,w1,w⟩:=vI w;obtain⟨v2,r2,e2,w2,w⟩:=vI w;obtain⟨v3,r3,e3,w3,w⟩:=vI w;obtain⟨v4,r4,e4,w4,w⟩:=vI w;obtain⟨v5,r5,e5,w5,w⟩:=vI w;obtain⟨t1,f1⟩:=Fk w1;obtain⟨t2,f2⟩:=Fk w2;obtain⟨t3,f3⟩:=Fk w3;obtain⟨a,vs,f4,q4⟩:=QY w4;obtain⟨b,us,f5,q5⟩:=QY w5;have f6:r5=[]:=by cases w;rfl
 exact⟨t1,t2,t3,a,b,vs,us,by rw[e1,e2,e3,e4,e5,f1,f2,f3,f4,f5,f6],q4,q5⟩
theorem fin{w:World}{s₀ s₁:Shared}{mg mb:τ}{K:ax}{t:Ad}{x y z:Int}{ns ns2:δ}{vals:ω}(KX:K.In s₁.heap)(g:s₁.heap.Ns mainGlobals mg)(b:s₁.heap.Ns builtinsNs mb)(bb:∀x:Str,x≠ "__name__" ->mb x=bootBuiltins x)(nl:s₁.heap.NoLimit)(hg:s₁.gens= #[]) (T:Txt K mg t)(said:R0.wellSaid=true)(hw:Codec.withinAll R0.args (x,y,z,ns,ns2,())=true)(hwl:WellAll w.params s₁.heap vals [WData.int x,WData.int y,WData.int z,WData.list (ns.map WData.int),WData.list (ns2.map WData.int)]):wpAny (model R0.prog w) callerA (call (Value.ref t.t_) vals) (λv s'=>GoodWG R0.claim (classAt s₀.heap) (ExcName.means s₀.heap) (Codec.encAll R0.args (x,y,z,ns,ns2,())) s₁ (Except.ok (Flow.ret v)) s') (λe s'=>GoodWG R0.claim (classAt s₀.heap) (ExcName.means s₀.heap) (Codec.encAll R0.args (x,y,z,ns,ns2,())) s₁ (Except.error e) s') s₁:=by
 obtain⟨t1,t2,t3,a,b',vs,vs2,rfl,⟨ho,hall⟩,ho2,abn⟩:=abm hwl;have hi:=Att.Ih ns _ hall;have hi2:=Att.Ih ns2 _ abn;have vC:(Codec.inInt (Int.negSucc 2147483647) (Int.ofNat 2147483647) x&&(Codec.inInt (Int.negSucc 2147483647) (Int.ofNat 2147483647) y&&(Codec.inInt (Int.negSucc 2147483647) (Int.ofNat 2147483647) z&&((Codec.inLen 0 65536 ns&&ns.all (Codec.inInt (Int.ofNat 0) (Int.ofNat 255)))&&((Codec.inLen 0 16000 ns2&&ns2.all (Codec.inInt (Int.negSucc 9223372036854775807) (Int.ofNat 9223372036854775807)))&&true)))))=true:=hw;simp only[FX,fM]at vC;obtain⟨_,_,_,⟨hlen,abo⟩,hlen2,abp⟩:=vC;have hl:ns.length<=65536:=(Codec.inNat_iff.mp hlen).2;have hl2:ns2.length<=16000:=(Codec.inNat_iff.mp hlen2).2;have h0:∀x∈ns,0<=x:=λx hx=>(Codec.inInt_iff.mp (zL.mp abo x hx)).1
 have h64:∀x∈ns2,aN x:=λx hx=>by have h:=Codec.inInt_iff.mp (zL.mp abp x hx);unfold aN;have h1:(-9223372036854775808:Int)<=x:=h.1;have h2:x<=(9223372036854775807:Int):=h.2;omega
 have en:(ns.map Int.toNat).map (λ(c:Nat)=>(c:Int))=ns:=by rw[fu];exact(wc λc hc=>by show((c.toNat:Nat):Int)=id c;have:=h0 c hc;simp;omega).trans (F3 ns)
 refine sF (mH (aaS (k:=11) (out:=PySz43.bt_run x y z ns ns2) KX g b bb nl hg ho hi (by omega) ho2 hi2 (by omega) ⟨rfl,by decide,by decide⟩ (λbase _ _=>aaj T (aaR T)) (λs kx=>Wz T s [.int x t1,.int y t2,.int z t3,.ref a,.ref b'] kx rfl) λH hT hT2=>⟨x,y,z,a,b',ns.map Int.toNat,ns2,rfl,by rw[en];exact hT.tx,hT2,by rw[aI];exact hl,by omega,h64,λq H' e=>⟨q,rfl,by rw[en]at e;exact e⟩⟩) λr s' hq=>?_);obtain⟨⟨q,its,n,rfl,hget,hv⟩,h2,h3,h4⟩:=hq;obtain⟨as',hr⟩:=QL (R:=[]) (cl:=classAt s₀.heap) (h:=s'.heap) hv;exact⟨.inl ⟨.ref q,.list ((PySz43.bt_run x y z ns ns2).map .int),q::as',rfl,λ_=>rfl,.list hget rfl rfl (by rw[List.toList_toArray];exact hr),(OpenSpec.post_iff said hw _ _).mpr rfl,λh=>by cases h⟩,h2,h3,h4⟩
end My
open PySem PySem.W PyProof.Rows
structure PySem.W.Fast:Prop where (tw7745569901340425041 tw12519363057152419354 tw4285444812717894529 tw9364458165024285685 tw369854396068390200 tw2228525166557258021 tw15563625343373310869 tw339762427278144299 tw3382375453906217903 tw1870330858981787522 tw13890615200473446760 tw15200184891186020062 tw8658330446800848138 tw3707604928537197646 tw11677034563005178708 tw1243188516956708387 tw323091387213425716 tw2065825737004864169 tw5974676310165016173 tw16461067763052780907 tw392034305196907603 tw17386049719270613147 tw12057710932504837777 tw11499708960611397923 tw10623614490292275048 tw10211882330434604321 tw8139091695925355869 tw9735679664799779609 tw12711025678361205394 tw14778295218251306564 tw8243626054845876253 tw15664859198675788561 tw6337950396454987277 tw12895800595483531182 tw6117603552933185536 tw13072891232174241378 tw7198576262231735382 tw170291078255104848 tw11438711415321364235 tw9282529858633560926 tw13104258605925360903 tw570745127572026213 tw3114518995494935532 tw6661977261271766995 tw16375058590786567936 tw4468434605371866207 tw17210703933815428146 tw13352865332471100073 tw15469302154508770032 tw11380919407938386190 tw2116206289630120759 tw3052424218444681524 tw3702118601818847882 tw460320940340264691 tw14077757166090793777 tw11578501195391497072 tw6711801450083088925 tw6795603711235950875 tw5249963370187482008 tw11294289564306433170 tw5256275303292795980 tw2558624384504553474 tw9913285872982561377 tw2289505943899265250 tw11082403746270280525 tw6318817510180317543 tw1814727215881438503 tw8029336748097247721 tw11916315190409712183 tw6391963514135803704 tw12923309644174468600 tw13530517842074144275 tw9696064949481593929 tw5430175120408091740 tw15657385799710030370 tw17939424740365808294 tw11900092957367070010 tw13273078442878372699 tw5480197114500316738 tw4938862201465340544 tw4196170702513231618 tw8965064277415925003 tw4388818895031362300 tw5791074154773405192 tw2683368731299320776 tw14657405372950852526 tw1377634033421913652 tw6880277999620390487 tw13420713666794994882 tw9041297772329646698 tw1773020820492255772 tw2244361186772482333 tw2350249083756687676 tw1706145764930821686 tw9301567691568129361 tw437152011828721136 tw15148596420453564236 tw5585914503906497876 tw8680352974358981648 tw10398370452538665769 tw14618516585267960869 tw9726661095341493328 tw7257002806317099701 tw12801208016122128455 tw8560674032618085062 tw3973325546479784501 tw1062108360246292787 tw3044393930645701742 tw16749186373904996494 tw18402587757809842336 tw7439536753575529091 tw10156849077077356403 tw11550477134814333881 tw14735170250965219039 tw9916317397677908687 tw15697477990021051116 tw4199130341987280890 tw14794589009747759372 tw13235887542031069603 tw6956035385507210601 tw15904279829541916183 tw15934144294538143233 tw799202456269275773 tw12763567507945892832 tw14232097969072933024 tw6759661272571562978 tw12817656107264049737 tw3310841033857574431 tw10131868425795757153 tw2372296568117119582 tw9089106896065504992 tw18034422116897914098 tw5490278333737865020 tw10918737464707395199 tw12167972073805908267 tw4799635229104543360 tw7096841148654047316 tw6707208476249014544 tw17550778162482938747 tw17226427208218385864 tw10542242571760405947 tw181169195692021765 tw4374770235743400451 tw11767144420923703650 tw11468609973442224886 tw9287280293730791919 tw17607073583232411817 tw9036327811990073470 tw9107927791609763304 tw12066789734596884146 tw6365499531029738360 tw12296720217577664872 tw3709819574245296179 tw4918708109510814504 tw6837359118087465106 tw3153246665742624786 tw10099826992556362765 tw2794582748051780497 tw346263135987166360 tw18387486998580623330 tw18096823310406237416 tw7282592732290220594 tw6405098387060725672 tw6940273378762733803 tw8345494272228217645 tw762761880869938229 tw12814329724706692898 tw12738970034954665703 tw1318925368866342472 tw895732120050443285 tw11114013335377108521 tw3914862427204524788 tw8868890812127711588 tw15758764197642188123 tw7239205052105615767 tw9638285022480491309 tw7952974033036551151 tw4505789677121072396 tw13491356659251636147 tw7205794512399541369 tw3686450537593570404 tw3756994810312900128 tw17792011756727095618 tw10424491825569251108 tw16757802140040585380 tw3348096913568448538 tw11590182702099311899 tw12878785427891765417 tw9717655166167511523 tw2712908277152027232 tw2935904407814487588 tw12073523849108186909 tw12993996793460118126 tw14657769357523430136 tw4842557579582840044 tw5422143525227567368 tw4047907219007470311 tw10557127418528081819 tw9517513547734776323 tw2067452923955220786 tw8672174761466986693 tw9226314323486075663 tw15889000074683480102 tw15144917749969100702 tw15493428251457259698 tw9044725074820591626 tw8974682243806953463 tw16068509284173988525 tw8642933630354274973 tw8254285214103832325 tw18308611318559473713 tw3391643552665524788 tw17617742782017682631 tw15024938672798226211 tw3984143759911147875 tw5136347000488140034 tw9626218405711908603 tw17568505269430076938 tw18046488874629495318 tw6671460300937331167 tw2662940560053820286 tw5096012495564192954 tw9238933689542706166 tw17977853085054938715 tw6679022454435845515 tw7506111137934763000 tw6943364328062954077 tw12290048942820103318 tw4920750521996929104 tw289420562299092854 tw6391324334884854272 tw10330965860531567308 tw3903231842344240183 tw7899324875855445978 tw17216573298414334827 tw13124102491066098430 tw4152085499603787478 tw6797144394740816472 tw269388935748760023 tw1233972515608067759 tw3968428405995344554 tw3041479604682943809 tw6663419285509869558 tw11538665814953910186 tw4157481991671741135 tw10579601530542339643 tw13715822547727349059 tw16217599504118493021 tw4301243337363402723 tw5365275755932918676 tw13641204722629406118 tw2052918909840201986 tw3235528302788796743 tw15346139825124956377 tw14822024205025812499 tw2950425193791514706:True)
set_option maxRecDepth 100000 in
set_option maxHeartbeats 0 in
theorem PySem.Challenge.cw_sameruns_s03_bt_run_holds : PySem.Challenge.rw_sameruns_s03_bt_run.Holds := by
 w_on;k_headS;(case hw=>exact⟨[.int 0,.int 0,.int 0,.list [],.list []],by decide+kernel,by decide+kernel⟩)
 k_fillS
 intro w s₀ s₁ mg mb G Y fa o pm cd doc dV kV ho hd hcd hD hmg hg args vals as hpre hlay hrd hwl hlo;have KX:=kIn_of Y;have T:∃t,My.Txt (L2.Ii KX) mg t:=by
  dsimp only[L2.Ii]
  refine'⟨My.Ad.mk ..,?T⟩
  case T=>
  constructor
  case ub |KJ |B7 |KN |B9 |KO |KP |KQ |KR |Cb |KS |rC |KU |KW |KY |KZ |K1 |rD |Wl |Wm |Wn |Wo |Wp |Wq |Wr |Ws |Wt |Wu |Wv |Ww |K2 |Cw |Cy |K3 |K4 |K7 |xZ |K8 |K9 |K_ |fe |La |CF |CG |Lb |x6 |Lc |Ld |Le |Lf |Lg |Lh |CM |Li |Lj |Lk |Ll |Lm |Lo |Lp |Lq |Lr |Ls |Lu |Lv |Lw |Lx |Ly |Lz |gX |C_ |kK |LJ |LM |Df |LR |LY=>
   refine' mg_of KX G.T.g ?q1
   case q1=>(try dsimp only);k_is
  case LP |ug |De |uh |LQ |Dg |LS |LU |LV |LW |LX |LZ |L5 |L6 |L7 |L8 |L9 |L_ |Ma |Mb |Mc |Md=>
   refine' My.int_mk KX G.T.g ?q1
   case q1=>k_is
  case yh |yi |Di |Mg |Mh |rG |cS |uj |Mi |uk |Mj |yj |Ml=>
   refine' ns_none_of KX G.T.g ?q1
   case q1=>(try dsimp only);k_is
  case gZ |Dc |LK |LO=>
   refine'⟨?q1,?q2,?q3,?q4⟩
   case q1=>(try dsimp only);k_is
   case q2=>(try dsimp only);k_is
   case q3=>(try dsimp only);k_is
   case q4=>(try dsimp only);k_is
  case cI |eK |bA |pJ=>
   refine'⟨?q1,?q2,?q3,?q4⟩
   case q1=>(try dsimp only);k_is
   case q2=>(try dsimp only);k_is
   case q3=>(try dsimp only);k_is
   case q4=>(try dsimp only);k_is
  case LB |LC |LD |LF |LG |pH |C7 |LH=>
   refine'⟨?q1,?q2,?q3⟩
   case q1=>(try dsimp only);k_is
   case q2=>(try dsimp only);k_is
   case q3=>(try dsimp only);k_is
  case be |dR |cA |ue |me |eJ |jU |kJ |i9 |rE |mf |rF |yg |uf |Dd=>dsimp only[L2.dQ];k_is
  case xc=>
   refine' My.abj ?q1 ?q2 ?q3 ?q4 ?q5 ?q6 ?q7 ?q8 ?q9 ?Fl
   case q1=>(try dsimp only);k_is
   case q2=>(try dsimp only);k_is
   case q3=>rfl
   case q4=>(try dsimp only);k_is
   case q5=>(try dsimp only);k_is
   case q6=>(try dsimp only);k_is
   case q7=>(try dsimp only);k_is
   case q8=>(try dsimp only);k_is
   case q9=>(try dsimp only);k_is
   case Fl=>(try dsimp only);k_is
  case rB |xO |xP |B8 |xQ |xR |xS |B_ |Ca |xT |Cc |pF |Cd |Ce |Cf |Cg |xU |pG |Ci |Cj |Ck |Cm |Cn |Co |Cp |Cq |Cr |Cs |Ct |Cu |Cv |xV |xW |xX |xY |Cz |uc |CA |CB |CC |eF |CD |x4 |x5 |CH |ud |CI |x8 |CJ |x9 |CK |CL |x_ |CN |CO |CP |ya |CQ |CS |yb |CT |yc |CU |CV |yd |CW |CY |CZ |C0 |ye |kI |C1 |C2 |C3 |C4 |C5 |C6 |ng |yf |C8 |C9=>
   refine' L2.Uz ?q1 ?q2 ?q3
   case q1=>(try dsimp only);k_is
   case q2=>(try dsimp only);k_is
   case q3=>(try dsimp only);k_is
  case nh=>
   dsimp only
   refine' My.abk ?q1 ?q2
   case q1=>(try dsimp only);k_is
   case q2=>(try dsimp only);k_is
  case pI=>
   dsimp only
   refine' My.abl ?q1 ?q2
   case q1=>(try dsimp only);k_is
   case q2=>rfl
  case Me=>
   refine' My.sq3 ?q1 ?q2
   case q1=>(try dsimp only);k_is
   case q2=>exact⟨rfl,rfl⟩
  case Dh=>
   refine' My.sq6 ?q1 ?q2
   case q1=>(try dsimp only);k_is
   case q2=>exact⟨rfl,rfl⟩
  case tab=>
   intro P w;refine' My.aaV ?q1 ?q2 ?q3 ?p0 ?r0 ?p1 ?r1 ?p2 ?r2 ?p3 ?r3 ?p4 ?r4 ?p5 ?r5 ?p6 ?r6 ?p7 ?r7 ?p8 ?r8 ?p9 ?r9 ?p10 ?AK ?p11 ?r11
   case q1=>(try dsimp only);k_is
   case q2=>exact⟨⟨rfl,rfl,rfl⟩,rfl⟩
   case q3 |p0 |p1 |p2 |p3 |p4 |p5 |p6 |p7 |p8 |p9 |p10 |p11=>decide+kernel
   case r0 |r1 |r2 |r3 |r4 |r5 |r6 |r7 |AK=>
    refine' My.aaT ?q1 ?q2
    case q1=>(try dsimp only);k_is
    case q2=>exact⟨rfl,rfl⟩
   case r8 |r9 |r11=>
    refine' My.aaU ?q1 ?q2
    case q1=>(try dsimp only);k_is
    case q2=>exact⟨rfl,rfl⟩
  case Mf=>
   refine'⟨?q1,?q2,?q3,?q4,?q5,?q6,?q7,?q8,?q9,?Fl,?q11,?q12⟩
   case q1=>(try dsimp only);k_is
   case q2=>(try dsimp only);k_is
   case q3=>(try dsimp only);k_is
   case q4=>(try dsimp only);k_is
   case q5=>(try dsimp only);k_is
   case q6=>(try dsimp only);k_is
   case q7=>(try dsimp only);k_is
   case q8=>(try dsimp only);k_is
   case q9=>(try dsimp only);k_is
   case Fl=>(try dsimp only);k_is
   case q11=>(try dsimp only);k_is
   case q12=>(try dsimp only);k_is
 obtain⟨t,T⟩:=T;have efa:fa=t.t_:=by
  have e:=hmg.symm.trans T.Ly;injection e with e
  injection e
 subst efa;have said:PySem.Challenge.rw_sameruns_s03_bt_run.wellSaid=true:=by decide+kernel
 obtain⟨⟨x,y,z,ns,ns2,u⟩,hw,has,rfl⟩:=(OpenSpec.pre_iff said args).mp hpre;cases u;exact My.fin KX G.T.g G.T.b G.T.builtins G.T.nolimit hg T said hw hwl
