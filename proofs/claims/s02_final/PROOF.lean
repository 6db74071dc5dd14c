import PyProof.Rows.All
import Wide.All
import OpenK.AllK
import Wide.FinOn
import PyProof.EqAt
import PyProof.EqKinds
import PyProof.TupleCall
import KE.BitLaws
import KE.OsGo
import KE.KDictSum
import KE.KDictList
import PyProof.Rows.SortShellAny
import Open.SpecLaws
import Sz43Spec
import PySz43
import PySem.Challenge.RW_sameruns_s02_bt_better
set_option Elab.async false
set_option linter.all false
set_option maxRecDepth 100000
noncomputable section
open PySem.W (keepIn nsIn findIn emptyDict instObj plainGet fnOf isFn lookIn codeIn takerIn methodObj hasDictIn callWith_K)
abbrev ag:=@PySem.wpAny_bind
abbrev ah:=@if_neg
abbrev ai:=@if_pos
abbrev ax:=@PySem.W.Frag
abbrev az:=@PySem.wpAny_pure
abbrev aI:=@Nat.le_refl
abbrev aK:=@List.length_map
abbrev aN:=@List.getElem?_eq_getElem
abbrev a6:=@List.mem_cons
abbrev a9:=@decide_eq_false
abbrev ba:=@PySem.Heap.lt_size
abbrev bg:=@PySem.sizeLine_eq
abbrev bo:=@List.length_append
abbrev br:=@PySem.Heap.get?_push_of_some
abbrev bt:=@List.map_cons
abbrev bu:=@List.mem_of_getElem?
abbrev bx:=@decide_eq_true
abbrev bC:=@PySem.Paired.length
abbrev bE:=@Nat.le_trans
abbrev bF:=@List.getElem?_map
abbrev bN:=@List.mem_append
abbrev bQ:=@List.mem_cons_of_mem
abbrev bT:=@Nat.ne_of_lt
abbrev bW:=@List.getElem?_eq_some_iff
abbrev b6:=@List.length_cons
abbrev b9:=@Nat.zero_le
abbrev cu:=@Ne.symm
abbrev cF:=@PySem.Heap.get?_push_size
abbrev cI:=@Option.some.inj
abbrev cJ:=@List.size_toArray
abbrev cK:=@Option.map_eq_some_iff
abbrev cY:=@Bool.false_ne_true
abbrev cZ:=@List.length_singleton
abbrev dq:=@PySem.wpAny_mono
abbrev dA:=@PySem.boot_len
abbrev dB:=@List.not_mem_nil
abbrev dC:=@or_false
abbrev dM:=@Nat.lt_of_lt_of_le
abbrev dN:=@List.mem_cons_self
abbrev d_:=@List.mem_map
abbrev eO:=@PySem.Heap.size_push
abbrev eQ:=@List.map_map
abbrev eU:=@List.map_append
abbrev fb:=@List.mem_filter
abbrev fc:=@List.mem_append_left
abbrev fe:=@Bool.and_eq_true
abbrev fJ:=@List.getD_eq_getElem?_getD
abbrev f7:=@congrArg
abbrev f9:=@Bool.eq_iff_iff
abbrev gj:=@Array.length_toList
abbrev gk:=@List.append_nil
abbrev gn:=@List.length_set
abbrev gp:=@PySem.PassesOwn.never
abbrev gq:=@PySem.F.plainAttrs_list
abbrev gr:=@List.length_range
abbrev gu:=@List.cons.injEq
abbrev g8:=@Option.bind_some
abbrev iz:=@PySem.mem_of_lookup
abbrev iA:=@PySem.Heap.get?_update_other
abbrev iB:=@List.take_add_one
abbrev iC:=@Nat.succ_le_succ
abbrev iE:=@List.sum_cons
abbrev jb:=@PySem.wpAny_holding
abbrev jc:=@PySem.wpAny_newObj_type
abbrev jd:=@Array.getElem?_eq_getElem
abbrev je:=@of_decide_eq_true
abbrev jz:=@List.mem_append_right
abbrev jA:=@List.getElem?_eq_none
abbrev jB:=@Nat.testBit_and
abbrev jX:=@beq_iff_eq
abbrev jY:=@if_false
abbrev jZ:=@PySem.wpAny_loadPart_at
abbrev j0:=@List.take_length
abbrev j6:=@of_decide_eq_false
abbrev j7:=@PySem.F.slot_list_append
abbrev j8:=@PySem.F.type_list_append
abbrev kR:=@List.getElem?_set_self
abbrev kS:=@List.find?_cons
abbrev kT:=@PySem.wpAny_setField
abbrev l8:=@Nat.lt_irrefl
abbrev l9:=@Nat.ne_of_gt
abbrev l_:=@Nat.le_succ
abbrev ma:=@Option.map_some
abbrev md:=@Option.bind_none
abbrev me:=@List.findIdx?_eq_some_iff_getElem
abbrev mf:=@List.any_eq_true
abbrev m7:=@beq_eq_false_iff_ne
abbrev m8:=@List.getElem?_set_ne
abbrev m9:=@PySem.wpAny_truthy_bool
abbrev m_:=@List.mem_filterMap
abbrev nc:=@Nat.le_of_eq
abbrev ng:=@PySem.codeAny_mono
abbrev nh:=@PySem.wpAny_call_entry
abbrev ni:=@PySem.Heap.get?_update_self
abbrev ny:=@List.lookup_cons
abbrev nA:=@decide_eq_decide
abbrev nB:=@Bool.not_eq_true
abbrev nE:=@List.append_assoc
abbrev nF:=@List.flatMap_append
abbrev nG:=@List.flatMap_cons
abbrev pJ:=@List.mem_range
abbrev pK:=@Nat.le_of_lt
abbrev pL:=@PySem.wpAny_Call_Name_kw
abbrev pM:=@List.getElem?_replicate
abbrev pN:=@PySem.wpAny_field
abbrev pO:=@Array.getElem?_toList
abbrev pP:=@List.map_nil
abbrev pQ:=@Bool.false_eq_true
abbrev pR:=@List.length_nil
abbrev pS:=@PySem.codeAny_builtin
abbrev pT:=@PySem.plainId_quiet
abbrev pU:=@Nat.zero_add
abbrev pV:=@PySem.Obj.data_mapFields
abbrev pW:=@Nat.lt_of_le_of_lt
abbrev pX:=@Nat.eq_of_testBit_eq
abbrev pY:=@List.filter_cons
abbrev pZ:=@decide_eq_true_iff
abbrev p_:=@Iff.rfl
abbrev qb:=@PySem.F.called_set
abbrev rB:=@PySem.wpAny_passesOwn
abbrev rC:=@PySem.wpAny_call
abbrev rD:=@Option.isSome_iff_exists
abbrev rE:=@List.length_replicate
abbrev rF:=@if_true
abbrev rG:=@List.any_cons
abbrev rH:=@Nat.lt_succ_of_lt
abbrev rJ:=@PySem.Around.under_plainId
abbrev rK:=@List.mem_singleton
abbrev rL:=@Nat.testBit_or
abbrev rM:=@List.cons.inj
abbrev rN:=@List.foldl_cons
abbrev rO:=@List.range_succ
abbrev rQ:=@List.filter_append
abbrev uM:=@PySem.wpAny_standAt
abbrev uN:=@Nat.lt_succ_self
abbrev uO:=@List.nodup_cons
abbrev uP:=@List.length_take
abbrev uQ:=@PySem.wpAny_callSpecial?_slot
abbrev uR:=@PySem.wpAny_typeOf
abbrev uS:=@PySem.call_meets
abbrev uT:=@Nat.lt_trans
abbrev uU:=@PySem.tupleKind_room_in1
abbrev uV:=@PySem.wpAny_rule
abbrev uW:=@PySem.wpAny_typeLookup_exc
abbrev uX:=@Nat.testBit_xor
abbrev uY:=@PySem.W.binds_K
abbrev uZ:=@List.nodup_append
abbrev u5:=@List.length_filter_le
abbrev u7:=@List.map_congr_left
abbrev u9:=@List.getElem?_of_mem
abbrev u_:=@List.countP_cons
abbrev vb:=@List.replicate_succ
abbrev vc:=@PySem.wpAny_setState_of
abbrev ve:=@PySem.wpAny_askSetting
abbrev y8:=@Bool.false_and
abbrev y9:=@PyProof.Rows.callWith_type1
abbrev y_:=@Int.toNat_natCast
abbrev za:=@List.length_drop
abbrev zb:=@List.nodup_nil
abbrev zc:=@Array.getElem?_eq_none
abbrev zd:=@PySem.F.slot_dict_keyiterator_next
abbrev ze:=@Array.getElem?_eq_some_iff
abbrev zf:=@Nat.le_add_right
abbrev zg:=@Nat.or_lt_two_pow
abbrev zh:=@Int.neg_neg
abbrev zi:=@List.foldl_append
abbrev zj:=@List.contains_iff_mem
abbrev zk:=@List.findIdx?_isSome
abbrev zl:=@List.getElem_mem
abbrev zm:=@Bool.or_eq_true
abbrev zo:=@List.mem_flatMap
abbrev FP:=@List.filterMap_cons
abbrev FQ:=@PySem.wpAny_execs_nil
abbrev FR:=@PySem.wpAny_pyIter_list
abbrev FT:=@Int.fdiv_eq_ediv_of_nonneg
abbrev FU:=@List.all_cons
abbrev FV:=@Bool.and_false
abbrev FW:=@List.range_succ_eq_map
abbrev FX:=@PySem.pushCells_keeps
abbrev FY:=@Nat.le_of_succ_le
abbrev FZ:=@PySem.wpAny_dictEntries
abbrev F0:=@PySem.wpAny_attempt
abbrev F1:=@PySem.wpAny_typeNameOfWhole_keyiter
abbrev F2:=@PySem.wpAny_typeNameOf_keyiter
abbrev F3:=@PySem.wpAny_fieldsOf
abbrev F4:=@PySem.Obj.isFreed_of_fields
abbrev F5:=@PySem.Heap.SameBut.update
abbrev F6:=@PySem.wpAny_isInstance
abbrev F7:=@Nat.mod_two_eq_zero_or_one
abbrev F8:=@Nat.le_of_lt_succ
abbrev F9:=@Int.tdiv_eq_ediv_of_nonneg
abbrev F_:=@Int.tmod_eq_emod_of_nonneg
abbrev Ga:=@Bool.true_and
abbrev Gb:=@Bool.and_true
abbrev Gc:=@List.all_eq_true
abbrev Gd:=@List.findIdx?_cons
abbrev Ge:=@List.getElem?_cons_succ
abbrev Gf:=@Option.mem_toList
abbrev Gg:=@List.findIdx?_eq_none_iff
abbrev Gh:=@List.map_id
abbrev Rt:=@List.getElem_inj
abbrev Ru:=@PySem.W.plainGet_of
abbrev Rv:=@List.of_mem_zip
abbrev Rw:=@List.take_sublist
abbrev Rx:=@PyProof.Rows.slot_tuple_getitem
abbrev Ry:=@List.cons_append
abbrev Rz:=@Option.isSome_map
abbrev RB:=@PySem.F.slot_list_getattribute
abbrev RC:=@PySem.Code.quiet_builtin
abbrev RD:=@PySem.wpAny_isSubtype_exc
abbrev RE:=@PySem.builtinLookup_eq_fast
abbrev RF:=@PySem.codeAny_call_builtin
abbrev RG:=@Nat.and_le_left
abbrev RH:=@List.take_of_length_le
abbrev RI:=@List.nil_append
abbrev RJ:=@List.findIdx?_append
abbrev RK:=@List.find?_eq_none
abbrev RL:=@Int.natCast_add
abbrev RM:=@List.getElem?_zipIdx
abbrev RN:=@List.mem_zipIdx_iff_getElem?
abbrev RO:=@List.getElem?_range
abbrev RP:=@List.mem_of_find?_eq_some
abbrev RQ:=@Nat.testBit_two_pow
abbrev RR:=@Nat.zero_testBit
abbrev RS:=@List.flatMap_singleton
abbrev RT:=@Nat.add_sub_cancel
abbrev RU:=@Array.toList_push
abbrev RV:=@List.pairwise_cons
abbrev RW:=@List.pairwise_lt_range
abbrev RX:=@PyProof.Rows.F.plain_set_update_loop
abbrev RY:=@PySem.wpAny_setEntries_of
abbrev ab5:=@List.eq_nil_of_length_eq_zero
abbrev ab6:=@List.eq_nil_iff_forall_not_mem
abbrev ab7:=@PyProof.Rows.F.entry_set_update_loop
namespace L2
open PySem PySem.Spec PyProof.Rows
abbrev Key:=Sum Int Str
def kU:Key->Value->Bool
 | .inl k,v=>Value.isInt k v
 | .inr x,v=>Value.isStrOf x v
def RZ(w:World):Key->Int
 | .inl k=>hashInt k
 | .inr x=>hashStr w x
theorem kX:∀{k:Key}{v:Value},kU k v=true->(∃i t,k=Sum.inl i/\v=Value.int i t)\/(∃x t,k=Sum.inr x/\v=Value.str x t)
 | .inl i,v,h=>by obtain⟨t,e⟩:=Value.isInt_shape (k:=i) (v:=v) h;exact .inl ⟨i,t,rfl,e⟩
 | .inr x,v,h=>by obtain⟨t,e⟩:=Value.isStrOf_shape (x:=x) (v:=v) h;exact .inr ⟨x,t,rfl,e⟩
theorem vf(i:Int)(t:Tok):kU (.inl i) (.int i t)=true:=by simp[kU,Value.isInt]
theorem R9(x:Str)(t:Tok):kU (.inr x) (.str x t)=true:=by simp[kU,Value.isStrOf]
theorem R_(a b:Int):decide ((Sum.inl a:Key)=Sum.inl b)=(a==b):=by
 by_cases e:a=b
 ·subst e;simp
 ·have h:¬(Sum.inl a:Key)=Sum.inl b:=λq=>e (Sum.inl.inj q)
  rw[a9 h];exact(m7.mpr e).symm
theorem Sa(a b:Str):decide ((Sum.inr a:Key)=Sum.inr b)=decide (a=b):=by
 by_cases e:a=b
 ·subst e;simp
 ·have h:¬(Sum.inr a:Key)=Sum.inr b:=λq=>e (Sum.inr.inj q)
  rw[a9 h,a9 e]
theorem Sb(a:Int)(b:Str):decide ((Sum.inl a:Key)=Sum.inr b)=false:=a9 (λq=>nomatch q)
theorem Sd(a:Str)(b:Int):decide ((Sum.inr a:Key)=Sum.inl b)=false:=a9 (λq=>nomatch q)
def bX(prog:Program)(w:World):PySem.KeyKind prog w Key where
 is:=kU
 hash:=RZ w
 inj:=λv a b ha hb=>by
  rcases kX ha with ⟨i,t,rfl,rfl⟩ |⟨x,t,rfl,rfl⟩
  ·rcases kX hb with ⟨j,u,rfl,e⟩ |⟨y,u,rfl,e⟩
   ·injection e with e1 _;rw[e1]
   ·exact nomatch e
  ·rcases kX hb with ⟨j,u,rfl,e⟩ |⟨y,u,rfl,e⟩
   ·exact nomatch e
   ·injection e with e1 _;rw[e1]
 byValue:=λk v h=>by rcases kX h with ⟨i,t,rfl,rfl⟩ |⟨x,t,rfl,rfl⟩<;>rfl
 pyHash:=λhv h=>by
  rcases kX hv with ⟨i,t,rfl,rfl⟩ |⟨x,t,rfl,rfl⟩
  ·exact wpAny_pyHash_int h
  ·exact wpAny_pyHash_str h
 eqBool:=λhu hv h=>by
  rcases kX hu with ⟨i,t,rfl,rfl⟩ |⟨x,t,rfl,rfl⟩
  ·rcases kX hv with ⟨j,u,rfl,rfl⟩ |⟨y,u,rfl,rfl⟩
   ·rw[R_]at h;exact wpAny_eqBool_int h
   ·rw[Sb]at h;exact SeqAt.EqAt.int_str i t y u _ _ _ _ h
  ·rcases kX hv with ⟨j,u,rfl,rfl⟩ |⟨y,u,rfl,rfl⟩
   ·rw[Sd]at h;exact SeqAt.EqAt.str_int x t j u _ _ _ _ h
   ·rw[Sa]at h;exact wpAny_eqBool_str h
 «strs»:=λk x t v h=>by
  rcases kX h with ⟨i,u,rfl,e⟩ |⟨y,u,rfl,e⟩
  ·exact nomatch e
  ·injection e with e1 _
   subst e1;cases v<;>rfl
theorem Se(prog:Program)(w:World)(i:Int)(t:Tok):(bX prog w).is (.inl i) (.int i t)=true:=vf i t
theorem Sf(prog:Program)(w:World)(x:Str)(t:Tok):(bX prog w).is (.inr x) (.str x t)=true:=R9 x t
inductive V where
 |au |bl (b:Bool) |int (i:Int) |str (x:Str) |gA (b:Array UInt8) |flt (b:UInt64) |ref (a:Addr) |ty (n:String)
 deriving DecidableEq
def RelV:V->Value->Prop
 | .au,u=>u=Value.none
 | .bl b,u=>u=Value.bool b
 | .int i,u=>∃t,u=Value.int i t
 | .str x,u=>∃t,u=Value.str x t
 | .gA b,u=>∃t,u=Value.bytes b t
 | .flt b,u=>∃t,u=Value.float b t
 | .ref a,u=>u=Value.ref a
 | .ty n,u=>u=Value.type n
abbrev Vals:List V->List Value->Prop:=Paired RelV
theorem Vals.length{xs:List V}{us:List Value}(r:Vals xs us):xs.length=us.length:=bC r
theorem Vals.get:∀{xs:List V}{us:List Value}{i:Nat}{x:V},Vals xs us->xs[i]? =some x->∃u,us[i]? =some u/\RelV x u
 |_,_,_,_,.nil,e=>by simp at e
 |_,_,0,_,.cons r _,e=>by simp at e;subst e;exact⟨_,rfl,r⟩
 |_,_,i+1,x,.cons _ t,e=>by obtain⟨u,h1,h2⟩:=Vals.get (i:=i) (x:=x) t (by simpa using e);exact⟨u,by simpa using h1,h2⟩
theorem Vals.set{x:V}{u:Value}(r:RelV x u):∀{xs:List V}{us:List Value}(i:Nat),Vals xs us->Vals (xs.set i x) (us.set i u)
 |_,_,_,.nil=>.nil
 |_,_,0,.cons _ t=>.cons r t
 |_,_,i+1,.cons q t=>.cons q (Vals.set r i t)
theorem Vals.append:∀{xs ys:List V}{us ws:List Value},Vals xs us->Vals ys ws->Vals (xs++ys) (us++ws)
 |_,_,_,_,.nil,s=>s
 |_,_,_,_,.cons r t,s=>.cons r (Vals.append t s)
theorem Vals.take:∀{xs:List V}{us:List Value}(n:Nat),Vals xs us->Vals (xs.take n) (us.take n)
 |_,_,0,_=>.nil
 |_,_,_+1,.nil=>.nil
 |_,_,n+1,.cons r t=>.cons r (Vals.take n t)
theorem Vals.drop:∀{xs:List V}{us:List Value}(n:Nat),Vals xs us->Vals (xs.drop n) (us.drop n)
 |_,_,0,r=>r
 |_,_,_+1,.nil=>.nil
 |_,_,n+1,.cons _ t=>Vals.drop n t
def ff:Option V->Option Value->Prop
 |some v,some u=>RelV v u
 |none,none=>True
 |_,_=>False
def KV{κ:Type}:List (κ×V)->List (κ×Value)->Prop:=Paired λ(p:κ×V)(q:κ×Value)=>p.1=q.1/\RelV p.2 q.2
def kV:Key->V
 | .inl i=>.int i
 | .inr x=>.str x
inductive HO where
 |lst (xs:List V)
 |tup (xs:List V)
 |dK (kvs:List (Key×V)) |dT (kvs:List (List Key×V))
 |set (S:Int->Bool) (n:Nat)
 |ins (C dx:Addr) (fs:List (Str×V))
 |own (x:Addr)
 |xd (fs:List (Str×V))
 |met (f x:Addr)
 |zp (lo hi:Int)
 |j9 (o:Obj) (u:HO)
 |nH (ps:Array Value)
 |ext (φ:Heap->Prop)
abbrev Hp:=Addr->Option HO
def upd(H:Hp)(a:Addr)(o:HO):Hp:=λb=>if b=a then some o else H b
theorem aw{H:Hp}{a:Addr}{o:HO}:upd H a o a=some o:=by unfold upd;rw[ai rfl]
theorem ay{H:Hp}{a b:Addr}{o:HO}(h:b≠a):upd H a o b=H b:=by unfold upd;rw[ah h]
theorem Gi{H:Hp}{a:Addr}{o u:HO}:upd (upd H a o) a u=upd H a u:=by funext b;unfold upd;split<;>rfl
theorem bp{H:Hp}{a b:Addr}{o u:HO}(h:H a=some o)(h':H b=some u)(d:o≠u):a≠b:=by intro e;subst e;rw[h]at h';exact d (cI h')
theorem aJ{H:Hp}{a b:Addr}{o:HO}(h:H a=some o)(h':H b=none):a≠b:=by intro e;subst e;rw[h]at h';cases h'
section
variable(P:Program)(w:World)
def ck(H:Hp)(h:Heap)(a:Addr):HO->Prop
 | .lst xs=>xs.length<=sizeLine/\∃(its:List Value)(n:Nat),Vals xs its/\h.get? a=some {cls:=.type "list",data:=.seq its.toArray n}
 | .tup xs=>xs.length<=sizeLine/\∃its:List Value,Vals xs its/\IsTup h a its.toArray
 | .dK kvs=>kvs.length<=sizeLine/\(a==sysModules)=false/\∃vs,KV kvs vs/\h.DictOf (bX P w) a vs
 | .dT kvs=>kvs.length<=sizeLine/\(a==sysModules)=false/\∃xs:List (List Key×Addr×Value),
   Paired (λ(p:List Key×V)(q:List Key×Addr×Value)=>p.1=q.1/\H q.2.1=some (.tup (p.1.map kV))/\RelV p.2 q.2.2) kvs xs/\
   ∃o es ep,h.get? a=some o/\o.ExactDict/\o.data=.dict es ep/\es.toList=xs.map (entryOfKey (tupleKind (bX P w)))/\(xs.map (·.1)).Nodup
 | .set S n=>h.SetOf (intKind P w) a S n
 | .ins C dx fs=>H dx=some (.own a)/\fs.length<=1000/\dx≠a/\h.get? a=some (instObj C dx)/\
   ∃mA,h.Ns1 dx mA/\(∀f,ff (fs.lookup f) (mA f))/\PySem.Within mA (fs.map (·.1))
 | .own _=>∃o,h.get? a=some o
 | .xd fs=>∃mA,h.Ns1 a mA/\∀f,ff (fs.lookup f) (mA f)
 | .zp lo hi=>∃t u v,h.get? a=some {cls:=.type "range",data:=.fields #[.int lo t,.int hi u,.int 1 v]}
 | .j9 o u=>h.get? a=some o/\ck H h a u
 | .nH ps=>h.get? a=some {cls:=.none,data:=.fields ps}
 | .met f x=>h.get? a=some (methodObj (.ref f) (.ref x))
 | .ext φ=>φ h/\(∃o,h.get? a=some o)/\∀h1 h2:Heap,φ h1->(∀o,h1.get? a=some o->h2.get? a=some o)->φ h2
def cw(H:Hp)(h:Heap):Prop:=∀a o,H a=some o->ck P w H h a o
end
section
variable{P:Program}{w:World}{H H':Hp}{h h':Heap}{a:Addr}{o:HO}
theorem ck.lt(x:ck P w H h a o):a<h.objs.size:=by
 cases o with
 |lst xs=>obtain⟨_,_,_,_,e⟩:=x;exact ba e
 |tup xs=>obtain⟨_,_,_,p⟩:=x;exact p.lt
 |dK kvs=>obtain⟨_,_,_,_,o,_,_,e,_⟩:=x;exact ba e
 |dT kvs=>obtain⟨_,_,_,_,o,_,_,e,_⟩:=x;exact ba e
 |set S n=>obtain⟨o,_,_,_,e,_⟩:=x;exact ba e
 |ins C dx fs=>obtain⟨_,_,_,e,_⟩:=x;exact ba e
 |own y=>obtain⟨_,e⟩:=x;exact ba e
 |xd fs=>obtain⟨_,⟨_,_,_,e,_⟩,_⟩:=x;exact ba e
 |zp lo hi=>obtain⟨_,_,_,e⟩:=x;exact ba e
 |j9 ob u=>obtain⟨e,_⟩:=x;exact ba e
 |nH ps=>exact ba (show h.get? a=some _ from x)
 |met f y=>exact ba (show h.get? a=some _ from x)
 |ext φ=>obtain⟨_,⟨_,e⟩,_⟩:=x;exact ba e
theorem Paired.c8{α β:Type}{F G:α->β->Prop}:∀{l₁:List α}{l₂:List β},Paired F l₁ l₂->(∀a b,F a b->G a b)->Paired G l₁ l₂
 |_,_,.nil,_=>.nil
 |_,_,.cons r t,f=>.cons (f _ _ r) (Paired.c8 t f)
theorem ck.stay(x:ck P w H h a o)(k:∀b u,(b=a\/H b=some (.own a))->h.get? b=some u->h'.get? b=some u) (ho:∀b,H b=some (.own a)->H' b=some (.own a))(ht:∀b xs,H b=some (.tup xs)->H' b=some (.tup xs)):ck P w H' h' a o:=by
 induction o with
 |lst xs=>obtain⟨z,its,n,r,e⟩:=x;exact⟨z,its,n,r,k _ _ (.inl rfl) e⟩
 |tup xs=>obtain⟨z,its,r,ob,e,c⟩:=x;exact⟨z,its,r,ob,k _ _ (.inl rfl) e,c⟩
 |dK kvs=>obtain⟨z,y,vs,r,ob,es,ep,e,c⟩:=x;exact⟨z,y,vs,r,ob,es,ep,k _ _ (.inl rfl) e,c⟩
 |dT kvs=>obtain⟨z,y,xs,r,ob,es,ep,e,c⟩:=x;exact⟨z,y,xs,Paired.c8 r λp q z=>⟨z.1,ht _ _ z.2.1,z.2.2⟩,ob,es,ep,k _ _ (.inl rfl) e,c⟩
 |set S n=>obtain⟨ob,es,ep,t,e,c⟩:=x;exact⟨ob,es,ep,t,k _ _ (.inl rfl) e,c⟩
 |ins C dx fs=>obtain⟨d,z,ne,e,mA,⟨od,es,ep,e2,c⟩,r⟩:=x;exact⟨ho _ d,z,ne,k _ _ (.inl rfl) e,mA,⟨od,es,ep,k _ _ (.inr d) e2,c⟩,r⟩
 |own y=>obtain⟨ob,e⟩:=x;exact⟨ob,k _ _ (.inl rfl) e⟩
 |xd fs=>obtain⟨mA,⟨od,es,ep,e,c⟩,r⟩:=x;exact⟨mA,⟨od,es,ep,k _ _ (.inl rfl) e,c⟩,r⟩
 |zp lo hi=>obtain⟨t,u,v,e⟩:=x;exact⟨t,u,v,k _ _ (.inl rfl) e⟩
 |j9 ob u ih=>obtain⟨e,q⟩:=x;exact⟨k _ _ (.inl rfl) e,ih q⟩
 |nH ps=>have e:h.get? a=some {cls:=.none,data:=.fields ps}:=x;show h'.get? a=some {cls:=.none,data:=.fields ps};exact k a _ (.inl rfl) e
 |met f y=>have e:h.get? a=some (methodObj (.ref f) (.ref y)):=x;show h'.get? a=some (methodObj (.ref f) (.ref y));exact k a _ (.inl rfl) e
 |ext φ=>obtain⟨p,⟨o,e⟩,st⟩:=x;exact⟨st _ _ p λo q=>k _ _ (.inl rfl) q,⟨o,k _ _ (.inl rfl) e⟩,st⟩
theorem cw.lt(x:cw P w H h)(e:H a=some o):a<h.objs.size:=(x a o e).lt
theorem cw.fresh(x:cw P w H h)(e:h.objs.size<=a):H a=none:=by
 cases q:H a with
 |none=>rfl
 |some u=>exact absurd (dM (x.lt q) e) (l8 _)
theorem cw.kept(x:cw P w H h)(k:∀b u,h.get? b=some u->h'.get? b=some u):cw P w H h':=λa o e=>(x a o e).stay (λb u _ q=>k b u q) (λ_ q=>q) λ_ _ q=>q
theorem cw.laid(x:cw P w H h)(k:∀b u,h.get? b=some u->h'.get? b=some u)(hp:h.objs.size<=a)(new:ck P w (upd H a o) h' a o):cw P w (upd H a o) h':=λb u e=>by
 have hn:=x.fresh hp;by_cases hb:b=a
 ·subst hb;rw[aw]at e;cases e;exact new
 ·rw[ay hb]at e;exact(x b u e).stay (λc v _ q=>k c v q) (λc q=>by rw[ay (aJ q hn)];exact q) λc xs q=>by rw[ay (aJ q hn)];exact q
end
def Rd(H:Hp)(a:Addr)(u:HO):Prop:=H a=some u\/∃o,H a=some (.j9 o u)
theorem Rd.ok{P:Program}{w:World}{H:Hp}{h:Heap}{a:Addr}{u:HO}(r:Rd H a u)(x:cw P w H h):ck P w H h a u:=by
 rcases r with r |⟨o,r⟩
 ·exact x a u r
 ·obtain⟨_,q⟩:=x a _ r;exact q
def rR:Option HO->Prop
 |some (.lst _)=>True
 |some (.dK _)=>True
 |some (.dT _)=>True
 |some (.set _ _)=>True
 |some (.ins _ _ _)=>True
 |some (.ext _)=>True
 |_=>False
section
variable{P:Program}{w:World}{H:Hp}{h h':Heap}{x e:Addr}{o':HO}
theorem cw.write(ok:cw P w H h)(mu:rR (H x))(he:e=x\/H e=some (.own x))(k:∀b u,b≠e->h.get? b=some u->h'.get? b=some u)(heo:∃u,h'.get? e=some u) (new:ck P w (upd H x o') h' x o'):cw P w (upd H x o') h':=λb u q=>by
 have nown:∀c y,H c=some (.own y)->c≠x:=λc y r z=>by subst z;rw[r]at mu;exact mu
 have ntup:∀c xs,H c=some (.tup xs)->c≠x:=λc xs r z=>by subst z;rw[r]at mu;exact mu
 by_cases hb:b=x
 ·subst hb;rw[aw]at q;cases q;exact new
 ·rw[ay hb]at q;by_cases hbe:b=e
  ·have q':H b=some (.own x):=by
    rcases he with z |z
    ·exact absurd (hbe.trans z) hb
    ·rw[hbe];exact z
   rw[q]at q';cases q';obtain⟨v,hv⟩:=heo;exact⟨v,by rw[hbe];exact hv⟩
  ·refine(ok b u q).stay (λc v hc r=>k c v ?_ r) (λc r=>by rw[ay (nown c b r)];exact r) λc xs r=>by rw[ay (ntup c xs r)];exact r
   rcases hc with rfl |hc
   ·exact hbe
   ·rintro rfl
    rcases he with z |z
    ·exact nown c b hc z
    ·rw[hc]at z;cases z;exact hb rfl
end
structure Un(fs ex:List Addr)(H H':Hp)(h h':Heap):Prop where
 keep:∀b o,h.get? b=some o->H b=none->b ∉ fs->b ∉ ex->h'.get? b=some o
 slot:∀b o,h.get? b=some o->H b=none->b∈fs->b ∉ ex->∃sl,h'.get? b=some {o with slots:=sl}
 free:∀b o,h.get? b=some o->H b=none->b ∉ ex->H' b=none
 there:∀b o,h.get? b=some o->b ∉ ex->∃o',h'.get? b=some o'
 tups:∀b xs,H b=some (.tup xs)->H' b=some (.tup xs)
 jf:∀b o u,H b=some (.j9 o u)->H' b=some (.j9 o u)
 jC:∀b ps,H b=some (.nH ps)->∃more,H' b=some (.nH (ps++more))
section
variable{fs fs' ex ex':List Addr}{H H1 H2:Hp}{h h1 h2 h':Heap}{a x e:Addr}{o:HO}
theorem Un.any(u:Un fs ex H H1 h h1){b:Addr}{ob:Obj}(q:h.get? b=some ob)(n:H b=none)(hx:b ∉ ex):∃sl,h1.get? b=some {ob with slots:=sl}:=by
 by_cases hb:b∈fs
 ·exact u.slot b ob q n hb hx
 ·exact⟨ob.slots,u.keep b ob q n hb hx⟩
theorem Un.kept(k:∀b u,h.get? b=some u->h'.get? b=some u):Un fs ex H H h h':=⟨λb ob q _ _ _=>k b ob q,λb ob q _ _ _=>⟨ob.slots,k b ob q⟩,λ_ _ _ n _=>n,λb ob q _=>⟨ob,k b ob q⟩,λ_ _ q=>q,λ_ _ _ q=>q,λ_ ps q=>⟨#[],by rw[q];simp⟩⟩
theorem Un.refl:Un fs ex H H h h:=Un.kept λ_ _ q=>q
theorem Un.laid(k:∀b u,h.get? b=some u->h'.get? b=some u)(hp:h.objs.size<=a)(hn:H a=none):Un fs ex H (upd H a o) h h' where
 keep:=λb u q _ _ _=>k b u q
 slot:=λb u q _ _ _=>⟨u.slots,k b u q⟩
 free:=λb u q n _=>by rw[ay (bT (dM (ba q) hp))];exact n
 there:=λb u q _=>⟨u,k b u q⟩
 tups:=λb xs q=>by rw[ay (aJ q hn)];exact q
 jf:=λb u xs q=>by rw[ay (aJ q hn)];exact q
 jC:=λb ps q=>⟨#[],by rw[ay (aJ q hn),q];simp⟩
theorem Un.write(mu:rR (H x))(he:e=x\/H e=some (.own x))(k:∀b u,b≠e->h.get? b=some u->h'.get? b=some u)(heo:∃u,h'.get? e=some u):Un fs ex H (upd H x o) h h':=by
 have hx:∀b,H b=none->b≠x:=λb n z=>by subst z;rw[n]at mu;exact mu
 have hb:∀b,H b=none->b≠e:=λb n z=>by
  subst z;rcases he with r |r
  ·exact hx b n r
  ·rw[n]at r;cases r
 have hm:∀b u,H b=some u->¬rR (some u)->b≠x:=λb u q nm z=>by subst z;rw[q]at mu;exact nm mu
 refine⟨λb u q n _ _=>k b u (hb b n) q,λb u q n _ _=>⟨u.slots,k b u (hb b n) q⟩,λb u q n _=>by rw[ay (hx b n)];exact n,λb u q _=>?_,λb xs q=>by rw[ay (hm b _ q λz=>z)];exact q,λb u xs q=>by rw[ay (hm b _ q λz=>z)];exact q,λb ps q=>⟨#[],by rw[ay (hm b _ q λz=>z),q];simp⟩⟩
 by_cases hbe:b=e
 ·subst hbe;exact heo
 ·exact⟨u,k b u hbe q⟩
end
def vg(h:Heap)(H:Hp):List Addr:=(List.range h.objs.size).filter λa=>(H a).isSome
def kY(h:Heap)(H:Hp):Heap:=PySem.W.hideAll h (vg h H)
theorem Sg(h:Heap)(H:Hp):(kY h H).objs.size=h.objs.size:=PySem.W.hideAll_size _ _
theorem Sh{h:Heap}{H:Hp}{b:Addr}{o:Obj}(e:h.get? b=some o)(n:H b=none):(kY h H).get? b=some o:=PySem.W.hideAll_get _ e λhm=>by have q:(H b).isSome=true:=(fb.mp hm).2;rw[n]at q;simp at q
theorem Si{h:Heap}{H:Hp}{b:Addr}{o:Obj}(e:(kY h H).get? b=some o):h.get? b=some o/\H b=none:=by
 have e':h.get? b=some o:=PySem.W.of_hideAll (vg h H) e;refine⟨e',?_⟩;cases q:H b with
 |none=>rfl
 |some x=>have hm:b∈vg h H:=fb.mpr ⟨pJ.mpr (ba e'),by simp[q]⟩;have z:(kY h H).get? b=none:=PySem.W.hideAll_none (vg h H) hm;rw[z]at e;cases e
structure Mod(K:ax)(mg:Str->Option Value)(base:Heap):Prop where
 j_:K.In base
 glob:base.Ns mainGlobals mg
 blt:∃mb,base.Ns builtinsNs mb/\∀x:Str,x≠ "__name__" ->mb x=bootBuiltins x
 nolimit:base.NoLimit
structure Cx where
 prog:Program
 w:World
 K:ax
 mg:Str->Option Value
 base:Heap
 A:Around
 N:List Str
 s₀:Shared
 H₀:Hp
 env:Env
 outer:List Env
 stack:List Env
 ex:List Addr
 fn:Str->Bool
 calm:Bool
 pn:List (Addr×Obj)
 xe:Value->Shared->Prop
def frs(l:List Env):List Addr:=l.filterMap (·.frame)
abbrev Cx.fs(X:Cx):List Addr:=frs X.outer
def qc(sc:Scope)(x:Str):Prop:=sc.names.lookup x=some .local\/sc.names.lookup x=some .cell\/sc.names.lookup x=some .free
def Loc(sc:Scope)(x:Str):Prop:=sc.names.lookup x=some .local\/sc.names.lookup x=some .cell
def Look(env:Env)(h:Heap)(m:Str->Option Value)(x:Str)(u:Value):Prop:=(env.kindOf x=some .local/\m x=some u)\/((env.kindOf x=some .cell\/env.kindOf x=some .free)/\∃c,env.cells.lookup x=some c/\h.IsCell c (some u))
structure Cx.Ok(X:Cx):Prop where
 mod:Mod X.K X.mg X.base
 kind:X.env.scope.kind=.function
 glob:X.env.globals=mainGlobals
 blt:X.env.builtins=builtinsNs
 above:X.s₀.heap.objs.size<=X.env.locals
 inj:∀x y c,X.env.cells.lookup x=some c->X.env.cells.lookup y=some c->x=y
 has:∀x,(X.env.kindOf x=some .cell\/X.env.kindOf x=some .free)->∃c,X.env.cells.lookup x=some c
 kZ:∀x c,X.fn x=true->X.env.cells.lookup x=some c->X.s₀.heap.objs.size<=c
 hd:X.calm=true->X.A.handled=none
 frames:X.A.frames=some X.stack
 stk:X.stack=X.outer\/(X.stack=X.env::X.outer/\X.env.frame=some X.env.locals)
 mh:∀b∈X.ex,b≠X.env.locals/\∀x c,X.env.cells.lookup x=some c->c≠b
 bs:∀b o,X.base.get? b=some o->X.s₀.heap.get? b=some o/\X.H₀ b=none
 iG:X.base.objs.size<=X.s₀.heap.objs.size
 k7:∀b o,X.base.get? b=some o->b ∉ X.ex
 k9:∀b∈X.ex,b ∉ X.fs
 fK:X.s₀.heap.FunFrames X.base X.outer
 jD:∀b∈X.fs,X.H₀ b=none
structure Inv(X:Cx)(pins:List (Addr×Obj))(σ:List (Option V))(H:Hp)(s:Shared):Prop where
 ok:X.Ok
 os:s.os=X.s₀.os
 bare:AllBare s.gens
 base:Un X.fs X.ex X.H₀ H X.s₀.heap s.heap
 loc:∃m,s.heap.Ns X.env.locals m/\∀(i:Nat)(x:Str)(v:V),X.N[i]? =some x->σ[i]? =some (some v)->qc X.env.scope x->∃u,RelV v u/\Look X.env s.heap m x u
 cell:∀x c,X.env.cells.lookup x=some c->∃v,s.heap.IsCell c v
 free:H X.env.locals=none
 fg:∀x c,X.env.cells.lookup x=some c->H c=none
 pin:∀p∈X.pn++pins,s.heap.get? p.1=some p.2/\H p.1=none/\p.1≠X.env.locals/\p.1 ∉ X.fs/\∀v,p.2.data≠ .cell v
 hok:cw X.prog X.w H s.heap
 len:σ.length=X.N.length
section
variable{X:Cx}{pins:List (Addr×Obj)}{σ:List (Option V)}{H H':Hp}{s:Shared}{h':Heap}
theorem Cx.Ok.Sj(ok:X.Ok){b:Addr}{o:Obj}(e:X.base.get? b=some o):b ∉ X.fs:=λhb=>by have:=(ok.fK.mem hb).1;rw[e]at this;cases this
theorem Inv.bs(I:Inv X pins σ H s):∀b o,X.base.get? b=some o->s.heap.get? b=some o/\H b=none:=λb o e=>⟨I.base.keep b o (I.ok.bs b o e).1 (I.ok.bs b o e).2 (I.ok.Sj e) (I.ok.k7 b o e),I.base.free b o (I.ok.bs b o e).1 (I.ok.bs b o e).2 (I.ok.k7 b o e)⟩
theorem Inv.bk(I:Inv X pins σ H s):∀b o,X.base.get? b=some o->s.heap.get? b=some o:=λb o e=>(I.bs b o e).1
theorem Inv.mod(I:Inv X pins σ H s):Mod X.K X.mg X.base:=I.ok.mod
theorem Inv.bR(I:Inv X pins σ H s):X.K.In s.heap:=I.ok.mod.j_.keeps I.bk
theorem Inv.lt(I:Inv X pins σ H s):X.env.locals<s.heap.objs.size:=let ⟨_,hn,_⟩:=I.loc;hn.lt
theorem Inv.sz(I:Inv X pins σ H s):X.s₀.heap.objs.size<=s.heap.objs.size:=bE I.ok.above (pK I.lt)
theorem Inv.Sk(I:Inv X pins σ H s){a:Addr}(h:s.heap.objs.size<=a):a ∉ X.fs:=λhb=>by obtain⟨_,o,ho,_⟩:=I.ok.fK.mem hb;exact absurd (dM (ba ho) (bE I.sz h)) (l8 _)
theorem Inv.mi(I:Inv X pins σ H s):∀x c,X.env.cells.lookup x=some c->c≠X.env.locals:=λx c e z=>by obtain⟨v,o,ho,hd⟩:=I.cell x c e;obtain⟨m,⟨o',es,ep,ho',hd',_⟩,_⟩:=I.loc;rw[z,ho']at ho;cases ho;rw[hd']at hd;cases hd
theorem Inv.fK(I:Inv X pins σ H s):s.heap.FunFrames X.base X.outer:=by
 have all:∀(l:List Env),(∀b∈frs l,b∈X.fs)->X.s₀.heap.FunFrames X.base l->s.heap.FunFrames X.base l:=by
  intro l
  induction l with
  |nil=>intro _ _;trivial
  |cons env r ih=>
   intro hs hl;obtain⟨hk,⟨L,o,hf,hn,ho,hd⟩,hr⟩:=hl;have hL:L∈X.fs:=hs L (by unfold frs;rw[FP,hf];exact dN);obtain⟨sl,e⟩:=I.base.slot L o ho (I.ok.jD L hL) hL λz=>I.ok.k9 L z hL
   exact⟨hk,⟨L,_,hf,hn,e,hd⟩,ih (λb hb=>hs b (by unfold frs;rw[FP,hf];exact bQ _ hb)) hr⟩
 exact all X.outer (λ_ hb=>hb) I.ok.fK
theorem Inv.stack(I:Inv X pins σ H s):s.heap.FunFrames X.base X.stack:=by
 rcases I.ok.stk with e |⟨e,hf⟩
 ·rw[e];exact I.fK
 ·rw[e];obtain⟨m,hn,_⟩:=I.loc;refine .cons (by rw[I.ok.kind];decide) hf hn ?_ I.fK;exact Heap.get?_none_of_le (bE I.ok.iG I.ok.above)
theorem Inv.rS(I:Inv X pins σ H s):∀b∈frs X.stack,b∈X.env.locals::X.fs:=λb hb=>by
 rcases I.ok.stk with e |⟨e,hf⟩
 ·rw[e]at hb;exact bQ _ hb
 ·rw[e]at hb;unfold frs at hb;rw[FP,hf]at hb;exact hb
theorem Inv.zq(I:Inv X pins σ H s):∀b∈frs X.stack,H b=none:=λb hb=>by
 rcases a6.mp (I.rS b hb)with e |hb
 ·rw[e];exact I.free
 ·obtain⟨_,o,ho,_⟩:=I.ok.fK.mem hb;exact I.base.free b o ho (I.ok.jD b hb) λz=>I.ok.k9 b z hb
theorem Inv.step{g':Array GenState}{t':Nat}{d':Drawn}{ch:List Addr}(I:Inv X pins σ H s) (hch:∀b∈ch,(b∈X.ex\/X.s₀.heap.objs.size<=b)/\b≠X.env.locals/\(∀x c,X.env.cells.lookup x=some c->c≠b)/\∀p∈X.pn++pins,p.1≠b) (keep:∀b o,b≠X.env.locals->b ∉ X.fs->b ∉ ch->s.heap.get? b=some o->H b=none->h'.get? b=some o) (slot:∀b o,b≠X.env.locals->b∈X.fs->b ∉ ch->s.heap.get? b=some o->H b=none->∃sl,h'.get? b=some {o with slots:=sl})(free:∀b o,b ∉ ch->s.heap.get? b=some o->H b=none->H' b=none) (there:∀b o,b ∉ ch->s.heap.get? b=some o->∃o',h'.get? b=some o') (tups:∀b xs,H b=some (.tup xs)->H' b=some (.tup xs))(jf:∀b o u,H b=some (.j9 o u)->H' b=some (.j9 o u))(jC:∀b ps,H b=some (.nH ps)->∃more,H' b=some (.nH (ps++more))) (ns:∀m,s.heap.Ns X.env.locals m->h'.Ns X.env.locals m)(hok:cw X.prog X.w H' h')(hg:AllBare g'):Inv X pins σ H' {s with heap:=h',gens:=g',drawn:=d',toks:=t'}:=by
 have neL:∀b o,X.s₀.heap.get? b=some o->b≠X.env.locals:=λb o e=>bT (dM (ba e) I.ok.above)
 have neC:∀b o,X.s₀.heap.get? b=some o->b ∉ X.ex->b ∉ ch:=λb o e hx hb=>by
  rcases(hch b hb).1 with z |z
  ·exact hx z
  ·exact absurd (dM (ba e) z) (l8 _)
 have cellK:∀x c,X.env.cells.lookup x=some c->∀v,s.heap.IsCell c v->h'.IsCell c v:=λx c e v ⟨o,ho,hd⟩=>by
  have rT:c ∉ ch:=λz=>(hch c z).2.2.1 x c e rfl
  by_cases hc:c∈X.fs
  ·obtain⟨sl,q⟩:=slot c o (I.mi x c e) hc rT ho (I.fg x c e);exact⟨_,q,hd⟩
  ·exact⟨o,keep c o (I.mi x c e) hc rT ho (I.fg x c e),hd⟩
 refine⟨I.ok,I.os,hg,⟨λb o e n hb hx=>?_,λb o e n hb hx=>?_,λb o e n hx=>?_,λb o e hx=>?_,λb xs e=>tups b xs (I.base.tups b xs e),λb o xs e=>jf b o xs (I.base.jf b o xs e),λb ps e=>?_⟩,?_,λx c e=>?_,?_,λx c e=>?_,λp hp=>?_,hok,I.len⟩
 ·exact keep b o (neL b o e) hb (neC b o e hx) (I.base.keep b o e n hb hx) (I.base.free b o e n hx)
 ·obtain⟨sl,e1⟩:=I.base.slot b o e n hb hx;obtain⟨sl',e2⟩:=slot b _ (neL b o e) hb (neC b o e hx) e1 (I.base.free b o e n hx);exact⟨sl',e2⟩
 ·obtain⟨o',e1⟩:=I.base.there b o e hx;exact free b o' (neC b o e hx) e1 (I.base.free b o e n hx)
 ·obtain⟨o',e1⟩:=I.base.there b o e hx;exact there b o' (neC b o e hx) e1
 ·obtain⟨m1,e1⟩:=I.base.jC b ps e;obtain⟨m2,e2⟩:=jC b _ e1;exact⟨m1++m2,by rw[e2,Array.append_assoc]⟩
 ·obtain⟨m,hn,hl⟩:=I.loc;refine⟨m,ns m hn,λi x v e1 e2 e3=>?_⟩;obtain⟨u,r,l⟩:=hl i x v e1 e2 e3;refine⟨u,r,?_⟩;rcases l with l |⟨k,c,e,z⟩
  ·exact .inl l
  ·exact .inr ⟨k,c,e,cellK x c e _ z⟩
 ·obtain⟨v,z⟩:=I.cell x c e;exact⟨v,cellK x c e v z⟩
 ·obtain⟨m,⟨o,_,_,ho,_⟩,_⟩:=I.loc;exact free _ o (λz=>(hch _ z).2.1 rfl) ho I.free
 ·obtain⟨v,o,ho,hd⟩:=I.cell x c e;exact free c o (λz=>(hch c z).2.2.1 x c e rfl) ho (I.fg x c e)
 ·obtain⟨e,n,ne,nf,d⟩:=I.pin p hp;have rT:p.1 ∉ ch:=λz=>(hch p.1 z).2.2.2 p hp rfl
  exact⟨keep p.1 p.2 ne nf rT e n,free p.1 p.2 rT e n,ne,nf,d⟩
theorem Inv.un{t':Nat}(I:Inv X pins σ H s)(u:Un X.fs [] H H' s.heap h')(hok:cw X.prog X.w H' h'):Inv X pins σ H' {s with heap:=h',toks:=t'}:=by obtain⟨m,⟨o,es,ep,ho,r⟩,_⟩:=id I.loc;obtain⟨sl,hL⟩:=u.any ho I.free (by simp);exact I.step (g':=s.gens) (d':=s.drawn) (ch:=[]) (λ_ z=>nomatch z) (λb o _ hb _ e n=>u.keep b o e n hb (by simp)) (λb o _ hb _ e n=>u.slot b o e n hb (by simp)) (λb o _ e n=>u.free b o e n (by simp)) (λb o _ e=>u.there b o e (by simp)) u.tups u.jf u.jC (λm' hm=>by obtain⟨o',es',zr,ho',r'⟩:=hm;rw[ho]at ho';cases ho';exact⟨_,es',zr,hL,r'⟩) hok I.bare
theorem Inv.call{g':Array GenState}{t':Nat}{d':Drawn}{ch:List Addr}(I:Inv X pins σ H s)(u:Un (frs X.stack) ch H H' s.heap h')(hok:cw X.prog X.w H' h')(hg:AllBare g') (hch:∀b∈ch,(b∈X.ex\/X.s₀.heap.objs.size<=b)/\b≠X.env.locals/\(∀x c,X.env.cells.lookup x=some c->c≠b)/\∀p∈X.pn++pins,p.1≠b):Inv X pins σ H' {s with heap:=h',gens:=g',drawn:=d',toks:=t'}:=by
 obtain⟨m,⟨o,es,ep,ho,r⟩,_⟩:=id I.loc;obtain⟨sl,hL⟩:=u.any ho I.free λz=>(hch _ z).2.1 rfl
 exact I.step (ch:=ch) hch (λb o hL hb hc e n=>u.keep b o e n (λz=>(a6.mp (I.rS b z)).elim hL hb) hc) (λb o _ _ hc e n=>u.any e n hc) (λb o hc e n=>u.free b o e n hc) (λb o hc e=>u.there b o e hc) u.tups u.jf u.jC (λm' hm=>by obtain⟨o',es',zr,ho',r'⟩:=hm;rw[ho]at ho';cases ho';exact⟨_,es',zr,hL,r'⟩) hok hg
theorem Inv.turned{t':Nat}{it:Addr}(I:Inv X pins σ H s)(k:∀b o,b≠it->s.heap.get? b=some o->h'.get? b=some o)(hn:H it=none)(hL:it≠X.env.locals) (h1:it∈X.ex\/X.s₀.heap.objs.size<=it)(h2:∀x c,X.env.cells.lookup x=some c->c≠it)(h3:∀p∈X.pn++pins,p.1≠it):Inv X pins σ H {s with heap:=h',toks:=t'}:=by
 have mj:∀b u,H b=some u->b≠it:=λb u e z=>by rw[z,hn]at e;cases e
 refine I.step (g':=s.gens) (d':=s.drawn) (ch:=[it]) (λb hb=>?_) (λb o _ _ hc e _=>k b o (λz=>hc (by simp[z])) e) (λb o _ _ hc e _=>⟨o.slots,k b o (λz=>hc (by simp[z])) e⟩) (λ_ _ _ _ n=>n) (λb o hc e=>⟨o,k b o (λz=>hc (by simp[z])) e⟩) (λ_ _ e=>e) (λ_ _ _ e=>e) (λb ps e=>⟨#[],by rw[e];simp⟩) (λm hm=>?_) (λb u e=>?_) I.bare
 ·have e:b=it:=by simpa using hb
  subst e;exact⟨h1,hL,h2,h3⟩
 ·obtain⟨o,es,ep,ho,r⟩:=hm;exact⟨o,es,ep,k _ o (cu hL) ho,r⟩
 ·refine(I.hok b u e).stay (λc v hc q=>k c v ?_ q) (λ_ q=>q) λ_ _ q=>q
  rcases hc with z |z
  ·rw[z];exact mj b u e
  ·exact mj c _ z
theorem Inv.tok(I:Inv X pins σ H s)(t:Nat):Inv X pins σ H {s with toks:=t}:=I.un (h':=s.heap) (t':=t) Un.refl I.hok
theorem Inv.kept{t':Nat}(I:Inv X pins σ H s)(k:∀b u,s.heap.get? b=some u->h'.get? b=some u):Inv X pins σ H {s with heap:=h',toks:=t'}:=I.un (Un.kept k) (I.hok.kept k)
theorem Inv.laid{a:Addr}{o:HO}{t':Nat}(I:Inv X pins σ H s)(k:∀b u,s.heap.get? b=some u->h'.get? b=some u)(hp:s.heap.objs.size<=a)(new:ck X.prog X.w (upd H a o) h' a o):Inv X pins σ (upd H a o) {s with heap:=h',toks:=t'}:=I.un (Un.laid k hp (I.hok.fresh hp)) (I.hok.laid k hp new)
theorem Inv.write{x e:Addr}{o:HO}{t':Nat}(I:Inv X pins σ H s)(mu:rR (H x))(he:e=x\/H e=some (.own x))(k:∀b u,b≠e->s.heap.get? b=some u->h'.get? b=some u)(heo:∃u,h'.get? e=some u) (new:ck X.prog X.w (upd H x o) h' x o):Inv X pins σ (upd H x o) {s with heap:=h',toks:=t'}:=I.un (Un.write mu he k heo) (I.hok.write mu he k heo new)
theorem Inv.weak{σ':List (Option V)}(I:Inv X pins σ H s)(hl:σ'.length=σ.length)(w:∀(i:Nat) v,σ'[i]? =some (some v)->σ[i]? =some (some v)):Inv X pins σ' H s:=⟨I.ok,I.os,I.bare,I.base,let ⟨m,hn,hl'⟩:=I.loc;⟨m,hn,λi x v e1 e2 e3=>hl' i x v e1 (w i v e2) e3⟩,I.cell,I.free,I.fg,I.pin,I.hok,hl.trans I.len⟩
theorem Inv.zt{pins':List (Addr×Obj)}(I:Inv X pins σ H s)(h:∀p∈pins',s.heap.get? p.1=some p.2/\H p.1=none/\p.1≠X.env.locals/\p.1 ∉ X.fs/\∀v,p.2.data≠ .cell v):Inv X pins' σ H s:=⟨I.ok,I.os,I.bare,I.base,I.loc,I.cell,I.free,I.fg,λp hp=>(bN.mp hp).elim (λz=>I.pin p (fc _ z)) (h p),I.hok,I.len⟩
theorem zu{N:List Str}(hN:N.Nodup){i j:Nat}{x:Str}(a:N[i]? =some x)(b:N[j]? =some x):i=j:=by obtain⟨h1,e1⟩:=bW.mp a;obtain⟨h2,e2⟩:=bW.mp b;exact(Rt hN).mp (e1.trans e2.symm)
theorem Gj{M:Model}{A:Around}{E:Value->Shared->Prop}{i:Nat}{x:Str}{v:V}{u:Value}{Q:Unit->Shared->Prop}(I:Inv X pins σ H s)(hN:X.N.Nodup)(hi:X.N[i]? =some x)(hx:Loc X.env.scope x)(r:RelV v u) (h:∀s',Inv X pins (σ.set i (some v)) H s'->(∃a,Heap.SameBut a s.heap s'.heap/\(a=X.env.locals\/X.env.cells.lookup x=some a))->Q () s')(hf:X.fn x=true\/X.env.scope.names.lookup x=some .local:=by first |exact .inl rfl |exact .inr rfl |assumption):wpAny M A (storeName X.env x u) Q E s:=by
 obtain⟨m,hn,hl⟩:=id I.loc;have hcls:(X.env.scope.kind==.class||(X.env.scope.kind==.module&&X.env.locals !=X.env.globals))=false:=by rw[I.ok.kind];rfl
 have Gk:i<σ.length:=by rw[I.len];exact(bW.mp hi).1
 have mi:=I.mi;have tracked:∀{a:Addr}{h':Heap},(∃o,s.heap.get? a=some o/\H a=none)->Heap.SameBut a s.heap h'->cw X.prog X.w H h':=λ{a h'} ha hs b ob e=>by
  obtain⟨_,_,hfree⟩:=ha;refine(I.hok b ob e).stay (λc w' hc q=>(hs.2 c ?_).trans q) (λ_ q=>q) λ_ _ q=>q
  rintro rfl
  rcases hc with rfl |hc
  ·rw[hfree]at e;cases e
  ·rw[hfree]at hc;cases hc
 rcases hx with hk |hk
 ·refine wpAny_storeName_local hk hn (λh' hn' hs=>?_) hcls;obtain⟨oL,_,_,hoL,_⟩:=id hn;refine h _ ⟨I.ok,I.os,I.bare,⟨λb o e n hb hx=>?_,λb o e n hb hx=>?_,I.base.free,λb o e hx=>?_,I.base.tups,I.base.jf,I.base.jC⟩,⟨_,hn',λj y v' e1 e2 e3=>?_⟩,λy c e=>?_,I.free,I.fg,λp hp=>?_,tracked ⟨oL,hoL,I.free⟩ hs,by simpa using I.len⟩ ⟨_,hs,.inl rfl⟩
  ·exact(hs.2 b (bT (dM (ba e) I.ok.above))).trans (I.base.keep b o e n hb hx)
  ·obtain⟨sl,e1⟩:=I.base.slot b o e n hb hx;exact⟨sl,(hs.2 b (bT (dM (ba e) I.ok.above))).trans e1⟩
  ·obtain⟨o',e1⟩:=I.base.there b o e hx;exact⟨o',(hs.2 b (bT (dM (ba e) I.ok.above))).trans e1⟩
  ·by_cases hj:j=i
   ·subst hj;rw[hi]at e1;cases e1;rw[kR Gk]at e2;cases e2;exact⟨u,r,.inl ⟨hk,by simp⟩⟩
   ·rw[m8 (cu hj)]at e2;obtain⟨u',r',q⟩:=hl j y v' e1 e2 e3;refine⟨u',r',?_⟩;rcases q with ⟨k,e⟩ |⟨k,c,e,z⟩
    ·refine .inl ⟨k,?_⟩;have:y≠x:=λe=>hj (zu hN e1 (e▸hi))
     simp[this,e]
    ·exact .inr ⟨k,c,e,z.sameBut hs (mi y c e)⟩
  ·obtain⟨w',z⟩:=I.cell y c e;exact⟨w',z.sameBut hs (mi y c e)⟩
  ·obtain⟨e,n,ne,nf,d⟩:=I.pin p hp;exact⟨(hs.2 p.1 ne).trans e,n,ne,nf,d⟩
 ·have hfn:X.fn x=true:=by
   rcases hf with z |z
   ·exact z
   ·rw[z]at hk;cases hk
  obtain⟨c,hc⟩:=I.ok.has x (.inl hk);obtain⟨w',z⟩:=I.cell x c hc;refine wpAny_storeName_cell I.ok.kind hk hc z (λh' hc' hs=>?_);obtain⟨oc,hoc,Sl⟩:=id z;refine h {s with heap:=h'} ⟨I.ok,I.os,I.bare,⟨λb o e n hb hx=>?_,λb o e n hb hx=>?_,I.base.free,λb o e hx=>?_,I.base.tups,I.base.jf,I.base.jC⟩,⟨m,hn.sameBut hs (cu (mi x c hc)),λj y v' e1 e2 e3=>?_⟩,λy c' e=>?_,I.free,I.fg,λp hp=>?_,tracked ⟨oc,hoc,I.fg x c hc⟩ hs,by simpa using I.len⟩ ⟨c,hs,.inr hc⟩
  ·exact(hs.2 b (bT (dM (ba e) (I.ok.kZ x c hfn hc)))).trans (I.base.keep b o e n hb hx)
  ·obtain⟨sl,e1⟩:=I.base.slot b o e n hb hx;exact⟨sl,(hs.2 b (bT (dM (ba e) (I.ok.kZ x c hfn hc)))).trans e1⟩
  ·obtain⟨o',e1⟩:=I.base.there b o e hx;exact⟨o',(hs.2 b (bT (dM (ba e) (I.ok.kZ x c hfn hc)))).trans e1⟩
  ·by_cases hj:j=i
   ·subst hj;rw[hi]at e1;cases e1;rw[kR Gk]at e2;cases e2;exact⟨u,r,.inr ⟨.inl hk,c,hc,hc'⟩⟩
   ·rw[m8 (cu hj)]at e2;obtain⟨u',r',q⟩:=hl j y v' e1 e2 e3;refine⟨u',r',?_⟩;rcases q with q |⟨k,c',e,z'⟩
    ·exact .inl q
    ·refine .inr ⟨k,c',e,z'.sameBut hs ?_⟩
     rintro rfl
     exact hj (zu hN e1 (I.ok.inj _ _ _ e hc▸hi))
  ·by_cases hcc:c'=c
   ·subst hcc;exact⟨_,hc'⟩
   ·obtain⟨w2,z2⟩:=I.cell y c' e;exact⟨w2,z2.sameBut hs hcc⟩
  ·obtain⟨e,n,ne,nf,d⟩:=I.pin p hp;refine⟨(hs.2 p.1 ?_).trans e,n,ne,nf,d⟩;intro q;rw[q,hoc]at e;have q':oc=p.2:=cI e;exact d w' (by rw[<-q'];exact Sl)
theorem zv{M:Model}{A:Around}{E:Value->Shared->Prop}{i:Nat}{x:Str}{v:V}{u:Value}{Q:Unit->Shared->Prop}(I:Inv X pins σ H s)(hN:X.N.Nodup)(hi:X.N[i]? =some x)(hx:Loc X.env.scope x)(r:RelV v u) (h:∀s',Inv X pins (σ.set i (some v)) H s'->Q () s')(hf:X.fn x=true\/X.env.scope.names.lookup x=some .local:=by first |exact .inl rfl |exact .inr rfl |assumption):wpAny M A (storeName X.env x u) Q E s:=Gj I hN hi hx r (λs' I' _=>h s' I') hf
theorem Inv.zw{s':Shared}{ch:List Addr}(I:Inv X pins σ H s)(ho:s'.os=s.os)(u:Un (frs X.stack) ch H H' s.heap s'.heap)(hok:cw X.prog X.w H' s'.heap)(hg:AllBare s'.gens) (hch:∀b∈ch,(b∈X.ex\/X.s₀.heap.objs.size<=b)/\b≠X.env.locals/\(∀x c,X.env.cells.lookup x=some c->c≠b)/\∀p∈X.pn++pins,p.1≠b):Inv X pins σ H' s':=by
 obtain⟨h',g',d',t',o'⟩:=s';have e:o'=s.os:=ho;subst e;exact I.call (g':=g') (t':=t') (d':=d') u hok hg hch
end
abbrev XK:=Value->Option Addr->Hp->Prop
abbrev St:=List (Option V)
abbrev VK:=V->Hp->Prop
abbrev TE:=St->Hp->VK->Prop
abbrev TT:=St->Hp->(Bool->Hp->Prop)->Prop
abbrev TA:=St->Hp->(List V->Hp->Prop)->Prop
structure Ends where
 nx:St->Hp->Prop
 rt:VK
 bk:St->Hp->Prop:=λ_ _=>False
 ct:St->Hp->Prop:=λ_ _=>False
abbrev TS:=Ends->St->Hp->Prop
def EP(X:Cx)(pins:List (Addr×Obj))(σ:St)(Q:VK)(u:Value)(s':Shared):Prop:=∃v H',Inv X pins σ H' s'/\RelV v u/\Q v H'
def TP(X:Cx)(pins:List (Addr×Obj))(σ:St)(Q:Bool->Hp->Prop)(b:Bool)(s':Shared):Prop:=∃H',Inv X pins σ H' s'/\Q b H'
def AP(X:Cx)(pins:List (Addr×Obj))(σ:St)(Q:List V->Hp->Prop)(us:List Value)(s':Shared):Prop:=∃vs H',Inv X pins σ H' s'/\Vals vs us/\Q vs H'
def SP(X:Cx)(pins:List (Addr×Obj))(D:Ends)(f:Flow)(s':Shared):Prop:=match f with
 | .next=>∃σ' H',Inv X pins σ' H' s'/\D.nx σ' H'
 | .brk=>∃σ' H',Inv X pins σ' H' s'/\D.bk σ' H'
 | .cont=>∃σ' H',Inv X pins σ' H' s'/\D.ct σ' H'
 | .ret u=>∃v σ' H',Inv X pins σ' H' s'/\RelV v u/\D.rt v H'
def PE(X:Cx)(e:Expr)(t:TE):Prop:=∀(pins:List (Addr×Obj))(s:Shared)(σ:St)(H:Hp)(Q:VK),Inv X pins σ H s->t σ H Q->wpAny (model X.prog X.w) X.A (eval e X.env) (EP X pins σ Q) X.xe s
def PT(X:Cx)(e:Expr)(t:TT):Prop:=∀(pins:List (Addr×Obj))(s:Shared)(σ:St)(H:Hp)(Q:Bool->Hp->Prop),Inv X pins σ H s->t σ H Q->wpAny (model X.prog X.w) X.A (isTrue e X.env (eval e X.env)) (TP X pins σ Q) X.xe s
def PW(X:Cx)(e:Expr)(t:TT):Prop:=∀(whole:Sem Value)(pins:List (Addr×Obj))(s:Shared)(σ:St)(H:Hp)(Q:Bool->Hp->Prop),Inv X pins σ H s->t σ H Q->wpAny (model X.prog X.w) X.A (isTrue e X.env whole) (TP X pins σ Q) X.xe s
theorem PW.pt{X:Cx}{e:Expr}{t:TT}(h:PW X e t):PT X e t:=h _
def PA(X:Cx)(es:List Expr)(t:TA):Prop:=∀(pos:Pos)(pins:List (Addr×Obj))(s:Shared)(σ:St)(H:Hp)(Q:List V->Hp->Prop),Inv X pins σ H s->t σ H Q->wpAny (model X.prog X.w) X.A (spliced (backTo pos (starEach es X.env))) (AP X pins σ Q) X.xe s
def PS(X:Cx)(st:Stmt)(t:TS):Prop:=∀(pins:List (Addr×Obj))(s:Shared)(σ:St)(H:Hp)(D:Ends),Inv X pins σ H s->t D σ H->wpAny (model X.prog X.w) X.A (exec st X.env) (SP X pins D) X.xe s
def eA(X:Cx)(st:List Stmt)(t:TS):Prop:=∀(pins:List (Addr×Obj))(s:Shared)(σ:St)(H:Hp)(D:Ends),Inv X pins σ H s->t D σ H->wpAny (model X.prog X.w) X.A (execs st X.env) (SP X pins D) X.xe s
theorem aF{α:Type}{t:Sem α}{Q Q':α->Shared->Prop}{M:Model}{A:Around}{E:Value->Shared->Prop}{s:Shared}(h:wpAny M A t Q E s)(hQ:∀a s,Q a s->Q' a s):wpAny M A t Q' E s:=dq h hQ λ_ _ x=>x
section
variable{X:Cx}
inductive dS(i:Nat)(σ:St)(H:Hp)(Q:VK):Prop
 |mk v:σ[i]? =some (some v)->Q v H->dS i σ H Q
def tC(v:V):TE:=λ_ H Q=>Q v H
theorem Gm{i:Nat}{x:Str}{pos:Pos}(hN:X.N[i]? =some x)(hv:qc X.env.scope x)(hd:(x==("__debug__" :Str))=false:=by decide)(hcd:(x==("__classdict__" :Str))=false:=by decide):PE X (.Name x pos) (dS i):=by
 intro pins s σ H Q I h;obtain⟨v,e,h⟩:=h;obtain⟨m,hn,hl⟩:=I.loc;obtain⟨u,r,l⟩:=hl i x v hN e hv;have fin:EP X pins σ Q u s:=⟨v,H,I,r,h⟩;rcases l with ⟨hk,hm⟩ |⟨hk,c,hc,hcell⟩
 ·exact wpAny_Name (wpAny_loadName_local I.ok.kind hk hn hm fin) hd
 ·rcases hk with hk |hk
  ·exact wpAny_Name (wpAny_loadName_cell I.ok.kind hk hc hcell fin) hd
  ·exact wpAny_Name (wpAny_loadName_free I.ok.kind hk hc hcell fin hcd) hd
theorem aL{i j pos}:PE X (.Constant (.int i) j pos) (tC (.int i)):=λ_ _ _ H _ I h=>wpAny_Constant_int ⟨.int i,H,I.tok _,⟨_,rfl⟩,h⟩
theorem ml{b j pos}:PE X (.Constant (.bool b) j pos) (tC (.bl b)):=λ_ _ _ H _ I h=>Constant_bool ⟨.bl b,H,I,rfl,h⟩
theorem fh{j pos}:PE X (.Constant .none j pos) (tC .au):=λ_ _ _ H _ I h=>Constant_none ⟨.au,H,I,rfl,h⟩
theorem bJ{x j pos}:PE X (.Constant (.str x) j pos) (tC (.str x)):=λ_ _ _ H _ I h=>Calls.Constant_str ⟨.str x,H,I.tok _,⟨_,rfl⟩,h⟩
def Gl(X:Cx)(x:Str):Prop:=X.env.kindOf x=some .globalImplicit
theorem nJ{E:Value->Shared->Prop}{pins:List (Addr×Obj)}{s:Shared}{σ:St}{H:Hp}{x:Str}{u:Value}{pos:Pos}{Q:Value->Shared->Prop}(I:Inv X pins σ H s)(hg:Gl X x)(hm:X.mg x=some u)(h:Q u s) (hd:(x==("__debug__" :Str))=false:=by decide):wpAny (model X.prog X.w) X.A (eval (.Name x pos) X.env) Q E s:=Calls.Name_function_global I.ok.kind hg (Calls.loadGlobal_global (by rw[I.ok.glob];exact I.mod.glob.keeps I.bk) hm h) hd
theorem qd{E:Value->Shared->Prop}{pins:List (Addr×Obj)}{s:Shared}{σ:St}{H:Hp}{x:Str}{u:Value}{pos:Pos}{Q:Value->Shared->Prop}(I:Inv X pins σ H s)(hg:Gl X x)(hm:X.mg x=none)(hv:bootBuiltins x=some u)(h:Q u s) (hn:x≠ "__name__":=by decide)(hd:(x==("__debug__" :Str))=false:=by decide):wpAny (model X.prog X.w) X.A (eval (.Name x pos) X.env) Q E s:=by
 obtain⟨mb,h1,h2⟩:=I.mod.blt;exact Calls.Name_function_global I.ok.kind hg (Calls.loadGlobal_builtin (by rw[I.ok.glob];exact I.mod.glob.keeps I.bk) hm (by rw[I.ok.blt];exact h1.keeps I.bk) ((h2 x hn).trans hv) h) hd
theorem iH{x:Str}{v:V}{u:Value}{pos:Pos}(hg:Gl X x)(hm:X.mg x=some u)(r:RelV v u)(hd:(x==("__debug__" :Str))=false:=by decide):PE X (.Name x pos) (tC v):=λ_ _ _ H _ I h=>nJ I hg hm ⟨v,H,I,r,h⟩ hd
variable{a b:Expr}{ta tb:TE}{pos:Pos}
def PC(X:Cx)(op:CmpOp)(a b:Expr)(t:TE):Prop:=∀(pins:List (Addr×Obj))(s:Shared)(σ:St)(H:Hp)(Q:VK),Inv X pins σ H s->t σ H Q->wpAny (model X.prog X.w) X.A (eval a X.env) (λv s₁=>wpAny (model X.prog X.w) X.A (eval b X.env) (λu s₂=>wpAny (model X.prog X.w) X.A (compareOp op v u) (EP X pins σ Q) X.xe s₂) X.xe s₁) X.xe s
theorem Gn(b:Expr){op:CmpOp}(h:op≠ .In)(h2:op≠ .NotIn):behindInMarks op b=false:=by
 have e1:(op==CmpOp.In)=false:=by cases op<;>first |rfl |exact absurd rfl h
 have e2:(op==CmpOp.NotIn)=false:=by cases op<;>first |rfl |exact absurd rfl h2
 cases b<;>simp[behindInMarks,e1,e2]
def Sm(ta:TE):TE:=λσ H Q=>ta σ H λx H1=>Q (.bl (decide (x=.au))) H1
def Gp(ta:TE):TE:=λσ H Q=>ta σ H λx H1=>Q (.bl (!decide (x=.au))) H1
theorem RelV.Gq{x:V}{v:Value}(r:RelV x v):(v==Value.none)=decide (x=.au):=by
 cases x with
 |au=>cases r;rfl
 |bl _=>cases r;rfl
 |int _=>obtain⟨t,rfl⟩:=r;rfl
 |str _=>obtain⟨t,rfl⟩:=r;rfl
 |gA _=>obtain⟨t,rfl⟩:=r;rfl
 |flt _=>obtain⟨t,rfl⟩:=r;rfl
 |ref _=>cases r;rfl
 |ty _=>cases r;rfl
theorem iI{j pos'}(ha:PE X a ta):PC X .Is a (.Constant .none j pos') (Sm ta):=by
 intro pins s σ H Q I h;refine aF (ha pins s σ H _ I h) λv s1 ⟨x,H1,I1,r1,q1⟩=>?_
 exact Constant_none (is_none_gen ⟨.bl _,H1,I1,by rw[r1.Gq];rfl,q1⟩)
theorem mm{j pos'}(ha:PE X a ta):PC X .IsNot a (.Constant .none j pos') (Gp ta):=by
 intro pins s σ H Q I h;refine aF (ha pins s σ H _ I h) λv s1 ⟨x,H1,I1,r1,q1⟩=>?_
 exact Constant_none (isnot_none_gen ⟨.bl _,H1,I1,by rw[r1.Gq];rfl,q1⟩)
inductive Gr(Q:(Bool->Hp->Prop))(x:V)(H1:Hp):Prop
 |mk c:x=.bl c->Q c H1->Gr Q x H1
def tB(t:TE):TT:=λσ H Q=>t σ H λx H1=>Gr Q x H1
theorem Sn{op:CmpOp}{t:TE}(h:PC X op a b t)(h1:behindInMarks op b=false:=by first |exact Gn _ (by decide) (by decide) |rfl):PE X (.Compare a [op] [b] pos) t:=λpins s σ H Q I hw=>wpAny_Compare1 (h pins s σ H Q I hw) h1
theorem cR{op:CmpOp}{t:TE}(h:PC X op a b t)(h1:behindInMarks op b=false:=by first |exact Gn _ (by decide) (by decide) |rfl):PT X (.Compare a [op] [b] pos) (tB t):=by intro pins s σ H Q I hw;refine wpAny_isTrue_Compare1 (aF (h pins s σ H _ I hw) λv s1 h1=>aF h1 λu s2 h2=>aF h2 λc s3 ⟨x,H1,I1,r1,q1⟩=>?_) h1;obtain⟨d,rfl,q⟩:=q1;cases r1;exact m9 ⟨H1,I1,q⟩
theorem jE{e:Expr}{t:TE}(h:PE X e t)(he:∀whole,isTrue e X.env whole=(do let v<-whole;standAt e.pos;holding [v] (truthy v)):=by intro _;rfl):PT X e (tB t):=by intro pins s σ H Q I hw;refine isTrue_plain (aF (h pins s σ H _ I hw) λv s1 ⟨x,H1,I1,r1,q1⟩=>?_) (he _);obtain⟨d,rfl,q⟩:=q1;cases r1;exact m9 ⟨H1,I1,q⟩
variable{tA vh:TT}{rest:List Expr}
def zx(t u:TT):TT:=λσ H Q=>t σ H λc H1=>if c=true then u σ H1 Q else Q false H1
def So(t u:TT):TT:=λσ H Q=>t σ H λc H1=>if c=true then Q true H1 else u σ H1 Q
def Sq(t:TT):TT:=λσ H Q=>t σ H λc H1=>Q (!c) H1
theorem jF(ha:PT X a tA):PW X (.BoolOp .And [a] pos) tA:=by
 intro wh pins s σ H Q I h;refine isTrue_and (aF (ha pins s σ H Q I h) λc s1 e=>?_);cases c with
 |true=>exact isTrue_and_nil e
 |false=>exact e
theorem k_(ha:PT X a tA):PW X (.BoolOp .Or [a] pos) tA:=by
 intro wh pins s σ H Q I h;refine isTrue_or (aF (ha pins s σ H Q I h) λc s1 e=>?_);cases c with
 |false=>exact isTrue_or_nil e
 |true=>exact e
theorem jg(ha:PT X a tA)(hb:PW X (.BoolOp .And (b::rest) pos) vh):PW X (.BoolOp .And (a::b::rest) pos) (zx tA vh):=by
 intro wh pins s σ H Q I h;refine isTrue_and (aF (ha pins s σ H _ I h) λc s1 ⟨H1,I1,q1⟩=>?_);cases c with
 |true=>exact hb wh pins s1 σ H1 Q I1 q1
 |false=>exact⟨H1,I1,q1⟩
theorem lg(ha:PT X a tA)(hb:PW X (.BoolOp .Or (b::rest) pos) vh):PW X (.BoolOp .Or (a::b::rest) pos) (So tA vh):=by
 intro wh pins s σ H Q I h;refine isTrue_or (aF (ha pins s σ H _ I h) λc s1 ⟨H1,I1,q1⟩=>?_);cases c with
 |true=>exact⟨H1,I1,q1⟩
 |false=>exact hb wh pins s1 σ H1 Q I1 q1
theorem qe(ha:PT X a tA):PT X (.UnaryOp .Not a pos) (Sq tA):=by intro pins s σ H Q I h;exact isTrue_not (ha pins s σ H (λc H1=>Q (!c) H1) I h)
inductive Gs(tb:TE)(σ:St)(Q:VK)(x:V)(H1:Hp):Prop
 |mk c:x=.bl c->(if c=true then tb σ H1 Q else Q (.bl false) H1)->Gs tb σ Q x H1
def Sr(ta tb:TE):TE:=λσ H Q=>ta σ H λx H1=>Gs tb σ Q x H1
inductive Gu(tb:TE)(σ:St)(Q:VK)(x:V)(H1:Hp):Prop
 |mk c:x=.bl c->(if c=true then Q (.bl true) H1 else tb σ H1 Q)->Gu tb σ Q x H1
def Ss(ta tb:TE):TE:=λσ H Q=>ta σ H λx H1=>Gu tb σ Q x H1
theorem Gv{op}{t:TE}(h:PE X a t):PE X (.BoolOp op [a] pos) t:=λpins s σ H Q I hw=>BoolOp_one (h pins s σ H Q I hw)
theorem Su(ha:PE X a ta)(hb:PE X (.BoolOp .And (b::rest) pos) tb):PE X (.BoolOp .And (a::b::rest) pos) (Sr ta tb):=by
 intro pins s σ H Q I h;refine BoolOp_and (aF (ha pins s σ H _ I h) λv s1 ⟨x,H1,I1,r1,q1⟩=>?_);obtain⟨c,rfl,q1⟩:=q1;cases r1;refine m9 ?_;cases c with
 |true=>exact hb pins s1 σ H1 Q I1 q1
 |false=>exact⟨.bl false,H1,I1,rfl,q1⟩
theorem Gw(ha:PE X a ta)(hb:PE X (.BoolOp .Or (b::rest) pos) tb):PE X (.BoolOp .Or (a::b::rest) pos) (Ss ta tb):=by
 intro pins s σ H Q I h;refine BoolOp_or (aF (ha pins s σ H _ I h) λv s1 ⟨x,H1,I1,r1,q1⟩=>?_);obtain⟨c,rfl,q1⟩:=q1;cases r1;refine m9 ?_;cases c with
 |false=>exact hb pins s1 σ H1 Q I1 q1
 |true=>exact⟨.bl true,H1,I1,rfl,q1⟩
def zy(t:TT)(ta tb:TE):TE:=λσ H Q=>t σ H λc H1=>if c=true then ta σ H1 Q else tb σ H1 Q
theorem iJ{c:Expr}(hc:PT X c tA)(ha:PE X a ta)(hb:PE X b tb):PE X (.IfExp c a b pos) (zy tA ta tb):=by
 intro pins s σ H Q I h;refine wpAny_IfExp (aF (hc pins s σ H _ I h) λd s1 ⟨H1,I1,q1⟩=>?_);cases d with
 |true=>exact ha pins s1 σ H1 Q I1 q1
 |false=>exact hb pins s1 σ H1 Q I1 q1
end
def aj(K:ax)(H:Hp)(a:Addr)(xs:List V):Prop:=Rd H a (.lst xs)\/ ∃(o:Obj)(its:Array Value)(n:Nat),K.lookup a=some o/\o.cls=.type "list" /\o.dict=none/\o.data=.seq its n/\its.size<=sizeLine/\Vals xs its.toList
def a8(K:ax)(H:Hp)(a:Addr)(xs:List V):Prop:=Rd H a (.tup xs)\/ ∃(o:Obj)(its:Array Value)(n:Nat),K.lookup a=some o/\o.cls=.type "tuple" /\o.data=.seq its n/\its.size<=sizeLine/\Vals xs its.toList
def Sv:Value->Option V
 | .none=>some .au
 | .bool b=>some (.bl b)
 | .int i _=>some (.int i)
 | .str x _=>some (.str x)
 | .bytes b _=>some (.gA b)
 | .float b _=>some (.flt b)
 | .ref a=>some (.ref a)
 | .type n=>some (.ty n)
 |_=>none
theorem RelV.abs{x:V}{u:Value}(r:RelV x u):Sv u=some x:=by
 cases x with
 |au=>cases r;rfl
 |bl _=>cases r;rfl
 |int _=>obtain⟨t,rfl⟩:=r;rfl
 |str _=>obtain⟨t,rfl⟩:=r;rfl
 |gA _=>obtain⟨t,rfl⟩:=r;rfl
 |flt _=>obtain⟨t,rfl⟩:=r;rfl
 |ref _=>cases r;rfl
 |ty _=>cases r;rfl
theorem RelV.inj{x y:V}{u:Value}(r:RelV x u)(q:RelV y u):x=y:=cI (r.abs.symm.trans q.abs)
theorem Vals.inj:∀{xs ys:List V}{us:List Value},Vals xs us->Vals ys us->xs=ys
 |_,_,_,.nil,.nil=>rfl
 |_,_,_,.cons r t,.cons r' t'=>by rw[r.inj r',Vals.inj t t']
section
variable{X:Cx}{pins:List (Addr×Obj)}{σ:St}{H:Hp}{s:Shared}{a:Addr}{xs ys:List V}
theorem aj.of{K:ax}(h:H a=some (.lst xs)):aj K H a xs:=.inl (.inl h)
theorem a8.of{K:ax}(h:H a=some (.tup xs)):a8 K H a xs:=.inl (.inl h)
theorem Inv.list(I:Inv X pins σ H s)(h:aj X.K H a xs):∃its:List Value,Vals xs its/\PlainL s.heap a its.toArray/\xs.length<=sizeLine:=by
 rcases h with h |⟨o,its,n,hk,hc,hd,hs,hz,r⟩
 ·obtain⟨z,its,n,r,e⟩:=h.ok I.hok;exact⟨its,r,⟨_,n,e,rfl,rfl,rfl⟩,z⟩
 ·refine⟨its.toList,r,⟨o,n,I.bR a o hk,hc,hd,by simpa using hs⟩,?_⟩;have e:=r.length;simp only[gj]at e;omega
theorem Inv.tuple(I:Inv X pins σ H s)(h:a8 X.K H a xs):∃its:List Value,Vals xs its/\IsTup s.heap a its.toArray/\xs.length<=sizeLine:=by
 rcases h with h |⟨o,its,n,hk,hc,hs,hz,r⟩
 ·obtain⟨z,its,r,p⟩:=h.ok I.hok;exact⟨its,r,p,z⟩
 ·refine⟨its.toList,r,⟨o,I.bR a o hk,hc,n,by simpa using hs⟩,?_⟩;have e:=r.length;simp only[gj]at e;omega
theorem Inv.vj(I:Inv X pins σ H s)(h:aj X.K H a xs)(h':aj X.K H a ys):xs=ys:=by
 obtain⟨its,r,⟨o,n,e,_,_,d⟩,_⟩:=I.list h;obtain⟨its',r',⟨o',n',e',_,_,d'⟩,_⟩:=I.list h';rw[e]at e';cases e';rw[d]at d';injection d' with d1 _
 have:its=its':=by simpa using f7 Array.toList d1
 subst this;exact r.inj r'
theorem Inv.Sw(I:Inv X pins σ H s)(h:a8 X.K H a xs)(h':a8 X.K H a ys):xs=ys:=by
 obtain⟨its,r,⟨o,e,_,n,d⟩,_⟩:=I.tuple h;obtain⟨its',r',⟨o',e',_,n',d'⟩,_⟩:=I.tuple h';rw[e]at e';cases e';rw[d]at d';injection d' with d1 _
 have:its=its':=by simpa using f7 Array.toList d1
 subst this;exact r.inj r'
end
abbrev Cx.fi(X:Cx)(E:Value->Shared->Prop):Cx:= {X with xe:=E}
abbrev Cx.g9(X:Cx):Cx:=X.fi λ_ _=>False
theorem Cx.Ok.fi{X:Cx}(ok:X.Ok)(E:Value->Shared->Prop):(X.fi E).Ok:=⟨ok.mod,ok.kind,ok.glob,ok.blt,ok.above,ok.inj,ok.has,ok.kZ,ok.hd,ok.frames,ok.stk,ok.mh,ok.bs,ok.iG,ok.k7,ok.k9,ok.fK,ok.jD⟩
theorem Cx.Ok.iK{X:Cx}{E:Value->Shared->Prop}(ok:(X.fi E).Ok):X.Ok:=⟨ok.mod,ok.kind,ok.glob,ok.blt,ok.above,ok.inj,ok.has,ok.kZ,ok.hd,ok.frames,ok.stk,ok.mh,ok.bs,ok.iG,ok.k7,ok.k9,ok.fK,ok.jD⟩
section
variable{X:Cx}{pins:List (Addr×Obj)}{σ:St}{H:Hp}{s:Shared}{E:Value->Shared->Prop}
theorem Inv.fi(I:Inv X pins σ H s)(E:Value->Shared->Prop):Inv (X.fi E) pins σ H s:=⟨I.ok.fi E,I.os,I.bare,I.base,I.loc,I.cell,I.free,I.fg,I.pin,I.hok,I.len⟩
theorem Inv.iK(I:Inv (X.fi E) pins σ H s):Inv X pins σ H s:=⟨I.ok.iK,I.os,I.bare,I.base,I.loc,I.cell,I.free,I.fg,I.pin,I.hok,I.len⟩
theorem SP.iK{D:Ends}{f:Flow}{s':Shared}(h:SP (X.fi E) pins D f s'):SP X pins D f s':=by
 cases f with
 |next=>obtain⟨σ',H',I,q⟩:=h;exact⟨σ',H',I.iK,q⟩
 |brk=>obtain⟨σ',H',I,q⟩:=h;exact⟨σ',H',I.iK,q⟩
 |cont=>obtain⟨σ',H',I,q⟩:=h;exact⟨σ',H',I.iK,q⟩
 |ret u=>obtain⟨v,σ',H',I,r,q⟩:=h;exact⟨v,σ',H',I.iK,r,q⟩
theorem eA.g9{st:List Stmt}{t:TS}(h:eA X.g9 st t):eA X st t:=λpins s σ H D I hw=>dq (h pins s σ H D (I.fi _) hw) (λ_ _ q=>q.iK) λ_ _ z=>False.elim z
end
section
variable{X:Cx}{st:Stmt}{rest:List Stmt}{t u:TS}{e:Expr}{te:TE}{pos:Pos}
def vk:TS:=λD σ H=>D.nx σ H
def Gx(t u:TS):TS:=λD σ H=>t {D with nx:=u D} σ H
theorem aW:eA X [] vk:=λ_ _ σ H _ I h=>FQ ⟨σ,H,I,h⟩
theorem aq(h1:PS X st t)(h2:eA X rest u):eA X (st::rest) (Gx t u):=by
 intro pins s σ H D I h;refine wpAny_execs_cons (aF (h1 pins s σ H {D with nx:=u D} I h) λf s1 q=>?_);cases f with
 |next=>obtain⟨σ',H',I',q⟩:=q;exact h2 pins s1 σ' H' D I' q
 |ret v=>exact q
 |brk=>exact q
 |cont=>exact q
theorem ak(h1:PS X st t):eA X [st] t:=by
 intro pins s σ H D I h;refine wpAny_execs_cons (aF (h1 pins s σ H D I h) λf s1 q=>?_);cases f with
 |next=>exact FQ q
 |ret v=>exact q
 |brk=>exact q
 |cont=>exact q
def Sx:TS:=λD σ H=>D.ct σ H
theorem zz:PS X (.Continue pos) Sx:=λ_ _ σ H _ I h=>wpAny_Continue ⟨σ,H,I,h⟩
theorem Inv.quiet{pins:List (Addr×Obj)}{σ:St}{H:Hp}{s:Shared}(I:Inv X pins σ H s):interactive X.env=false:=by simp[interactive,I.ok.kind]
def Sy(te:TE):TS:=λD σ H=>te σ H λ_ H1=>D.nx σ H1
theorem fk(he:PE X e te)(hs:swapsWith e none pos.line X.env=pure false:=by rfl):PS X (.Expr e pos) (Sy te):=by intro pins s σ H D I h;exact wpAny_Expr_any (aF (he pins s σ H _ I h) λv s1 ⟨x,H1,I1,r1,q1⟩=>⟨σ,H1,I1,q1⟩) I.quiet hs
def Gy(te:TE):TS:=λD σ H=>te σ H D.rt
theorem aB(he:PE X e te):PS X (.Return (some e) pos) (Gy te):=by intro pins s σ H D I h;exact wpAny_Return_some (aF (he pins s σ H _ I h) λv s1 ⟨x,H1,I1,r1,q1⟩=>⟨x,σ,H1,I1,r1,q1⟩)
def Sz:TS:=λD _ H=>D.rt .au H
theorem SA:PS X (.Return none pos) Sz:=λ_ _ σ H _ I h=>wpAny_Return_none ⟨.au,σ,H,I,rfl,h⟩
def Gz(c:TT)(t u:TS):TS:=λD σ H=>c σ H λb H1=>if b=true then t D σ H1 else u D σ H1
theorem aU{c:Expr}{a b:List Stmt}{tc:TT}(hc:PT X c tc)(ha:eA X a t)(hb:eA X b u):PS X (.If c a b pos) (Gz tc t u):=by
 intro pins s σ H D I h;refine wpAny_If (aF (hc pins s σ H _ I h) λd s1 ⟨H1,I1,q1⟩=>?_);cases d with
 |true=>exact ha pins s1 σ H1 D I1 q1
 |false=>exact hb pins s1 σ H1 D I1 q1
end
abbrev TG:=V->St->Hp->(St->Hp->Prop)->Prop
abbrev qf:=List V->St->Hp->(St->Hp->Prop)->Prop
def PG(X:Cx)(target:Expr)(t:TG):Prop:=∀(pins:List (Addr×Obj))(s:Shared)(σ:St)(H:Hp)(v:V)(u:Value)(Q:St->Hp->Prop),Inv X pins σ H s->RelV v u->t v σ H Q->wpAny (model X.prog X.w) X.A (assign target X.env u) (λ_ s'=>∃σ' H',Inv X pins σ' H' s'/\Q σ' H') X.xe s
def vm(X:Cx)(ts:List Expr)(t:qf):Prop:=∀(pins:List (Addr×Obj))(s:Shared)(σ:St)(H:Hp)(vs:List V)(us:List Value)(Q:St->Hp->Prop),Inv X pins σ H s->Vals vs us->t vs σ H Q->wpAny (model X.prog X.w) X.A (assignInOrder ((assignEach ts X.env).map (·.2)) us) (λ_ s'=>∃σ' H',Inv X pins σ' H' s'/\Q σ' H') X.xe s
abbrev zA:=V->V->V->Hp->(Hp->Prop)->Prop
def GA(X:Cx)(t:zA):Prop:=∀(pins:List (Addr×Obj))(s:Shared)(σ:St)(H:Hp)(o i v:V)(ov iv u:Value)(Q:Hp->Prop),Inv X pins σ H s->RelV o ov->RelV i iv->RelV v u->t o i v H Q->wpAny (model X.prog X.w) X.A (setItem ov iv u) (λ_ s'=>∃H',Inv X pins σ H' s'/\Q H') X.xe s
section
variable{X:Cx}{pos:Pos}
def c6(i:Nat):TG:=λv σ H Q=>Q (σ.set i (some v)) H
theorem bD{i:Nat}{x:Str}(hN:X.N.Nodup)(hi:X.N[i]? =some x)(hx:Loc X.env.scope x)(hf:X.fn x=true\/X.env.scope.names.lookup x=some .local:=by first |exact .inl rfl |exact .inr rfl |assumption):PG X (.Name x pos) (c6 i):=by intro pins s σ H v u Q I r h;exact wpAny_assign_Name (zv I hN hi hx r (λs' I'=>⟨_,H,I',h⟩) hf)
def kb:qf:=λvs σ H Q=>vs=[]/\Q σ H
inductive eC(t:TG)(u:qf)(vs:List V)(σ:St)(H:Hp)(Q:(St->Hp->Prop)):Prop
 |mk v r:vs=v::r->(t v σ H λσ' H'=>u r σ' H' Q)->eC t u vs σ H Q
theorem mn:vm X [] kb:=by intro pins s σ H vs us Q I r h;obtain⟨e,h⟩:=h;subst e;cases r;exact assignInOrder_nil ⟨σ,H,I,h⟩
theorem fL{e:Expr}{es:List Expr}{t:TG}{u:qf}(h1:PG X e t)(h2:vm X es u) (hs:(assignEach (e::es) X.env).map (·.2)=assign e X.env::(assignEach es X.env).map (·.2):=by rfl):vm X (e::es) (eC t u):=by
 intro pins s σ H vs us Q I r h;obtain⟨v,vr,e1,h⟩:=h;subst e1;cases r with
 |cons r rr=>rw[hs];refine assignInOrder_cons (aF (h1 pins s σ H _ _ _ I r h) λ_ s1 ⟨σ1,H1,I1,q1⟩=>?_);exact h2 pins s1 σ1 H1 _ _ Q I1 rr q1
inductive jG(K:ax)(n:Nat)(t:qf)(v:V)(σ:St)(H:Hp)(Q:(St->Hp->Prop)):Prop
 |mk a xs:v=.ref a->a8 K H a xs->xs.length=n->t xs σ H Q->jG K n t v σ H Q
theorem mo{es:List Expr}{k:Nat}{t:qf}{n:Nat}(hc:X.calm=true)(h:vm X es t) (hn:(assignEach es X.env).length=n:=by rfl)(hst:(assignEach es X.env).findIdx? (·.1)=none:=by rfl):PG X (.Tuple es k pos) (jG X.K n t):=by
 intro pins s σ H v u Q I r hw;obtain⟨a,xs,e1,hq,hl,hw⟩:=hw;subst e1;cases r;obtain⟨its,rv,ht,hz⟩:=I.tuple hq;refine assign_Tuple_tuple (I.ok.hd hc) ht (by simp[hn,<-hl,rv.length]) hst λh' hx=>?_
 have I1:Inv X pins σ H {s with heap:=h'}:=I.kept (t':=s.toks) λb o e=>hx b o (bT (ba e)) e
 exact h pins _ σ H xs _ Q I1 (by simpa using rv) hw
def SD(to ti:TE)(t:zA):TG:=λv σ H Q=>to σ H λo H1=>ti σ H1 λi H2=>t o i v H2 λH3=>Q σ H3
theorem qg{o i:Expr}{to ti:TE}{t:zA}(ho:PE X o to)(hi:PE X i ti)(hs:GA X t) (ha:∀v,assign (.Subscript o i pos) X.env v=(do
   let ov<-holding [v] (eval o X.env)
   let iv<-holding [v,ov] (eval i X.env)
   standAt pos
   holding [v,ov,iv] (setItem ov iv v)
   release [v,ov,iv] []):=by intro _;rfl):PG X (.Subscript o i pos) (SD to ti t):=by
 intro pins s σ H v u Q I r h;rw[ha];refine ag (jb (aF (ho pins s σ H _ I h) λov s1 ⟨x,H1,I1,r1,q1⟩=>?_));refine ag (jb (aF (hi pins s1 σ H1 _ I1 q1) λiv s2 ⟨y,H2,I2,r2,q2⟩=>?_));refine ag (uM (ag (jb (aF (hs pins s2 σ H2 x y v ov iv u _ I2 r1 r2 r q2) λ_ s3 ⟨H3,I3,q3⟩=>?_))));exact wpAny_release ⟨σ,H3,I3,q3⟩
def vn(te:TE)(g:TG):TS:=λD σ H=>te σ H λx H1=>g x σ H1 D.nx
theorem qh{tg e:Expr}{te:TE}{g:TG}(he:PE X e te)(hg:PG X tg g)(hs:swapsWithSole [tg] e pos.line X.env=pure false:=by rfl)(hw:swappedStores [tg] e X.env=pure none:=by rfl) (h1:(assignEach [tg] X.env).map (·.2)=[assign tg X.env]:=by rfl):PS X (.Assign [tg] e pos) (vn te g):=by
 intro pins s σ H D I h;refine wpAny_Assign_stores (aF (he pins s σ H _ I h) λv s1 ⟨x,H1,I1,r1,q1⟩=>?_) hs hw;rw[h1];exact aF (hg pins s1 σ H1 x v _ I1 r1 q1) λ_ s2 q=>q
theorem aZ{i:Nat}{x:Str}{e:Expr}{te:TE}{pos':Pos}(hN:X.N.Nodup)(hi:X.N[i]? =some x)(hx:Loc X.env.scope x)(he:PE X e te)(hs:swapsWith e (some (.Name x pos')) pos.line X.env=pure false:=by rfl)(hf:X.fn x=true\/X.env.scope.names.lookup x=some .local:=by first |exact .inl rfl |exact .inr rfl |assumption):PS X (.Assign [.Name x pos'] e pos) (vn te (c6 i)):=by
 intro pins s σ H D I h;refine wpAny_Assign_Name (aF (he pins s σ H _ I h) λv s1 ⟨y,H1,I1,r1,q1⟩=>?_) hs;exact zv I1 hN hi hx r1 (λs2 I2=>⟨_,H1,I2,q1⟩) hf
end
section
variable{X:Cx}{pos:Pos}
def GB(c:TT)(tb:TS):TS:=λD σ H=>∃W:Nat->St->Hp->Prop,(∃m,W m σ H)/\∀m σ H,W m σ H->c σ H λb H1=>if b=true then ∃N:St->Hp->Prop,(∀σ' H',N σ' H'->∃m',m'<m/\W m' σ' H')/\tb {D with nx:=N,ct:=N,bk:=D.nx} σ H1 else D.nx σ H1
theorem vo{c:Expr}{body:List Stmt}{tc:TT}{tb:TS}(hp:PassesOwn (model X.prog X.w) X.A X.env X.xe)(hc:PT X c tc)(hb:eA X body tb):PS X (.While c body [] pos) (GB tc tb):=by
 intro pins s σ H D I h;obtain⟨W,⟨m0,w0⟩,turn⟩:=h;refine wpAny_While (codeAny_whileLoop (λn s'=>∃σ' H',Inv X pins σ' H' s'/\W n σ' H') ?_ m0 ⟨σ,H,I,w0⟩)
 rintro n s1 ⟨σ1,H1,I1,w1⟩
 refine rB hp (aF (hc pins s1 σ1 H1 _ I1 (turn n σ1 H1 w1)) λb s2 ⟨H2,I2,q2⟩=>?_);cases b with
 |true=>
  obtain⟨N,hN,q2⟩:=q2;rw[ai rfl];refine rB hp (aF (hb pins s2 σ1 H2 _ I2 q2) λf s3 q3=>?_);cases f with
  |next=>obtain⟨σ3,H3,I3,n3⟩:=q3;obtain⟨m',hm,w3⟩:=hN σ3 H3 n3;exact⟨m',hm,σ3,H3,I3,w3⟩
  |cont=>obtain⟨σ3,H3,I3,n3⟩:=q3;obtain⟨m',hm,w3⟩:=hN σ3 H3 n3;exact⟨m',hm,σ3,H3,I3,w3⟩
  |brk=>exact q3
  |ret v=>exact q3
 |false=>rw[ah cY];exact FQ ⟨σ1,H2,I2,q2⟩
end
structure It where
 go:Nat->Hp->Prop
 gB:Nat->Hp->V->Hp->Prop
 stop:Nat->Hp->Prop
def fm(X:Cx)(pins:List (Addr×Obj))(H:Hp)(b:Addr):Prop:=H b=none/\b≠X.env.locals/\b ∉ X.fs/\(b∈X.ex\/X.s₀.heap.objs.size<=b)/\(∀x c,X.env.cells.lookup x=some c->c≠b)/\∀p∈X.pn++pins,p.1≠b
theorem Inv.jh{X:Cx}{pins:List (Addr×Obj)}{σ:St}{H H':Hp}{s:Shared}{b:Addr}(I:Inv X pins σ H s)(hb:s.heap.objs.size<=b)(hn:H' b=none):fm X pins H' b:=by
 refine⟨hn,l9 (dM I.lt hb),I.Sk hb,.inr (bE I.sz hb),λx c e z=>?_,λp hp z=>?_⟩
 ·obtain⟨v,q⟩:=I.cell x c e;exact absurd (dM q.lt (by rw[z];exact hb)) (l8 _)
 ·exact absurd (dM (ba (I.pin p hp).1) (by rw[z];exact hb)) (l8 _)
structure l7(P:Program)(w:World)(K:ax)(tg:Expr)(J:It)(fp:List Addr)(it:Addr)(tn:Nat->Heap->Prop):Prop where
 mem:it∈fp
 obj:∀i h,tn i h->∀b∈fp,∃o,h.get? b=some o/\∀v,o.data≠ .cell v
 keep:∀i h h',tn i h->(∀b∈fp,∀o,h.get? b=some o->h'.get? b=some o)->tn i h'
 item:∀(X:Cx),X.prog=P->X.w=w->X.K=K->X.calm=true->∀(i:Nat)(pins:List (Addr×Obj))(s:Shared)(σ:St)(H:Hp)(E:Value->Shared->Prop),Inv X pins σ H s->(∀b∈fp,fm X pins H b)->tn i s.heap->J.go i H->wpAny (model P w) X.A (pyNext (.ref it)) (λr s1=>∃u,r=some u/\ wpAny (model P w) X.A (letOwnedTupleGo tg (.ref it) u) (λ_ s2=>∃x H',Inv X pins σ H' s2/\RelV x u/\J.gB i H x H'/\tn (i+1) s2.heap/\∀b∈fp,H' b=none) E s1) E s
 done:∀(X:Cx),X.prog=P->X.w=w->X.K=K->X.calm=true->∀(i:Nat)(pins:List (Addr×Obj))(s:Shared)(σ:St)(H:Hp)(E:Value->Shared->Prop),Inv X pins σ H s->(∀b∈fp,fm X pins H b)->tn i s.heap->J.stop i H->wpAny (model P w) X.A (pyNext (.ref it)) (λr s1=>r=none/\Inv X pins σ H s1) E s
 self:∀(A:Around)(i:Nat)(s:Shared)(Q:Value->Shared->Prop)(E:Value->Shared->Prop),tn i s.heap->Q (.ref it) s->wpAny (model P w) A (pyIter (.ref it)) Q E s
abbrev TI:=St->Hp->(It->Hp->Prop)->Prop
def zB(X:Cx)(pins:List (Addr×Obj))(σ:St)(tg:Expr)(R:It->Hp->Prop)(itv:Value)(s2:Shared):Prop:=∃(it:Addr)(fp:List Addr)(tn:Nat->Heap->Prop)(J:It)(H':Hp),itv=.ref it/\Inv X pins σ H' s2/\l7 X.prog X.w X.K tg J fp it tn/\tn 0 s2.heap/\(∀b∈fp,fm X pins H' b)/\R J H'
def PI(X:Cx)(tg iter:Expr)(wi:TI):Prop:=∀(pins:List (Addr×Obj))(s:Shared)(σ:St)(H:Hp)(R:It->Hp->Prop),Inv X pins σ H s->wi σ H R->wpAny (model X.prog X.w) X.A (eval iter X.env) (λv s1=>wpAny (model X.prog X.w) X.A (pyIter v) (zB X pins σ tg R) X.xe s1) X.xe s
theorem rV{M:Model}{A:Around}{E:Value->Shared->Prop}{s:Shared}{tg:Expr}{it:Addr}{u:Value}{o:Obj}{n:String}{vs:Array Value}{Q:Unit->Shared->Prop}(ho:s.heap.get? it=some o)(hc:o.cls=.type n)(hd:o.data=.fields vs) (hn:["enumerate","zip","dict_itemiterator","dict_reverseitemiterator","odict_iterator","itertools.zip_longest","itertools.pairwise"].contains n=false)(hQ:Q () s):wpAny M A (letOwnedTupleGo tg (.ref it) u) Q E s:=by
 unfold letOwnedTupleGo;cases tg<;>first
  |exact az hQ
  |(cases u<;>first
    |exact az hQ
    |(refine ag (wpAny_load ho ?_)
      rw[hc,hd];show wpAny M A (if (["enumerate","zip","dict_itemiterator","dict_reverseitemiterator","odict_iterator","itertools.zip_longest","itertools.pairwise"].contains n&&vs[0]? ==some (rawInt _))=true then _ else _) Q E s;rw[ah (by intro h;rw[hn,y8]at h;cases h)];exact az hQ))
def qj(K:ax)(a:Addr):It:=⟨λi H=>∃xs x,aj K H a xs/\xs[i]? =some x,λi H x H'=>H'=H/\∀xs,aj K H a xs->xs[i]? =some x,λi H=>∃xs,aj K H a xs/\xs.length<=i⟩
def qk(K:ax)(a:Addr):It:=⟨λi H=>∃xs x,a8 K H a xs/\xs[i]? =some x,λi H x H'=>H'=H/\∀xs,a8 K H a xs->xs[i]? =some x,λi H=>∃xs,a8 K H a xs/\xs.length<=i⟩
def nK(lo:Int)(n:Nat):It:=⟨λi _=>i<n,λi H x H'=>H'=H/\x=.int (lo+i),λi _=>n<=i⟩
theorem SF{P:Program}{w:World}{K:ax}{tg:Expr}(a it:Addr):l7 P w K tg (qj K a) [it] it (λi h=>h.IsListIter it a i) where
 mem:=by simp
 obj:=λi h st b hb=>by
  have e:b=it:=by simpa using hb
  subst e;obtain⟨o,e,c,d⟩:=st;exact⟨o,e,λv z=>by rw[d]at z;cases z⟩
 keep:=λi h h' st k=>st.at λo e=>k it (by simp) o e
 item:=by
  intro X hP hw hK hc i pins s σ H E I hf st hg;subst hP hw hK;obtain⟨xs,x,hq,hx⟩:=hg;obtain⟨its,rv,p,hz⟩:=I.list hq;obtain⟨u,hu,ru⟩:=rv.get hx;obtain⟨f0,f1,f2,f3,f4,f5⟩:=hf it (by simp);refine wpAny_pyNext_list_item st p.isList (x:=u) (by simpa using hu) λh' st' sb=>?_
  have I1:Inv X pins σ H {s with heap:=h'}:=I.turned (t':=s.toks) (λb o hb e=>(sb.2 b hb).trans e) f0 f1 f3 f4 f5;obtain⟨o,e,c,d⟩:=id st';exact⟨u,rfl,rV (s:= {s with heap:=h'}) e c d (by decide) ⟨x,H,I1,ru,⟨rfl,λys hy=>by rw[I.vj hy hq];exact hx⟩,st',λb hb=>(hf b hb).1⟩⟩
 done:=by intro X hP hw hK hc i pins s σ H E I hf st hg;subst hP hw hK;obtain⟨xs,hq,hx⟩:=hg;obtain⟨its,rv,p,hz⟩:=I.list hq;obtain⟨f0,f1,f2,f3,f4,f5⟩:=hf it (by simp);have hl:=rv.length;exact wpAny_pyNext_list_end (I.ok.hd hc) st p.isList (by simp;omega) λh' eb=>⟨rfl,I.turned (t':=s.toks) (λb o hb e=>eb b o hb e) f0 f1 f3 f4 f5⟩
 self:=λ_ _ _ _ _ st h=>wpAny_pyIter_listiter st h
theorem SG{P:Program}{w:World}{K:ax}{tg:Expr}(a it:Addr):l7 P w K tg (qk K a) [it] it (λi h=>h.IsTupleIter it a i) where
 mem:=by simp
 obj:=λi h st b hb=>by
  have e:b=it:=by simpa using hb
  subst e;obtain⟨o,e,c,d⟩:=st;exact⟨o,e,λv z=>by rw[d]at z;cases z⟩
 keep:=λi h h' st k=>st.at λo e=>k it (by simp) o e
 item:=by
  intro X hP hw hK hc i pins s σ H E I hf st hg;subst hP hw hK;obtain⟨xs,x,hq,hx⟩:=hg;obtain⟨its,rv,p,hz⟩:=I.tuple hq;obtain⟨u,hu,ru⟩:=rv.get hx;obtain⟨f0,f1,f2,f3,f4,f5⟩:=hf it (by simp);refine wpAny_pyNext_tuple_item st (show s.heap.IsTuple a its.toArray from p) (x:=u) (by simpa using hu) λh' st' sb=>?_
  have I1:Inv X pins σ H {s with heap:=h'}:=I.turned (t':=s.toks) (λb o hb e=>(sb.2 b hb).trans e) f0 f1 f3 f4 f5;obtain⟨o,e,c,d⟩:=id st';exact⟨u,rfl,rV (s:= {s with heap:=h'}) e c d (by decide) ⟨x,H,I1,ru,⟨rfl,λys hy=>by rw[I.Sw hy hq];exact hx⟩,st',λb hb=>(hf b hb).1⟩⟩
 done:=by intro X hP hw hK hc i pins s σ H E I hf st hg;subst hP hw hK;obtain⟨xs,hq,hx⟩:=hg;obtain⟨its,rv,p,hz⟩:=I.tuple hq;obtain⟨f0,f1,f2,f3,f4,f5⟩:=hf it (by simp);have hl:=rv.length;exact wpAny_pyNext_tuple_end (I.ok.hd hc) st (show s.heap.IsTuple a its.toArray from p) (by simp;omega) λh' eb=>⟨rfl,I.turned (t':=s.toks) (λb o hb e=>eb b o hb e) f0 f1 f3 f4 f5⟩
 self:=λ_ _ _ _ _ st h=>wpAny_pyIter_tupleiter st h
theorem SI{P:Program}{w:World}{K:ax}{tg:Expr}(it:Addr)(lo:Int)(n:Nat):l7 P w K tg (nK lo n) [it] it (λi h=>IsRangeIter h it (lo+(i:Nat)*1) ((n:Int)-(i:Nat)) 1) where
 mem:=by simp
 obj:=λi h st b hb=>by
  have e:b=it:=by simpa using hb
  subst e;exact⟨_,st,λv z=>by have z':Data.fields _=Data.cell v:=z;cases z'⟩
 keep:=λi h h' st k=>k it (by simp) _ st
 item:=by
  intro X hP hw hK hc i pins s σ H E I hf st hg;subst hP hw hK;obtain⟨f0,f1,f2,f3,f4,f5⟩:=hf it (by simp);have W:=Walks.range (prog:=X.prog) (w:=X.w) (I.ok.hd hc) it lo 1 n;refine W.item i s _ _ hg st λv h' tk hv st' kk=>?_
  obtain⟨t,rfl⟩:=hv;have I1:Inv X pins σ H {s with heap:=h',toks:=tk}:=I.turned (λb o hb e=>kk b o (by simpa using hb) e) f0 f1 f3 f4 f5;refine⟨_,rfl,rV (s:= {s with heap:=h',toks:=tk}) (n:="range_iterator") st' rfl rfl (by decide) ⟨.int (lo+i),H,I1,⟨t,?_⟩,⟨rfl,rfl⟩,st',λb hb=>(hf b hb).1⟩⟩;rw[Int.mul_one]
 done:=by intro X hP hw hK hc i pins s σ H E I hf st hg;subst hP hw hK;obtain⟨f0,f1,f2,f3,f4,f5⟩:=hf it (by simp);exact wpAny_pyNext_range_end (I.ok.hd hc) st (by have:n<=i:=hg;omega) λh' eb=>⟨rfl,I.turned (t':=s.toks) (λb o hb e=>eb b o hb e) f0 f1 f3 f4 f5⟩
 self:=λ_ _ _ _ _ st h=>wpAny_pyIter_rangeiter st h
section
variable{X:Cx}{tg:Expr}
inductive GC(K:ax)(R:(It->Hp->Prop))(x:V)(H1:Hp):Prop
 |mk a:x=.ref a->((∃xs,aj K H1 a xs))->R (qj K a) H1->GC K R x H1
def SJ(K:ax)(tl:TE):TI:=λσ H R=>tl σ H λx H1=>GC K R x H1
inductive GD(K:ax)(R:(It->Hp->Prop))(x:V)(H1:Hp):Prop
 |mk a:x=.ref a->((∃xs,a8 K H1 a xs))->R (qk K a) H1->GD K R x H1
def GF(K:ax)(tl:TE):TI:=λσ H R=>tl σ H λx H1=>GD K R x H1
theorem gC{l:Expr}{tl:TE}(hl:PE X l tl):PI X tg l (SJ X.K tl):=by
 intro pins s σ H R I h;refine aF (hl pins s σ H _ I h) λv s1 ⟨x,H1,I1,r1,q1⟩=>?_
 obtain⟨a,e,⟨xs,hq⟩,q⟩:=q1;subst e;cases r1;obtain⟨its,rv,p,hz⟩:=I1.list hq;refine FR p.isList ?_;refine⟨s1.heap.objs.size,[s1.heap.objs.size],_,_,H1,rfl,I1.kept (t':=s1.toks) λb o e=>br _ e,SF a _,⟨_,cF _ rfl,rfl,rfl⟩,λb hb=>?_,q⟩;have e:b=s1.heap.objs.size:=by simpa using hb
 subst e;exact I1.jh (aI _) (I1.hok.fresh (aI _))
theorem lh{l:Expr}{tl:TE}(hl:PE X l tl):PI X tg l (GF X.K tl):=by
 intro pins s σ H R I h;refine aF (hl pins s σ H _ I h) λv s1 ⟨x,H1,I1,r1,q1⟩=>?_
 obtain⟨a,e,⟨xs,hq⟩,q⟩:=q1;subst e;cases r1;obtain⟨its,rv,p,hz⟩:=I1.tuple hq;refine wpAny_pyIter_tuple (show s1.heap.IsTuple a its.toArray from p) ?_;refine⟨s1.heap.objs.size,[s1.heap.objs.size],_,_,H1,rfl,I1.kept (t':=s1.toks) λb o e=>br _ e,SG a _,⟨_,cF _ rfl,rfl,rfl⟩,λb hb=>?_,q⟩;have e:b=s1.heap.objs.size:=by simpa using hb
 subst e;exact I1.jh (aI _) (I1.hok.fresh (aI _))
theorem SK{pins:List (Addr×Obj)}{σ:St}{H:Hp}{s:Shared}{R:It->Hp->Prop}{E:Value->Shared->Prop}{lo hi:Int}{t u v:Tok}{tk:Nat}(I:Inv X pins σ H s)(h1: -(2^62)<=lo)(h2:lo<2^62)(h3: -(2^62)<=hi)(h4:hi<2^62) (q:R (nK lo (hi-lo).toNat) H):wpAny (model X.prog X.w) X.A (pyIter (.ref s.heap.objs.size)) (zB X pins σ tg R) E {s with heap:=s.heap.push {cls:=.type "range",data:=.fields #[.int lo t,.int hi u,.int 1 v]},toks:=tk}:=by
 refine wpAny_pyIter_range (IsRange.new ..) (small_one h1 h2 h3 h4) ?_;have I1:Inv X pins σ H {s with heap:=s.heap.push {cls:=.type "range",data:=.fields #[.int lo t,.int hi u,.int 1 v]},toks:=tk}:=I.kept λb o e=>br _ e
 refine⟨(s.heap.push {cls:=.type "range",data:=.fields #[.int lo t,.int hi u,.int 1 v]}).objs.size,[(s.heap.push {cls:=.type "range",data:=.fields #[.int lo t,.int hi u,.int 1 v]}).objs.size],_,_,H,rfl,I1.kept (t':=tk) λb o e=>br _ e,SI _ lo (hi-lo).toNat,?_,λb hb=>?_,q⟩
 ·have e1:lo+((0:Nat):Int)*1=lo:=by simp
  have e2:(((hi-lo).toNat:Nat):Int)-((0:Nat):Int)=Builtin.Range.rangeSize lo hi 1:=by rw[rangeSize_one];split<;>omega
  show IsRangeIter _ _ (lo+((0:Nat):Int)*1) ((((hi-lo).toNat:Nat):Int)-((0:Nat):Int)) 1;rw[e1,e2];exact cF _ rfl
 ·have e:b=(s.heap.push {cls:=.type "range",data:=.fields #[.int lo t,.int hi u,.int 1 v]}).objs.size:=by simpa using hb
  subst e;exact I1.jh (aI _) (I1.hok.fresh (aI _))
inductive GG(R:(It->Hp->Prop))(vs:List V)(H1:Hp):Prop
 |mk (j:Int):vs=[.int j]-> -(2^62)<=j->j<2^62->R (nK 0 j.toNat) H1->GG R vs H1
def SM(ta:TA):TI:=λσ H R=>ta σ H λvs H1=>GG R vs H1
theorem vp{a:Expr}{ta:TA}{p pos:Pos}(hg:Gl X "range")(hm:X.mg "range"=none)(ha:PA X [a] ta)(hs:starEach [a] X.env=[(false,eval a X.env)]:=by rfl):PI X tg (.Call (.Name "range" p) [a] [] pos) (SM ta):=by
 intro pins s σ H R I h;refine Call_ (qd I hg hm boot_range (y9 (aF (ha pos pins s σ H _ I h) λus s1 ⟨vs,H1,I1,r1,q1⟩=>?_) hs rfl));obtain⟨j,e,q1,q2,q⟩:=q1;subst e;cases r1 with
 |cons r rr=>cases rr;obtain⟨t,rfl⟩:=r;exact call_range_1 (SK I1 (by omega) (by omega) q1 q2 (by simpa using q))
def SN(wi:TI)(g:TG)(tb:TS):TS:=λD σ H=>wi σ H λJ H1=>∃W:Nat->Nat->St->Hp->Prop,(∃m,W 0 m σ H1)/\∀i m σ H,W i m σ H->(J.stop i H/\D.nx σ H)\/(J.go i H/\∃N:St->Hp->Prop,(∀σ' H',N σ' H'->∃m',m'<m/\W (i+1) m' σ' H')/\∀x H',J.gB i H x H'->g x σ H' λσ2 H2=>tb {D with nx:=N,ct:=N,bk:=D.nx} σ2 H2)
def rW(fp:List Addr)(h:Heap):List (Addr×Obj):=fp.filterMap λb=>(h.get? b).map λo=>(b,o)
theorem zC{fp:List Addr}{h:Heap}{b:Addr}{o:Obj}(hb:b∈fp)(e:h.get? b=some o):(b,o)∈rW fp h:=m_.mpr ⟨b,hb,by rw[e];rfl⟩
theorem SO{fp:List Addr}{h:Heap}{p:Addr×Obj}(hp:p∈rW fp h):p.1∈fp/\h.get? p.1=some p.2:=by
 obtain⟨b,hb,e⟩:=m_.mp hp;cases q:h.get? b with
 |none=>rw[q]at e;cases e
 |some o=>rw[q]at e;have e':(b,o)=p:=cI e;subst e';exact⟨hb,q⟩
theorem Inv.pinned{pins:List (Addr×Obj)}{σ:St}{H:Hp}{s:Shared}{fp:List Addr}(I:Inv X pins σ H s)(hf:∀b∈fp,fm X pins H b)(ho:∀b∈fp,∃o,s.heap.get? b=some o/\∀v,o.data≠ .cell v):Inv X (pins++rW fp s.heap) σ H s:=I.zt λp hp=>(bN.mp hp).elim (λz=>I.pin p (jz _ z)) λz=>by obtain⟨hb,e⟩:=SO z;obtain⟨f0,f1,f2,_⟩:=hf p.1 hb;obtain⟨o,e',d⟩:=ho p.1 hb;rw[e]at e';cases e';exact⟨e,f0,f1,f2,d⟩
theorem Inv.vq{pins pl:List (Addr×Obj)}{σ:St}{H:Hp}{s:Shared}(I:Inv X (pins++pl) σ H s):Inv X pins σ H s:=I.zt λp hp=>I.pin p (jz _ (fc _ hp))
theorem gF{iter:Expr}{body:List Stmt}{wi:TI}{g:TG}{tb:TS}{pos:Pos}(hp:PassesOwn (model X.prog X.w) X.A X.env X.xe)(hc:X.calm=true)(hi:PI X tg iter wi)(hg:PG X tg g)(hb:eA X body tb) (hs:∀x,foldedSetIterable iter X.env x=pure x:=by intro _;rfl):PS X (.For tg iter body [] pos) (SN wi g tb):=by
 intro pins s σ H D I h;refine wpAny_For (aF (hi pins s σ H _ I h) λv s1 h1=>aF h1 λitv s2 h2=>?_) hs;obtain⟨it,fp,tn,J,H2,e,I2,T,st2,f2,W,⟨m0,w0⟩,turn⟩:=h2;subst e;have stat:∀{H':Hp},(∀b∈fp,H' b=none)->∀b∈fp,fm X pins H' b:=λhn b hb=>⟨hn b hb,(f2 b hb).2⟩
 refine codeAny_forLoop_any (λn s'=>∃i σ' H',Inv X pins σ' H' s'/\tn i s'.heap/\(∀b∈fp,H' b=none)/\W i n σ' H') ?_ m0 ⟨0,σ,H2,I2,st2,λb hb=>(f2 b hb).1,w0⟩
 rintro n s3 ⟨i,σ3,H3,I3,st3,fr3,w3⟩
 rcases turn i n σ3 H3 w3 with ⟨stop,qn⟩ |⟨go,N,hN,step⟩
 ·refine rB hp (aF (T.done X rfl rfl rfl hc i pins s3 σ3 H3 X.xe I3 (stat fr3) st3 stop) λr s4 ⟨hr,I4⟩=>?_);subst hr;exact FQ ⟨σ3,H3,I4,qn⟩
 ·refine rB hp (aF (T.item X rfl rfl rfl hc i pins s3 σ3 H3 X.xe I3 (stat fr3) st3 go) λr s4 ⟨u,hr,h4⟩=>?_);subst hr;refine rB hp (aF h4 λ_ s5 ⟨x,H5,I5,r5,y5,st5,fr5⟩=>?_);have I5':=I5.pinned (stat fr5) (T.obj _ _ st5);refine rB hp (aF (hg _ s5 σ3 H5 x u _ I5' r5 (step x H5 y5)) λ_ s6 ⟨σ6,H6,I6,q6⟩=>?_);refine rB hp (aF (hb _ s6 σ6 H6 _ I6 q6) λf s7 q7=>?_);have again:∀{jH:St}{H7:Hp},Inv X (pins++rW fp s5.heap) jH H7 s7->N jH H7->∃m,m<n/\∃i σ' H',Inv X pins σ' H' s7/\tn i s7.heap/\(∀b∈fp,H' b=none)/\W i m σ' H':=λ{jH H7} I7 n7=>by
   obtain⟨m',hm,w7⟩:=hN jH H7 n7;refine⟨m',hm,i+1,jH,H7,I7.vq,T.keep _ _ _ st5 λb hb o e=>(I7.pin (b,o) (jz _ (jz _ (zC hb e)))).1,λb hb=>?_,w7⟩;obtain⟨o,e,d⟩:=T.obj _ _ st5 b hb;exact(I7.pin (b,o) (jz _ (jz _ (zC hb e)))).2.1
  cases f with
  |next=>obtain⟨jH,H7,I7,n7⟩:=q7;exact again I7 n7
  |cont=>obtain⟨jH,H7,I7,n7⟩:=q7;exact again I7 n7
  |brk=>obtain⟨jH,H7,I7,q7⟩:=q7;exact⟨jH,H7,I7.vq,q7⟩
  |ret v=>obtain⟨x7,jH,H7,I7,r7,q7⟩:=q7;exact⟨x7,jH,H7,I7.vq,r7,q7⟩
end
theorem lu{K:ax}{a:Addr}{xs:List V}{g:TG}{tb:TS}{D:Ends}{σ:St}{H:Hp}(Pv:Nat->St->Hp->Prop)(h0:Pv 0 σ H)(hl:∀i σ H,i<=xs.length->Pv i σ H->aj K H a xs) (hs:∀i x σ H,xs[i]? =some x->Pv i σ H->g x σ H λσ2 H2=>tb {D with nx:=Pv (i+1),ct:=Pv (i+1),bk:=D.nx} σ2 H2)(hd:∀σ H,Pv xs.length σ H->D.nx σ H):∃W:Nat->Nat->St->Hp->Prop,(∃m,W 0 m σ H)/\∀i m σ H,W i m σ H->((qj K a).stop i H/\D.nx σ H)\/((qj K a).go i H/\∃N:St->Hp->Prop,(∀σ' H',N σ' H'->∃m',m'<m/\W (i+1) m' σ' H')/\∀x H',(qj K a).gB i H x H'->g x σ H' λσ2 H2=>tb {D with nx:=N,ct:=N,bk:=D.nx} σ2 H2):=by
 refine⟨λi m σ H=>m=xs.length-i/\i<=xs.length/\Pv i σ H,⟨xs.length,by simp,b9 _,h0⟩,?_⟩
 rintro i m σ H ⟨rfl,hi,p⟩
 have q:=hl i σ H hi p;by_cases hlt:i<xs.length
 ·refine .inr ⟨⟨xs,xs[i],q,by simp[hlt]⟩,Pv (i+1),λσ' H' p'=>⟨xs.length-(i+1),by omega,rfl,hlt,p'⟩,λx H' y=>?_⟩;obtain⟨e,y⟩:=y;subst e;exact hs i x σ _ (y xs q) p
 ·have e:i=xs.length:=by omega
  subst e;exact .inl ⟨⟨xs,q,aI _⟩,hd σ H p⟩
theorem zD{K:ax}{a:Addr}{xs:List V}{g:TG}{tb:TS}{D:Ends}{σ:St}{H:Hp}(Pv:Nat->St->Hp->Prop)(h0:Pv 0 σ H)(hl:∀i σ H,i<=xs.length->Pv i σ H->a8 K H a xs) (hs:∀i x σ H,xs[i]? =some x->Pv i σ H->g x σ H λσ2 H2=>tb {D with nx:=Pv (i+1),ct:=Pv (i+1),bk:=D.nx} σ2 H2)(hd:∀σ H,Pv xs.length σ H->D.nx σ H):∃W:Nat->Nat->St->Hp->Prop,(∃m,W 0 m σ H)/\∀i m σ H,W i m σ H->((qk K a).stop i H/\D.nx σ H)\/((qk K a).go i H/\∃N:St->Hp->Prop,(∀σ' H',N σ' H'->∃m',m'<m/\W (i+1) m' σ' H')/\∀x H',(qk K a).gB i H x H'->g x σ H' λσ2 H2=>tb {D with nx:=N,ct:=N,bk:=D.nx} σ2 H2):=by
 refine⟨λi m σ H=>m=xs.length-i/\i<=xs.length/\Pv i σ H,⟨xs.length,by simp,b9 _,h0⟩,?_⟩
 rintro i m σ H ⟨rfl,hi,p⟩
 have q:=hl i σ H hi p;by_cases hlt:i<xs.length
 ·refine .inr ⟨⟨xs,xs[i],q,by simp[hlt]⟩,Pv (i+1),λσ' H' p'=>⟨xs.length-(i+1),by omega,rfl,hlt,p'⟩,λx H' y=>?_⟩;obtain⟨e,y⟩:=y;subst e;exact hs i x σ _ (y xs q) p
 ·have e:i=xs.length:=by omega
  subst e;exact .inl ⟨⟨xs,q,aI _⟩,hd σ H p⟩
theorem GH{lo:Int}{n:Nat}{g:TG}{tb:TS}{D:Ends}{σ:St}{H:Hp}(Pv:Nat->St->Hp->Prop)(h0:Pv 0 σ H) (hs:∀i σ H,i<n->Pv i σ H->g (.int (lo+i)) σ H λσ2 H2=>tb {D with nx:=Pv (i+1),ct:=Pv (i+1),bk:=D.nx} σ2 H2)(hd:∀σ H,Pv n σ H->D.nx σ H):∃W:Nat->Nat->St->Hp->Prop,(∃m,W 0 m σ H)/\∀i m σ H,W i m σ H->((nK lo n).stop i H/\D.nx σ H)\/((nK lo n).go i H/\∃N:St->Hp->Prop,(∀σ' H',N σ' H'->∃m',m'<m/\W (i+1) m' σ' H')/\∀x H',(nK lo n).gB i H x H'->g x σ H' λσ2 H2=>tb {D with nx:=N,ct:=N,bk:=D.nx} σ2 H2):=by
 refine⟨λi m σ H=>m=n-i/\i<=n/\Pv i σ H,⟨n,by simp,b9 _,h0⟩,?_⟩
 rintro i m σ H ⟨rfl,hi,p⟩
 by_cases hlt:i<n
 ·refine .inr ⟨hlt,Pv (i+1),λσ' H' p'=>⟨n-(i+1),by omega,rfl,hlt,p'⟩,λx H' y=>?_⟩;obtain⟨e,y⟩:=y;subst e y;exact hs i σ _ hlt p
 ·have e:i=n:=by omega
  subst e;exact .inl ⟨aI _,hd σ H p⟩
theorem SQ{c:TT}{tb:TS}{D:Ends}{σ:St}{H:Hp}(Pv:St->Hp->Prop)(μ:St->Hp->Nat)(h0:Pv σ H) (hs:∀σ H,Pv σ H->c σ H λb H1=>if b=true then tb {D with nx:=λσ' H'=>Pv σ' H'/\μ σ' H'<μ σ H,ct:=λσ' H'=>Pv σ' H'/\μ σ' H'<μ σ H,bk:=D.nx} σ H1 else D.nx σ H1) (mono:∀σ H Q Q',(∀b H1,Q b H1->Q' b H1)->c σ H Q->c σ H Q'):GB c tb D σ H:=by
 refine⟨λm σ H=>m=μ σ H/\Pv σ H,⟨_,rfl,h0⟩,?_⟩
 rintro m σ H ⟨rfl,p⟩
 refine mono σ H _ _ (λb H1 q=>?_) (hs σ H p);cases b with
 |true=>exact⟨_,λσ' H' ⟨p',l⟩=>⟨_,l,rfl,p'⟩,q⟩
 |false=>exact q
abbrev R2:=V->V->Hp->VK->Prop
def cj(X:Cx)(f:Value->Value->Sem Value)(r:R2):Prop:=∀(pins:List (Addr×Obj))(s:Shared)(σ:St)(H:Hp)(x y:V)(v u:Value)(Q:VK),Inv X pins σ H s->RelV x v->RelV y u->r x y H Q->wpAny (model X.prog X.w) X.A (f v u) (EP X pins σ Q) X.xe s
def vt(X:Cx)(f:Value->Sem Value)(r:V->Hp->VK->Prop):Prop:=∀(pins:List (Addr×Obj))(s:Shared)(σ:St)(H:Hp)(x:V)(v:Value)(Q:VK),Inv X pins σ H s->RelV x v->r x H Q->wpAny (model X.prog X.w) X.A (f v) (EP X pins σ Q) X.xe s
def g_(X:Cx)(f:Value)(r:List V->Hp->VK->Prop):Prop:=∀(pins:List (Addr×Obj))(s:Shared)(σ:St)(H:Hp)(xs:List V)(us:List Value)(Q:VK),Inv X pins σ H s->Vals xs us->r xs H Q->wpAny (model X.prog X.w) X.A (call f us) (EP X pins σ Q) X.xe s
def gG(r:R2)(ta tb:TE):TE:=λσ H Q=>ta σ H λx H1=>tb σ H1 λy H2=>r x y H2 Q
def SR(r:V->Hp->VK->Prop)(ta:TE):TE:=λσ H Q=>ta σ H λx H1=>r x H1 Q
inductive rI(C:Int->Int->Prop)(g:Int->Int->V)(x:V)(y:V)(H:Hp)(Q:VK):Prop
 |mk i j:x=.int i->y=.int j->C i j->Q (g i j) H->rI C g x y H Q
inductive hV(g:Int->Int->V)(x:V)(y:V)(H:Hp)(Q:VK):Prop
 |mk i j:x=.int i->y=.int j->Q (g i j) H->hV g x y H Q
inductive rU(g:Int->V)(x:V)(H:Hp)(Q:VK):Prop
 |mk i:x=.int i->Q (g i) H->rU g x H Q
section
variable{X:Cx}{a b c:Expr}{ta tb tc:TE}{pos:Pos}
theorem zE(ha:PE X a ta)(hb:PE X b tb){pins:List (Addr×Obj)}{s:Shared}{σ:St}{H:Hp}{R:V->V->Hp->Prop}(I:Inv X pins σ H s) (h:ta σ H λx H1=>tb σ H1 λy H2=>R x y H2){Q:Value->Shared->Prop}{f:Value->Value->Sem Value} (hf:∀v u s2 x y H2,Inv X pins σ H2 s2->RelV x v->RelV y u->R x y H2->wpAny (model X.prog X.w) X.A (f v u) Q X.xe s2):wpAny (model X.prog X.w) X.A (eval a X.env) (λv s₁=>wpAny (model X.prog X.w) X.A (eval b X.env) (λu s₂=>wpAny (model X.prog X.w) X.A (f v u) Q X.xe s₂) X.xe s₁) X.xe s:=by
 refine aF (ha pins s σ H _ I h) λv s1 ⟨x,H1,I1,r1,q1⟩=>?_
 refine aF (hb pins s1 σ H1 _ I1 q1) λu s2 ⟨y,H2,I2,r2,q2⟩=>?_
 exact hf v u s2 x y H2 I2 r1 r2 q2
theorem bU{op:Operator}{r:R2}(ho:cj X (binaryOp op) r)(ha:PE X a ta)(hb:PE X b tb):PE X (.BinOp a op b pos) (gG r ta tb):=by intro pins s σ H Q I h;exact wpAny_BinOp (zE ha hb I h λv u s2 x y H2 I2 rx ry q=>ho pins s2 σ H2 x y v u Q I2 rx ry q)
theorem mq{op:UnaryOp}{r:V->Hp->VK->Prop}(ho:vt X (unaryOp op) r)(ha:PE X a ta):PE X (.UnaryOp op a pos) (SR r ta):=by intro pins s σ H Q I h;exact UnaryOp_ (aF (ha pins s σ H _ I h) λv s1 ⟨x,H1,I1,r1,q1⟩=>ho pins s1 σ H1 x v Q I1 r1 q1)
theorem rX{f:Value->Value->Sem Value}{C:Int->Int->Prop}{g:Int->Int->Int} (rule:∀(i j:Int)(t u:Tok)(s:Shared)(Q:Value->Shared->Prop)(E:Value->Shared->Prop),C i j->Q (.int (g i j) s.toks) {s with toks:=s.toks+1}->wpAny (model X.prog X.w) X.A (f (.int i t) (.int j u)) Q E s):cj X f (rI C λi j=>.int (g i j)):=by
 intro pins s σ H x y v u Q I rx ry h;obtain⟨i,j,rfl,rfl,hc,q⟩:=h;obtain⟨t,rfl⟩:=rx;obtain⟨t',rfl⟩:=ry;exact rule i j t t' s _ _ hc ⟨.int (g i j),H,I.tok _,⟨_,rfl⟩,q⟩
theorem rY{f:Value->Value->Sem Value}{g:Int->Int->Int} (rule:∀(i j:Int)(t u:Tok)(s:Shared)(Q:Value->Shared->Prop)(E:Value->Shared->Prop),Q (.int (g i j) s.toks) {s with toks:=s.toks+1}->wpAny (model X.prog X.w) X.A (f (.int i t) (.int j u)) Q E s):cj X f (hV λi j=>.int (g i j)):=by
 intro pins s σ H x y v u Q I rx ry h;obtain⟨i,j,rfl,rfl,q⟩:=h;obtain⟨t,rfl⟩:=rx;obtain⟨t',rfl⟩:=ry;exact rule i j t t' s _ _ ⟨.int (g i j),H,I.tok _,⟨_,rfl⟩,q⟩
theorem vv{f:Value->Value->Sem Value}{g:Int->Int->Bool} (rule:∀(i j:Int)(t u:Tok)(s:Shared)(Q:Value->Shared->Prop)(E:Value->Shared->Prop),Q (.bool (g i j)) s->wpAny (model X.prog X.w) X.A (f (.int i t) (.int j u)) Q E s):cj X f (hV λi j=>.bl (g i j)):=by
 intro pins s σ H x y v u Q I rx ry h;obtain⟨i,j,rfl,rfl,q⟩:=h;obtain⟨t,rfl⟩:=rx;obtain⟨t',rfl⟩:=ry;exact rule i j t t' s _ _ ⟨.bl (g i j),H,I,rfl,q⟩
def SU(i j:Int):Prop:=0<=j/\j<=1000000/\i.natAbs<2^64
def zF(i j:Int):Prop:=(-(2^64)<i/\i<2^64)\/(-(2^64)<j/\j<2^64)
theorem zF.ok{i j:Int}(h:zF i j):IntMulOk i j:=by
 rcases h with ⟨h1,h2⟩ |⟨h1,h2⟩
 ·exact .of_left (intBits_le_64 h1 h2)
 ·exact .of_right (intBits_le_64 h1 h2)
theorem zG(k:Nat):(0:Int)<=2^k:=by rw[two_pow_cast];exact Int.natCast_nonneg _
theorem ji:cj X (binaryOp .Add) (hV λi j=>.int (i+j)):=rY λ_ _ _ _ _ _ _ q=>add_int q
theorem rZ:cj X (binaryOp .Sub) (hV λi j=>.int (i-j)):=rY λ_ _ _ _ _ _ _ q=>sub_int q
theorem GJ:cj X (binaryOp .Mult) (rI zF λi j=>.int (i*j)):=rX λ_ _ _ _ _ _ _ hc q=>mul_int q hc.ok
theorem GK:cj X (binaryOp .Mod) (rI (λ_ j=>0<j) λi j=>.int (i%j)):=rX λi j _ _ _ _ _ hc q=>by have h1:(0:Int)<j:=hc;exact mod_int' (by omega) (by rw[Int.fmod_eq_emod_of_nonneg i (by omega)];exact q)
theorem GL:cj X (binaryOp .LShift) (rI SU λi j=>.int (i*2^j.toNat)):=rX λ_ _ _ _ _ _ _ hc q=>lshift_int_small hc.1 hc.2.1 hc.2.2 q
theorem SV:cj X (binaryOp .RShift) (rI (λ_ j=>0<=j) λi j=>.int (i/2^j.toNat)):=rX λi j _ _ _ _ _ hc q=>rshift_int hc (by rw[FT i (zG _)];exact q)
theorem r_:cj X (binaryOp .BitAnd) (hV λi j=>.int (Builtin.bitAnd i j)):=rY λ_ _ _ _ _ _ _ q=>and_int q
theorem vw:cj X (binaryOp .BitOr) (hV λi j=>.int (Builtin.bitOr i j)):=rY λ_ _ _ _ _ _ _ q=>or_int q
theorem SW:cj X (binaryOp .BitXor) (hV λi j=>.int (Builtin.bitXor i j)):=rY λ_ _ _ _ _ _ _ q=>xor_int q
theorem GO{f:Value->Sem Value}{g:Int->Int} (rule:∀(i:Int)(t:Tok)(s:Shared)(Q:Value->Shared->Prop)(E:Value->Shared->Prop),Q (.int (g i) s.toks) {s with toks:=s.toks+1}->wpAny (model X.prog X.w) X.A (f (.int i t)) Q E s):vt X f (rU λi=>.int (g i)):=by
 intro pins s σ H x v Q I rx h;obtain⟨i,rfl,q⟩:=h;obtain⟨t,rfl⟩:=rx;exact rule i t s _ _ ⟨.int (g i),H,I.tok _,⟨_,rfl⟩,q⟩
theorem nL:vt X (unaryOp .USub) (rU λi=>.int (-i)):=GO λ_ _ _ _ _ q=>neg_int q
theorem SX:vt X (unaryOp .Invert) (rU λi=>.int (Builtin.bitNot i)):=GO λ_ _ _ _ _ q=>invert_int q
end
def vx:V->V->Bool
 | .au,.au=>true | .au,.int _=>true | .int _,.au=>true | .au,.bl _=>true | .bl _,.au=>true | .au,.str _=>true | .str _,.au=>true
 | .int _,.int _=>true | .bl _,.bl _=>true | .str _,.str _=>true | .gA _,.gA _=>true
 | .int _,.str _=>true | .str _,.int _=>true | .bl _,.str _=>true | .str _,.bl _=>true
 |_,_=>false
def zH:R2:=λx y H Q=>vx x y=true/\Q (.bl (decide (x=y))) H
def GP:R2:=λx y H Q=>vx x y=true/\Q (.bl (!decide (x=y))) H
theorem GQ{i j:Int}:decide (V.int i=V.int j)=(i==j):=by rw[f9];simp
theorem GR{i j:Bool}:decide (V.bl i=V.bl j)=(i==j):=by rw[f9];simp
theorem GS{i j:Str}:decide (V.str i=V.str j)=(i==j):=by rw[f9];simp
theorem GU{i j:Array UInt8}:decide (V.gA i=V.gA j)=(i.toList==j.toList):=by rw[f9];cases i;cases j;simp
section
variable{X:Cx}{a b c:Expr}{ta tb tc:TE}{pos:Pos}
theorem cM{pins:List (Addr×Obj)}{σ:St}{H:Hp}{s:Shared}{Q:VK}{k k':Bool}(I:Inv X pins σ H s)(q:Q (.bl k) H)(e:k=k'):EP X pins σ Q (.bool k') s:=by subst e;exact⟨.bl k,H,I,rfl,q⟩
theorem bP:cj X (compareOp .Eq) zH:=by
 intro pins s σ H x y v u Q I rx ry h;obtain⟨hs,q⟩:=h;cases x with
 |au=>
  cases rx;cases y with
  |au=>cases ry;exact PySem.EqNone.eq_none_none (cM I q (by simp))
  |bl j=>cases ry;exact PySem.EqNone.eq_none_bool (cM I q (by simp))
  |int j=>obtain⟨t',rfl⟩:=ry;exact PySem.EqNone.eq_none_int (cM I q (by simp))
  |str j=>obtain⟨t',rfl⟩:=ry;exact PySem.EqNone.eq_none_str (cM I q (by simp))
  |_=>exact absurd (show false=true from hs) cY
 |bl i=>
  cases rx;cases y with
  |au=>cases ry;exact PySem.EqNone.eq_bool_none (cM I q (by simp))
  |bl j=>cases ry;exact eq_bool (cM I q GR)
  |str j=>obtain⟨t',rfl⟩:=ry;exact PySem.EqMixed.eq_bool_str (cM I q (by simp))
  |_=>exact absurd (show false=true from hs) cY
 |int i=>
  obtain⟨t,rfl⟩:=rx;cases y with
  |au=>cases ry;exact PySem.EqNone.eq_int_none (cM I q (by simp))
  |int j=>obtain⟨t',rfl⟩:=ry;exact eq_int (cM I q GQ)
  |str j=>obtain⟨t',rfl⟩:=ry;exact PySem.EqMixed.eq_int_str (cM I q (by simp))
  |_=>exact absurd (show false=true from hs) cY
 |str i=>
  obtain⟨t,rfl⟩:=rx;cases y with
  |au=>cases ry;exact PySem.EqNone.eq_str_none (cM I q (by simp))
  |bl j=>cases ry;exact PySem.EqMixed.eq_str_bool (cM I q (by simp))
  |int j=>obtain⟨t',rfl⟩:=ry;exact PySem.EqMixed.eq_str_int (cM I q (by simp))
  |str j=>obtain⟨t',rfl⟩:=ry;exact eq_str (cM I q GS)
  |_=>exact absurd (show false=true from hs) cY
 |gA i=>
  obtain⟨t,rfl⟩:=rx;cases y with
  |gA j=>obtain⟨t',rfl⟩:=ry;exact PySem.W.eq_bytes (cM I q GU)
  |_=>exact absurd (show false=true from hs) cY
 |_=>cases y<;>exact absurd (show false=true from hs) cY
theorem vy:cj X (compareOp .NotEq) GP:=by
 intro pins s σ H x y v u Q I rx ry h;obtain⟨hs,q⟩:=h;cases x with
 |au=>
  cases rx;cases y with
  |au=>cases ry;exact PySem.EqNone.ne_none_none (cM I q (by simp))
  |bl j=>cases ry;exact PySem.EqNone.ne_none_bool (cM I q (by simp))
  |int j=>obtain⟨t',rfl⟩:=ry;exact PySem.EqNone.ne_none_int (cM I q (by simp))
  |str j=>obtain⟨t',rfl⟩:=ry;exact PySem.EqNone.ne_none_str (cM I q (by simp))
  |_=>exact absurd (show false=true from hs) cY
 |bl i=>
  cases rx;cases y with
  |au=>cases ry;exact PySem.EqNone.ne_bool_none (cM I q (by simp))
  |bl j=>cases ry;exact ne_bool (cM I q (f7 not GR))
  |str j=>obtain⟨t',rfl⟩:=ry;exact PySem.EqMixed.ne_bool_str (cM I q (by simp))
  |_=>exact absurd (show false=true from hs) cY
 |int i=>
  obtain⟨t,rfl⟩:=rx;cases y with
  |au=>cases ry;exact PySem.EqNone.ne_int_none (cM I q (by simp))
  |int j=>obtain⟨t',rfl⟩:=ry;exact ne_int (cM I q (f7 not GQ))
  |str j=>obtain⟨t',rfl⟩:=ry;exact PySem.EqMixed.ne_int_str (cM I q (by simp))
  |_=>exact absurd (show false=true from hs) cY
 |str i=>
  obtain⟨t,rfl⟩:=rx;cases y with
  |au=>cases ry;exact PySem.EqNone.ne_str_none (cM I q (by simp))
  |bl j=>cases ry;exact PySem.EqMixed.ne_str_bool (cM I q (by simp))
  |int j=>obtain⟨t',rfl⟩:=ry;exact PySem.EqMixed.ne_str_int (cM I q (by simp))
  |str j=>obtain⟨t',rfl⟩:=ry;exact ne_str (cM I q (f7 not GS))
  |_=>exact absurd (show false=true from hs) cY
 |gA i=>
  obtain⟨t,rfl⟩:=rx;cases y with
  |gA j=>obtain⟨t',rfl⟩:=ry;exact PySem.W.ne_bytes (cM I q (f7 not GU))
  |_=>exact absurd (show false=true from hs) cY
 |_=>cases y<;>exact absurd (show false=true from hs) cY
theorem mr:cj X (compareOp .Lt) (hV λi j=>.bl (decide (i<j))):=vv λ_ _ _ _ _ _ _ q=>lt_int q
theorem nM:cj X (compareOp .LtE) (hV λi j=>.bl (decide (i<=j))):=vv λ_ _ _ _ _ _ _ q=>le_int q
theorem ql:cj X (compareOp .Gt) (hV λi j=>.bl (decide (j<i))):=vv λ_ _ _ _ _ _ _ q=>gt_int q
theorem S0:cj X (compareOp .GtE) (hV λi j=>.bl (decide (j<=i))):=vv λ_ _ _ _ _ _ _ q=>ge_int q
theorem aY(b:Expr){op:CmpOp}(h:op≠ .In:=by decide)(h2:op≠ .NotIn:=by decide):behindInMarks op b=false:=by
 have e1:(op==CmpOp.In)=false:=by cases op<;>first |rfl |exact absurd rfl h
 have e2:(op==CmpOp.NotIn)=false:=by cases op<;>first |rfl |exact absurd rfl h2
 cases b<;>simp[behindInMarks,e1,e2]
theorem qm{op:CmpOp}{r:R2}(ho:cj X (compareOp op) r)(ha:PE X a ta)(hb:PE X b tb)(hm:behindInMarks op b=false):PE X (.Compare a [op] [b] pos) (gG r ta tb):=by intro pins s σ H Q I h;exact wpAny_Compare1 (zE ha hb I h λv u s2 x y H2 I2 rx ry q=>ho pins s2 σ H2 x y v u Q I2 rx ry q) hm
inductive GV(Q:(Bool->Hp->Prop))(x:V)(H':Hp):Prop
 |mk k:x=.bl k->Q k H'->GV Q x H'
def nN(t:TE):TT:=λσ H Q=>t σ H λx H'=>GV Q x H'
theorem aX{op:CmpOp}{r:R2}(ho:cj X (compareOp op) r)(ha:PE X a ta)(hb:PE X b tb)(hm:behindInMarks op b=false):PT X (.Compare a [op] [b] pos) (nN (gG r ta tb)):=by
 intro pins s σ H Q I h;refine wpAny_isTrue_Compare1 (aF (ha pins s σ H _ I h) λv s1 ⟨x,H1,I1,r1,q1⟩=>aF (hb pins s1 σ H1 _ I1 q1) λu s2 ⟨y,H2,I2,r2,q2⟩=>aF (ho pins s2 σ H2 x y v u _ I2 r1 r2 q2) λc s3 ⟨z,H3,I3,r3,k,e,q3⟩=>?_) hm
 subst e;cases r3;exact m9 ⟨H3,I3,q3⟩
inductive GW(r':R2)(tc:TE)(σ:St)(Q:VK)(y:V)(z:V)(H3:Hp):Prop
 |mk k:z=.bl k->((if k=true then tc σ H3 λw' H4=>r' y w' H4 Q else Q (.bl false) H3))->GW r' tc σ Q y z H3
def GX(r r':R2)(ta tb tc:TE):TE:=λσ H Q=>ta σ H λx H1=>tb σ H1 λy H2=>r x y H2 λz H3=>GW r' tc σ Q y z H3
theorem GY{op op':CmpOp}{r r':R2}(ho:cj X (compareOp op) r)(ho':cj X (compareOp op') r')(ha:PE X a ta)(hb:PE X b tb)(hc:PE X c tc) (hm:lastMarks [op,op'] [b,c]=false:=by with_unfolding_all rfl):PE X (.Compare a [op,op'] [b,c] pos) (GX r r' ta tb tc):=by
 intro pins s σ H Q I h;refine Compare_chain (aF (ha pins s σ H _ I h) λv s1 ⟨x,H1,I1,r1,q1⟩=>chain_link (aF (hb pins s1 σ H1 _ I1 q1) λu s2 ⟨y,H2,I2,r2,q2⟩=>aF (ho pins s2 σ H2 x y v u _ I2 r1 r2 q2) λd s3 ⟨z,H3,I3,r3,k,e,q3⟩=>?_)) hm
 subst e;cases r3;refine m9 ?_;cases k with
 |false=>exact ite_ff ⟨.bl false,H3,I3,rfl,q3⟩
 |true=>exact ite_tt (chain_last (aF (hc pins s3 σ H3 _ I3 q3) λw' s4 ⟨z',H4,I4,r4,q4⟩=>ho' pins s4 σ H4 y z' u w' Q I4 r2 r4 q4))
theorem GZ{op op':CmpOp}{r r':R2}(ho:cj X (compareOp op) r)(ho':cj X (compareOp op') r')(ha:PE X a ta)(hb:PE X b tb)(hc:PE X c tc) (hm:lastMarks [op,op'] [b,c]=false:=by with_unfolding_all rfl):PT X (.Compare a [op,op'] [b,c] pos) (nN (GX r r' ta tb tc)):=by
 intro pins s σ H Q I h;refine isTrue_chain (aF (ha pins s σ H _ I h) λv s1 ⟨x,H1,I1,r1,q1⟩=>test_link (aF (hb pins s1 σ H1 _ I1 q1) λu s2 ⟨y,H2,I2,r2,q2⟩=>aF (ho pins s2 σ H2 x y v u _ I2 r1 r2 q2) λd s3 ⟨z,H3,I3,r3,k,e,q3⟩=>?_)) hm
 subst e;cases r3;refine m9 ?_;cases k with
 |false=>obtain⟨k',e',q'⟩:=q3;cases e';exact ite_ff ⟨H3,I3,q'⟩
 |true=>refine ite_tt (test_last (aF (hc pins s3 σ H3 _ I3 q3) λw' s4 ⟨z',H4,I4,r4,q4⟩=>aF (ho' pins s4 σ H4 y z' u w' _ I4 r2 r4 q4) λd' s5 ⟨z2,H5,I5,r5,k2,e2,q5⟩=>?_));subst e2;cases r5;exact m9 ⟨H5,I5,q5⟩
theorem vz:(sizeLine:Nat)<2^63:=by rw[bg];decide
theorem vals1{x:V}{us:List Value}(r:Vals [x] us):∃u,us=[u]/\RelV x u:=by
 cases r with
 |cons r1 r2=>cases r2;exact⟨_,rfl,r1⟩
theorem vals2{x y:V}{us:List Value}(r:Vals [x,y] us):∃u w',us=[u,w']/\RelV x u/\RelV y w':=by
 cases r with
 |cons r1 r2=>
  cases r2 with
  |cons r3 r4=>cases r4;exact⟨_,_,rfl,r1,r3⟩
theorem vA:g_ X (.builtin "abs") (λxs H Q=>∃i,xs=[.int i]/\Q (.int (if i<0 then-i else i)) H):=by intro pins s σ H xs us Q I r h;obtain⟨i,rfl,q⟩:=h;obtain⟨u,rfl,t,rfl⟩:=vals1 r;exact call_abs_int λu tk=>⟨.int (if i<0 then-i else i),H,I.tok _,⟨_,rfl⟩,q⟩
theorem S1:g_ X (.type "str") (λxs H Q=>∃i,xs=[.int i]/\i.natAbs.log2<1920/\Q (.str (toString i)) H):=by intro pins s σ H xs us Q I r h;obtain⟨i,rfl,hz,q⟩:=h;obtain⟨u,rfl,t,rfl⟩:=vals1 r;exact PySem.P.str_of_int hz ⟨.str _,H,I.tok _,⟨_,rfl⟩,q⟩
theorem S2:g_ X (.builtin "ord") (λxs H Q=>∃x,xs=[.str x]/\x.length=1/\Q (.int (x.cps.getD 0 0:Nat)) H):=by intro pins s σ H xs us Q I r h;obtain⟨x,rfl,hz,q⟩:=h;obtain⟨u,rfl,t,rfl⟩:=vals1 r;exact ord_of_one hz ⟨.int _,H,I.tok _,⟨_,rfl⟩,q⟩
end
structure nO(h:Heap)(x dx C:Addr)(mA:Str->Option Value):Prop where
 obj:h.get? x=some (instObj C dx)
 ns:h.Ns1 dx mA
 ne:dx≠x
theorem S3{h:Heap}{dx:Addr}{mA:Str->Option Value}(n:h.Ns1 dx mA):∃od,h.get? dx=some od/\∀name,lookIn name od=some (mA name):=by
 obtain⟨o,es,ep,ho,hd,hk,_,hm⟩:=n;refine⟨o,ho,λname=>?_⟩;have e:=hm name;unfold nsFind findBy at e;rw[<-Array.find?_toList]at e;unfold lookIn;rw[hd];dsimp only;split
 ·rename_i y q
  rw[q]at e;exact f7 some e
 ·rename_i q
  rw[q]at e;have a:es.toList.any (·.refKey)=false:=by rw[List.any_eq_false];intro y hy;obtain⟨z,t,hkey⟩:=hk y (Array.mem_toList_iff.mp hy);simp[DictEntry.refKey,hkey]
  have a':¬es.toList.any (·.refKey)=true:=by rw[a];exact cY
  rw[ah a'];exact f7 some e
theorem nO.look{h:Heap}{x dx C:Addr}{mA:Str->Option Value}(I:nO h x dx C mA):∃od,PySem.W.InstAt h x (instObj C dx) C (some od)/\∀name,lookIn name od=some (mA name):=let ⟨od,ho,hl⟩:=S3 I.ns
 ⟨od,⟨I.obj,rfl,rfl,ho⟩,hl⟩
section
variable{prog:Program}{w:World}{A:Around}{E:Value->Shared->Prop}{s:Shared}{K:ax}{x dx C f:Addr}{mA:Str->Option Value}{name:Str}{v:Value}
theorem abX{expr:Bool}{Q:Value->Shared->Prop}(X:K.In s.heap)(I:nO s.heap x dx C mA)(hg:plainGet K C name=true)(hh:hasDictIn K C=true) (ha:findIn K (.ref C) name=some none)(hv:mA name=some v)(hv':PySem.W.handedIn v=true)(h:Q v {s with toks:=s.toks+1}):wpAny (model prog w) A (getAttr (.ref x) name expr) Q E s:=by
 obtain⟨od,J,hl⟩:=I.look;exact PySem.W.get_value X J (Ru hg).1 (PySem.W.findObj_own hh ha rfl (by rw[hl,hv])) hv' h
theorem S4{pl:Sem Bool}{Q:Value×List Value->Shared->Prop}(X:K.In s.heap)(I:nO s.heap x dx C mA)(hg:plainGet K C name=true) (hf:findIn K (.ref C) name=some (some (.ref f)))(ht:isFn K (.ref f)=true)(hv:mA name=none)(h:Q (.ref f,[.ref x]) s):wpAny (model prog w) A (getMethod (.ref x) name pl) Q E s:=by
 obtain⟨od,J,hl⟩:=I.look;exact PySem.W.method_fn X J (Ru hg).1 (Ru hg).2 hf (jX.mp ht) (by show(lookIn name od).map (·.isSome)=some false;rw[hl,hv];rfl) h
theorem S5{ns:List Str}{Q:Unit->Shared->Prop}(X:K.In s.heap)(I:nO s.heap x dx C mA) (hs:findIn K (.ref C) "__setattr__"=some (some (.builtin "object.__setattr__")))(hp:PySem.W.plainOver K C=true)(ht:takerIn K C name=some none)(hh:hasDictIn K C=true) (hw:PySem.Within mA ns)(hsz:ns.length<=sizeLine) (h:∀h',nO h' x dx C (λy=>if y=name then some v else mA y)->Heap.SameBut dx s.heap h'->Q () {s with heap:=h',toks:=s.toks+2}):wpAny (model prog w) A (setAttr (.ref x) name v) Q E s:=by
 obtain⟨od,J,hl⟩:=I.look;refine PySem.W.set_plain X J hs (PySem.W.osa_open (s:= {s with toks:=s.toks+1}) (r:=none) X J hp ht λb=>?_);obtain⟨cd,hc,hd'⟩:=PySem.W.any_some hh;have hx:s.heap.get? x=some ⟨.ref C,some dx,.plain, #[]⟩:=I.obj;refine ag (az (ag (ag (wpAny_loadPart hx (ag (PySem.W.Looks.here (s:= {s with toks:=s.toks+1}) (PySem.W.looks_clsIn X hc) ?_))))));rw[hd'];refine az (a:=some dx) (ag (az (ag ?_)));refine wpAny_nsSet1 (s:= {s with toks:=s.toks+1}) I.ns λh' hn2 hs2=>?_
 obtain⟨oD,esD,epD,zI,zJ,zK⟩:=hn2.count (PySem.Within.cons name v hw);refine ag (wpAny_lookBehind zI (by rw[zJ];exact pastItsLine_dict (bE zK (by rw[b6];omega))) ?_);exact az (h _ ⟨(hs2.2 _ (cu I.ne)).trans I.obj,hn2,I.ne⟩ hs2)
theorem G4{R:Result->Shared->Prop}{vs:List Value}{kw:List (Str×Value)}(X:K.In s.heap)(hm:PySem.W.makesIn K C=true) (hi:findIn K (.ref C) "__init__"=some (some (.ref f)))(hf:PySem.W.typeIn K (.ref f)=some (.type "function")) (h:codeAny (model prog w) (A.under (.builtin "type.__call__" ⟨.ref C::vs,kw⟩)) (.call (.ref f) ⟨.ref (s.heap.objs.size+1)::vs,kw⟩) (PySem.W.InitBack (s.heap.objs.size+1) R) {s with heap:=(s.heap.push emptyDict).push (instObj C s.heap.objs.size)}):codeAny (model prog w) A (.call (.ref C) ⟨vs,kw⟩) R s:=by
 obtain⟨hh,g,d,t,os⟩:=s;exact PySem.W.make_core (PySem.W.makes_of X hm) (PySem.W.looks_findIn X hi) (λself=>PySem.W.bind_fn X self hf) (.inl rfl) h
end
def bz(f:Str)(v:V):List (Str×V)->List (Str×V)
 |[]=>[(f,v)]
 |(g,x)::r=>if g=f then (g,v)::r else (g,x)::bz f v r
theorem dD(f g:Str)(v:V):∀fs:List (Str×V),(bz f v fs).lookup g=if g=f then some v else fs.lookup g
 |[]=>by
  show List.lookup g [(f,v)]=_;by_cases h:g=f
  ·have hb:(g==f)=true:=jX.mpr h;simp only[List.lookup,hb,ai h]
  ·have hb:(g==f)=false:=m7.mpr h;simp only[List.lookup,hb,ah h]
 |(k,x)::r=>by
  have ih:=dD f g v r;rw[show bz f v ((k,x)::r)=(if k=f then (k,v)::r else (k,x)::bz f v r) from rfl];by_cases hk:k=f
  ·rw[ai hk];by_cases h:g=k
   ·have hb:(g==k)=true:=jX.mpr h;simp only[List.lookup,hb,ai (h.trans hk)]
   ·have hb:(g==k)=false:=m7.mpr h;simp only[List.lookup,hb,ah (λe:g=f=>h (e.trans hk.symm))]
  ·rw[ah hk];by_cases h:g=k
   ·have hb:(g==k)=true:=jX.mpr h;simp only[List.lookup,hb,ah (λe:g=f=>hk (h.symm.trans e))]
   ·have hb:(g==k)=false:=m7.mpr h;simp only[List.lookup,hb];exact ih
theorem zL(f:Str)(v:V):∀fs:List (Str×V),f∈(bz f v fs).map (·.1)/\∀g,g∈fs.map (·.1)->g∈(bz f v fs).map (·.1)
 |[]=>⟨by simp[bz],λg h=>by simp at h⟩
 |(k,x)::r=>by
  obtain⟨i1,i2⟩:=zL f v r;rw[show bz f v ((k,x)::r)=(if k=f then (k,v)::r else (k,x)::bz f v r) from rfl];by_cases hk:k=f
  ·rw[ai hk];subst hk;exact⟨by simp,λg h=>by simpa using h⟩
  ·rw[ah hk];refine⟨?_,λg h=>?_⟩
   ·rw[bt];exact bQ _ i1
   ·rw[bt]at h ⊢;rcases a6.mp h with e |e
    ·exact a6.mpr (.inl e)
    ·exact bQ _ (i2 g e)
theorem G5(f:Str)(v:V):∀fs:List (Str×V),(bz f v fs).length<=fs.length+1
 |[]=>by simp[bz]
 |(k,x)::r=>by
  have ih:=G5 f v r;rw[show bz f v ((k,x)::r)=(if k=f then (k,v)::r else (k,x)::bz f v r) from rfl];by_cases hk:k=f
  ·rw[ai hk,b6,b6];omega
  ·rw[ah hk,b6,b6];omega
theorem ff.some_of{v:V}{o:Option Value}(r:ff (some v) o):∃u,o=some u/\RelV v u:=by
 cases o with
 |none=>exact(show False from r).elim
 |some u=>exact⟨u,rfl,r⟩
theorem ff.none_of{o:Option Value}(r:ff none o):o=none:=by
 cases o with
 |none=>rfl
 |some u=>exact(show False from r).elim
theorem S6{v:V}{u:Value}(r:RelV v u):PySem.W.handedIn u=true:=by
 cases v with
 |au=>cases(show u=Value.none from r);rfl
 |bl b=>cases(show u=Value.bool b from r);rfl
 |int i=>obtain⟨t,e⟩:=(show ∃t,u=Value.int i t from r);cases e;rfl
 |str x=>obtain⟨t,e⟩:=(show ∃t,u=Value.str x t from r);cases e;rfl
 |gA b=>obtain⟨t,e⟩:=(show ∃t,u=Value.bytes b t from r);cases e;rfl
 |flt b=>obtain⟨t,e⟩:=(show ∃t,u=Value.float b t from r);cases e;rfl
 |ref a=>cases(show u=Value.ref a from r);rfl
 |ty n=>cases(show u=Value.type n from r);rfl
section
variable{P:Program}{w:World}{H H':Hp}{h h':Heap}{a C dx:Addr}{fs fs':List (Str×V)}
theorem zM(hok:cw P w H h)(e:H a=some (.ins C dx fs)):∃mA,nO h a dx C mA/\(∀f,ff (fs.lookup f) (mA f))/\PySem.Within mA (fs.map (·.1))/\fs.length<=1000/\H dx=some (.own a):=by obtain⟨d,z,ne,ob,mA,n,r,q⟩:=(show ck P w H h a (.ins C dx fs) from hok a _ e);exact⟨mA,⟨ob,n,ne⟩,r,q,z,d⟩
end
structure jj(K:ax)(C:Addr):Prop where
 pg:plainGet K C Str.empty=true
 hd:hasDictIn K C=true
 po:PySem.W.plainOver K C=true
 sa:findIn K (.ref C) "__setattr__"=some (some (.builtin "object.__setattr__"))
theorem jj.get{K:ax}{C:Addr}(c:jj K C)(f:Str):plainGet K C f=true:=c.pg
def eE(K:ax)(C:Addr)(f:Str):Prop:=findIn K (.ref C) f=some none
theorem eE.S7{K:ax}{C:Addr}{f:Str}(n:eE K C f):takerIn K C f=some none:=by unfold takerIn;rw[show findIn K (.ref C) f=some none from n];rfl
structure jV(K:ax)(C:Addr)(m:Str)(f:Addr):Prop where
 at_:findIn K (.ref C) m=some (some (.ref f))
 fn:isFn K (.ref f)=true
 kp:keepIn K (.ref f)=true
section
variable{X:Cx}{pins:List (Addr×Obj)}{σ:St}{H:Hp}{s:Shared}{a C dx:Addr}{fs:List (Str×V)}{f:Str}{v:V}{A:Around}{E:Value->Shared->Prop}
theorem S8{b:Bool}{Q:Value->Shared->Prop}(I:Inv X pins σ H s)(e:H a=some (.ins C dx fs))(c:jj X.K C)(n:eE X.K C f)(l:fs.lookup f=some v) (h:∀u s',Inv X pins σ H s'->RelV v u->Q u s'):wpAny (model X.prog X.w) A (getAttr (.ref a) f b) Q E s:=by
 obtain⟨mA,O,r,_,_,_⟩:=zM I.hok e;obtain⟨u,hu,ru⟩:=ff.some_of (v:=v) (o:=mA f) (by rw[<-l];exact r f);exact abX I.bR O (c.get f) c.hd n hu (S6 ru) (h u _ (I.tok _) ru)
theorem G6{m:Str}{g:Addr}{pl:Sem Bool}{Q:Value×List Value->Shared->Prop}(I:Inv X pins σ H s)(e:H a=some (.ins C dx fs))(c:jj X.K C)(k:jV X.K C m g)(l:fs.lookup m=none) (h:Q (.ref g,[.ref a]) s):wpAny (model X.prog X.w) A (getMethod (.ref a) m pl) Q E s:=by
 obtain⟨mA,O,r,_,_,_⟩:=zM I.hok e;have hn:mA m=none:=ff.none_of (by rw[<-l];exact r m);exact S4 I.bR O (c.get m) k.at_ k.fn hn h
theorem S9{y:V}{u:Value}{Q:Unit->Shared->Prop}(I:Inv X pins σ H s)(e:H a=some (.ins C dx fs))(c:jj X.K C)(n:eE X.K C f)(hl:fs.length<1000)(ry:RelV y u) (h:∀s',Inv X pins σ (upd H a (.ins C dx (bz f y fs))) s'->Q () s'):wpAny (model X.prog X.w) A (setAttr (.ref a) f u) Q E s:=by
 obtain⟨mA,O,r,wi,_,ho⟩:=zM I.hok e;have hz:(fs.map (·.1)).length<=sizeLine:=by rw[aK,bg];omega
 refine S5 I.bR O c.sa c.po n.S7 c.hd wi hz λh' O' sb=>h _ ?_
 have hd:∃o,h'.get? dx=some o:=let ⟨o,_,_,e',_⟩:=O'.ns;⟨o,e'⟩
 refine I.write (x:=a) (e:=dx) (by rw[e];exact True.intro) (.inr ho) (λb q hb z=>(sb.2 b hb).trans z) hd ?_;refine⟨by rw[ay O.ne];exact ho,?_,O.ne,O'.obj,_,O'.ns,λg=>?_,λg hg=>?_⟩
 ·have:=G5 f y fs;omega
 ·show ff ((bz f y fs).lookup g) (if g=f then some u else mA g);rw[dD];by_cases q:g=f
  ·rw[ai q,ai q];exact ry
  ·rw[ah q,ah q];exact r g
 ·by_cases q:g=f
  ·rw[q];exact(zL f y fs).1
  ·refine(zL f y fs).2 g (wi g λz=>hg ?_);show(if g=f then some u else mA g)=none;rw[ah q];exact z
theorem Inv.made(I:Inv X pins σ H s):Inv X pins σ (upd (upd H s.heap.objs.size (.own (s.heap.objs.size+1))) (s.heap.objs.size+1) (.ins C s.heap.objs.size [])) {s with heap:=(s.heap.push emptyDict).push (instObj C s.heap.objs.size)}:=by
 have e1:(s.heap.push emptyDict).get? s.heap.objs.size=some emptyDict:=cF s.heap rfl;have e2:((s.heap.push emptyDict).push (instObj C s.heap.objs.size)).get? (s.heap.objs.size+1)=some (instObj C s.heap.objs.size):=by
  have:=cF (s.heap.push emptyDict) (o:=instObj C s.heap.objs.size) rfl
  rwa [eO]at this
 have e3:(s.heap.push emptyDict).Ns s.heap.objs.size (λ_=>none):=⟨emptyDict, #[],_,e1,rfl,(λe he=>absurd he (by simp)),λ_=>rfl⟩;have I1:=I.laid (a:=s.heap.objs.size) (o:=.own (s.heap.objs.size+1)) (h':=s.heap.push emptyDict) (t':=s.toks) (λb u q=>br _ q) (aI _) ⟨_,e1⟩;refine I1.laid (a:=s.heap.objs.size+1) (o:=.ins C s.heap.objs.size []) (t':=s.toks) (λb u q=>br _ q) (nc (eO _ _)) ?_;have ne:s.heap.objs.size≠s.heap.objs.size+1:=bT (uN _);refine⟨by rw[ay ne,aw],b9 _,ne,e2,λ_=>none,(Heap.Ns1.of_empty e3).at λo q=>br _ q,λ_=>True.intro,λy hy=>absurd rfl hy⟩
theorem G7{prog:Program}{w:World}{env:Env}{e:Expr}{f:Str}{pos:Pos}{s:Shared}{Q:Value->Shared->Prop}(hb:attributeBase e f env (eval e env)=eval e env) (h:wpAny (model prog w) A (eval e env) (λo s₁=>wpAny (model prog w) A (getAttr o f true) Q E s₁) E s):wpAny (model prog w) A (eval (.Attribute e f pos) env) Q E s:=Attribute_any_ h (by rw[arm_eval_Attribute,hb])
end
inductive G8(K:ax)(f:Str)(Q:VK)(x:V)(H1:Hp):Prop
 |mk a C dx fs v:x=.ref a->H1 a=some (.ins C dx fs)->jj K C->eE K C f->fs.lookup f=some v->Q v H1->G8 K f Q x H1
def nQ(K:ax)(ta:TE)(f:Str):TE:=λσ H Q=>ta σ H λx H1=>G8 K f Q x H1
inductive G9(K:ax)(f:Str)(D:Ends)(σ:St)(y:V)(x:V)(H2:Hp):Prop
 |mk a C dx fs:x=.ref a->H2 a=some (.ins C dx fs)->jj K C->eE K C f->fs.length<1000->D.nx σ (upd H2 a (.ins C dx (bz f y fs)))->G9 K f D σ y x H2
def S_(K:ax)(ta tv:TE)(f:Str):TS:=λD σ H=>tv σ H λy H1=>ta σ H1 λx H2=>G9 K f D σ y x H2
section
variable{X:Cx}{o e value:Expr}{f:Str}{pos pos' tpos:Pos}{ta tv:TE}
theorem aE(he:PE X e ta)(hb:attributeBase e f X.env (eval e X.env)=eval e X.env):PE X (.Attribute e f pos) (nQ X.K ta f):=by intro pins s σ H Q I h;refine G7 hb (aF (he pins s σ H _ I h) λu s1 ⟨x,H1,I1,rx,a,C,dx,fs,v,ex,ea,c,n,l,q⟩=>?_);subst ex;obtain rfl:u=Value.ref a:=rx;exact S8 I1 ea c n l λu' s2 I2 ru=>⟨v,H1,I2,ru,q⟩
theorem gH(ha:PE X o ta)(hv:PE X value tv)(hs:swapsWith value (some (.Attribute o f pos')) pos.line X.env=pure false):PS X (.Assign [.Attribute o f pos'] value pos) (S_ X.K ta tv f):=by intro pins s σ H D I h;refine plainObj_wpAny_Assign_Attribute (aF (hv pins s σ H _ I h) λu s1 ⟨y,H1,I1,ry,q⟩=>aF (ha pins s1 σ H1 _ I1 q) λov s2 ⟨x,H2,I2,rx,a,C,dx,fs,ex,ea,c,n,l,q2⟩=>?_) hs;subst ex;obtain rfl:ov=Value.ref a:=rx;exact S9 I2 ea c n l ry λs3 I3=>⟨σ,_,I3,q2⟩
end
section
variable{X:Cx}{pins:List (Addr×Obj)}{σ:St}{H:Hp}{s:Shared}{A:Around}{E:Value->Shared->Prop}{Q:Value->Shared->Prop}{c:Value}{b:Bool}
end
structure cA(k:Nat)(A:Around):Prop where
 hd:A.handled=none
 dp:A.depth+3*k+5<recursionLimit
 un:A.units+16*k+200<cLine
theorem cA.mono{j k:Nat}{A:Around}(r:cA k A)(h:j<=k):cA j A:=⟨r.hd,by have:=r.dp;omega,by have:=r.un;omega⟩
theorem cA.deeper{k:Nat}{A:Around}(r:cA (k+1) A)(env:Env):cA k (A.deeper env):=⟨r.hd,by have:=r.dp;show A.depth+1+3*k+5<_;omega,by have:=r.un;show A.units+3+16*k+200<_;omega⟩
theorem Ta{A:Around}{C:Addr}{us:List Value}{kw:List (Str×Value)}:(A.under (.builtin "type.__call__" ⟨.ref C::us,kw⟩)).depth=A.depth+1:=by first |rfl |simp[Around.under,Code.weight,Code.isCreation,Code.isGuard,Code.isCaller,Code.frames,Code.isFrame,guardIds]
theorem Tb{A:Around}{C:Addr}{us:List Value}{kw:List (Str×Value)}:(A.under (.builtin "type.__call__" ⟨.ref C::us,kw⟩)).units=A.units+1:=by first |rfl |simp[Around.under,Code.cUnits,Code.frames,Code.isFrame]
theorem cA.make{k:Nat}{A:Around}(r:cA (k+1) A)(C:Addr)(us:List Value)(kw:List (Str×Value)):cA k (A.under (.builtin "type.__call__" ⟨.ref C::us,kw⟩)):=⟨r.hd,by have:=r.dp;rw[Ta];omega,by have:=r.un;rw[Tb];omega⟩
theorem cA.depth{k:Nat}{A:Around}(r:cA k A):A.depth<recursionLimit:=by have:=r.dp;omega
theorem cA.units{k:Nat}{A:Around}(r:cA k A):A.units+64<cLine:=by have:=r.un;omega
def kc:TA:=λ_ H Q=>Q [] H
def ke(ta:TE)(tr:TA):TA:=λσ H Q=>ta σ H λx H1=>tr σ H1 λxs H2=>Q (x::xs) H2
section
variable{X:Cx}{e:Expr}{es:List Expr}{te:TE}{t:TA}{pos:Pos}
theorem af:PA X [] kc:=λ_ _ _ _ H Q I h=>Calls.spliced_nil ⟨[],H,I,.nil,h⟩
theorem aa(ha:PE X e te)(hr:PA X es t)(hs:starEach (e::es) X.env=(false,eval e X.env)::starEach es X.env:=by rfl):PA X (e::es) (ke te t):=by intro pos pins s σ H Q I h;rw[hs];show wpAny _ _ (spliced ((false,eval e X.env)::backTo pos (starEach es X.env))) _ _ s;refine Calls.spliced_cons (aF (ha pins s σ H _ I h) λu s1 ⟨x,H1,I1,r1,q1⟩=>?_);exact aF (hr pos pins s1 σ H1 _ I1 q1) λus s2 ⟨xs,H2,I2,r2,q2⟩=>⟨x::xs,H2,I2,.cons r1 r2,q2⟩
def Tc(t:TA):TE:=λσ H Q=>t σ H λxs H1=>xs.length<=sizeLine/\∀p,H1 p=none->Q (.ref p) (upd H1 p (.tup xs))
def G_(t:TA):TE:=λσ H Q=>t σ H λxs H1=>xs.length<=sizeLine/\∀p,H1 p=none->Q (.ref p) (upd H1 p (.lst xs))
theorem fM{x1}(h:PA X es t):PE X (.Tuple es x1 pos) (Tc t):=by intro pins s σ H Q I hq;refine wpAny_Tuple_spliced (aF (h pos pins s σ H _ I hq) λus s1 ⟨xs,H1,I1,r,z,q⟩=>⟨by rw[<-r.length];exact z,?_⟩);have hf:H1 s1.heap.objs.size=none:=I1.hok.fresh (aI _);refine⟨.ref s1.heap.objs.size,upd H1 s1.heap.objs.size (.tup xs),I1.laid (t':=s1.toks) (λb u e=>br _ e) (aI _) ?_,rfl,q _ hf⟩;exact⟨z,us,r,⟨_,cF _ rfl,rfl,_,rfl⟩⟩
theorem cD(h:PA X es t):PE X (.List es pos) (G_ t):=by intro pins s σ H Q I hq;refine wpAny_List_spliced (aF (h pos pins s σ H _ I hq) λus s1 ⟨xs,H1,I1,r,z,q⟩=>⟨by rw[<-r.length];exact z,?_⟩);have hf:H1 s1.heap.objs.size=none:=I1.hok.fresh (aI _);refine⟨.ref s1.heap.objs.size,upd H1 s1.heap.objs.size (.lst xs),I1.laid (t':=s1.toks) (λb u e=>br _ e) (aI _) ?_,rfl,q _ hf⟩;exact⟨z,us,0,r,cF _ rfl⟩
end
abbrev Sp:=List V->Hp->VK->XK->Prop
abbrev jI:=List Env->Hp->Shared->XK->Value->Shared->Prop
structure nR(P:Program)(w:World)(K:ax)(mg:Str->Option Value)(base:Heap)(A:Around)(outer:List Env)(s:Shared)(H:Hp):Prop where
 frames:A.frames=some outer
 mod:Mod K mg base
 bs:∀b o,base.get? b=some o->s.heap.get? b=some o/\H b=none
 iG:base.objs.size<=s.heap.objs.size
 fK:s.heap.FunFrames base outer
 jD:∀b∈frs outer,H b=none
 hok:cw P w H s.heap
 bare:AllBare s.gens
def CE(outer:List Env)(P:Program)(w:World)(H:Hp)(s:Shared)(Q:VK)(u:Value)(s':Shared):Prop:=∃v H',s'.os=s.os/\AllBare s'.gens/\Un (frs outer) [] H H' s.heap s'.heap/\cw P w H' s'.heap/\RelV v u/\Q v H'
def CR(CX:jI)(outer:List Env)(P:Program)(w:World)(H:Hp)(s:Shared)(Q:VK)(E:XK)(r:Result)(s':Shared):Prop:=match r with
 | .ok (.ret u)=>CE outer P w H s Q u s'
 | .ok _=>False
 | .error e=>CX outer H s E e s'
structure aG(P:Program)(w:World)(K:ax)(mg:Str->Option Value)(base:Heap)(CX:jI)(k:Nat)(f:Addr)(fd:FuncData)(ps:List Str)(sp:Sp):Prop where
 len:∀vs H Q E,sp vs H Q E->vs.length=ps.length
 run:∀(A:Around)(outer:List Env)(s:Shared)(H:Hp)(args:Args)(us:List Value)(vs:List V)(Q:VK)(E:XK),cA k A->nR P w K mg base A outer s H->BindsTo s fd args (ps.zip us)->Vals vs us->sp vs H Q E->codeAny (model P w) A (.call (.ref f) args) (CR CX outer P w H s Q E) s
theorem nR.make{P:Program}{w:World}{K:ax}{mg:Str->Option Value}{base:Heap}{A:Around}{outer:List Env}{s:Shared}{H:Hp}(e:nR P w K mg base A outer s H)(C:Addr)(us:List Value)(kw:List (Str×Value)):nR P w K mg base (A.under (.builtin "type.__call__" ⟨.ref C::us,kw⟩)) outer s H:=⟨by first |exact e.frames |(simpa[Around.under,Code.envs,Code.isFrame,pushEnvs]using e.frames),e.mod,e.bs,e.iG,e.fK,e.jD,e.hok,e.bare⟩
section
variable{X:Cx}{pins:List (Addr×Obj)}{σ:St}{H:Hp}{s s':Shared}
theorem Inv.vB(I:Inv X pins σ H s):nR X.prog X.w X.K X.mg X.base X.A X.stack s H:=⟨I.ok.frames,I.ok.mod,I.bs,bE I.ok.iG I.sz,I.stack,I.zq,I.hok,I.bare⟩
theorem Inv.after{Q:VK}{u:Value}(I:Inv X pins σ H s)(h:CE X.stack X.prog X.w H s Q u s'):EP X pins σ Q u s':=by obtain⟨v,H',os,bare,un,hok,r,q⟩:=h;obtain⟨hh,g,d,t,os'⟩:=s';obtain rfl:os'=s.os:=os;exact⟨v,H',I.call (h':=hh) (g':=g) (d':=d) (t':=t) (ch:=[]) un hok bare (λb z=>absurd z (by simp)),r,q⟩
end
def sf(sp:Sp)(dvs:List V)(E:XK)(t:TA):TE:=λσ H Q=>t σ H λvs H1=>sp (vs++dvs) H1 Q E
inductive Hc(C:Addr)(m:Str)(sp:Sp)(dvs:List V)(E:XK)(t:TA)(σ:St)(Q:VK)(x:V)(H1:Hp):Prop
 |mk a dx fs:x=.ref a->H1 a=some (.ins C dx fs)->fs.lookup m=none->(t σ H1 λvs H2=>sp (x::(vs++dvs)) H2 Q E)->Hc C m sp dvs E t σ Q x H1
def Hd(C:Addr)(m:Str)(sp:Sp)(dvs:List V)(E:XK)(ta:TE)(t:TA):TE:=λσ H Q=>ta σ H λx H1=>Hc C m sp dvs E t σ Q x H1
def He(C:Addr)(sp:Sp)(dvs:List V)(E:XK)(t:TA):TE:=λσ H Q=>t σ H λvs H1=>∀x dx,H1 x=none->H1 dx=none->dx≠x->sp (.ref x::(vs++dvs)) (upd (upd H1 dx (.own x)) x (.ins C dx [])) (λv H2=>v=.au/\Q (.ref x) H2) E
def Binds(K:ax)(fd:FuncData)(ps:List Str)(ds:List Value):Prop:=∀(s:Shared)(us:List Value),K.In s.heap->(us++ds).length=ps.length->BindsTo s fd ⟨us,[]⟩ (ps.zip (us++ds))
theorem Binds.all{K:ax}{fd:FuncData}{ps:List Str}(h:∀us:List Value,us.length=ps.length->bindArgs fd ⟨us,[]⟩=pure (ps.zip us)):Binds K fd ps []:=λs us _ hl=>by rw[gk]at hl ⊢;exact .of_eq (h us hl)
def jW(CX:jI)(X:Cx)(E:XK):Prop:=∀(pins:List (Addr×Obj))(σ:St)(H:Hp)(s:Shared)(e:Value)(s':Shared),Inv X pins σ H s->CX X.stack H s E e s'->X.xe e s'
section
variable{X:Cx}{CX:jI}{k:Nat}{f C:Addr}{fd:FuncData}{ps:List Str}{sp:Sp}{dvs:List V}{ds:List Value}{E:XK}{x m:Str}{p pos apos:Pos}{e o:Expr}{es:List Expr}{ta:TE}{t:TA}
theorem vC{pins:List (Addr×Obj)}{σ:St}{H:Hp}{s:Shared}{Q:VK}{us:List Value}{vs:List V}(F:aG X.prog X.w X.K X.mg X.base CX k f fd ps sp)(hr:cA k X.A)(hb:Binds X.K fd ps ds)(hd:Vals dvs ds)(hx:jW CX X E) (I:Inv X pins σ H s)(r:Vals vs us)(h:sp (vs++dvs) H Q E):wpAny (model X.prog X.w) X.A (call (.ref f) us) (EP X pins σ Q) X.xe s:=by
 have r2:Vals (vs++dvs) (us++ds):=r.append hd;have hl:(us++ds).length=ps.length:=by rw[<-r2.length];exact F.len _ _ _ _ h
 refine rC (ng (F.run X.A X.stack s H ⟨us,[]⟩ (us++ds) (vs++dvs) Q E hr I.vB (hb s us I.bR hl) r2 h) λr s' hq=>?_);cases r with
 |error e=>exact hx pins σ H s e s' I hq
 |ok fl=>
  cases fl with
  |ret u=>exact I.after hq
  |next=>exact False.elim hq
  |brk=>exact False.elim hq
  |cont=>exact False.elim hq
theorem aP(F:aG X.prog X.w X.K X.mg X.base CX k f fd ps sp)(hr:cA k X.A)(hg:Gl X x)(hm:X.mg x=some (.ref f))(hk:keepIn X.K (.ref f)=true)(hb:Binds X.K fd ps ds)(hd:Vals dvs ds)(hx:jW CX X E) (ha:PA X (e::es) t)(hdb:(x==("__debug__" :Str))=false:=by decide)(he:starEach (e::es) X.env=(false,eval e X.env)::starEach es X.env:=by rfl)(hpl:(backTo pos (starEach es X.env)).any (·.1)=false:=by rfl):PE X (.Call (.Name x p) (e::es) [] pos) (sf sp dvs E t):=by
 intro pins s σ H Q I h;refine pL (nJ I hg hm ?_ hdb);refine callWith_K (h₀:=X.base) I.ok.mod.j_ hk (aF (ha pos pins s σ H _ I h) λus s1 ⟨vs,H1,I1,r,q⟩=>⟨I1.bR,?_⟩) he hpl;exact vC F hr hb hd hx I1 r q
theorem iL{pl:Sem Bool}(he:PE X o ta)(c:jj X.K C)(hm:jV X.K C m f)(F:aG X.prog X.w X.K X.mg X.base CX k f fd ps sp)(hr:cA k X.A)(hb:Binds X.K fd ps ds)(hd:Vals dvs ds)(hx:jW CX X E)(ha:PA X (e::es) t) (hst:starEach (e::es) X.env=(false,eval e X.env)::starEach es X.env:=by rfl)(hpl:(backTo pos (starEach es X.env)).any (·.1)=false:=by rfl) (ht:eval (.Call (.Attribute o m apos) (e::es) [] pos) X.env=(do
   let ov<-eval o X.env
   standAt apos.atName
   let (f,first)<-holding [ov] (getMethod ov m pl)
   callWith pos f first (backTo pos (starEach (e::es) X.env)) (backToKw pos (keywordEach [] X.env))):=by rfl):
  PE X (.Call (.Attribute o m apos) (e::es) [] pos) (Hd C m sp dvs E ta t):=by
 intro pins s σ H Q I h;refine PySem.W.methodCall_KW (pl:=pl) (aF (he pins s σ H _ I h) λu s1 ⟨x,H1,I1,rx,a,dx,fs,ex,ea,l,q⟩=>?_) ht;subst ex;obtain rfl:u=Value.ref a:=rx;refine G6 I1 ea c hm l ?_;refine callWith_K (first:=[.ref a]) (h₀:=X.base) I.ok.mod.j_ hm.kp (aF (ha pos pins s1 σ H1 _ I1 q) λus s2 ⟨vs,H2,I2,r,q2⟩=>⟨I2.bR,?_⟩) hst hpl;exact vC (us:=.ref a::us) (vs:=.ref a::vs) F hr hb hd hx I2 (.cons rfl r) q2
theorem Td{pl:Sem Bool}(he:PE X o ta)(c:jj X.K C)(hm:jV X.K C m f)(F:aG X.prog X.w X.K X.mg X.base CX k f fd ps sp)(hr:cA k X.A)(hb:Binds X.K fd ps ds)(hd:Vals dvs ds)(hx:jW CX X E) (ht:eval (.Call (.Attribute o m apos) [] [] pos) X.env=(do
   let ov<-eval o X.env
   standAt apos.atName
   let (f,first)<-holding [ov] (getMethod ov m pl)
   callWith pos f first (backTo pos (starEach [] X.env)) (backToKw pos (keywordEach [] X.env))):=by rfl):
  PE X (.Call (.Attribute o m apos) [] [] pos) (Hd C m sp dvs E ta kc):=by
 intro pins s σ H Q I h;refine PySem.W.methodCall_KW (pl:=pl) (aF (he pins s σ H _ I h) λu s1 ⟨x,H1,I1,rx,a,dx,fs,ex,ea,l,q⟩=>?_) ht;subst ex;obtain rfl:u=Value.ref a:=rx;refine G6 I1 ea c hm l ?_;exact PySem.W.callWith_K0 (first:=[.ref a]) I1.bR hm.kp (vC (us:=[.ref a]) (vs:=[.ref a]) F hr hb hd hx I1 (.cons rfl .nil) q)
structure Mk(K:ax)(C f:Addr):Prop where
 makes:PySem.W.makesIn K C=true
 init:findIn K (.ref C) "__init__"=some (some (.ref f))
 fn:isFn K (.ref f)=true
 kp:keepIn K (.ref C)=true
theorem Hf{pins:List (Addr×Obj)}{σ:St}{H:Hp}{s:Shared}{Q:VK}{us:List Value}{vs:List V}(M:Mk X.K C f)(F:aG X.prog X.w X.K X.mg X.base CX k f fd ps sp)(hr:cA (k+1) X.A)(hb:Binds X.K fd ps ds)(hd:Vals dvs ds) (hx:jW CX X E)(I:Inv X pins σ H s)(r:Vals vs us) (h:∀x dx,H x=none->H dx=none->dx≠x->sp (.ref x::(vs++dvs)) (upd (upd H dx (.own x)) x (.ins C dx [])) (λv H2=>v=.au/\Q (.ref x) H2) E):wpAny (model X.prog X.w) X.A (call (.ref C) us) (EP X pins σ Q) X.xe s:=by
 have hq:=h (s.heap.objs.size+1) s.heap.objs.size (I.hok.fresh (l_ _)) (I.hok.fresh (aI _)) (bT (uN _));have I2:=Inv.made (C:=C) I;have r2:Vals (V.ref (s.heap.objs.size+1)::(vs++dvs)) (Value.ref (s.heap.objs.size+1)::(us++ds)):=.cons rfl (r.append hd);have hl:(Value.ref (s.heap.objs.size+1)::us++ds).length=ps.length:=by have e:=r2.length;rw[F.len _ _ _ _ hq]at e;exact e.symm
 refine rC (G4 (f:=f) I.bR M.makes M.init (jX.mp M.fn) (ng (F.run _ X.stack _ _ ⟨Value.ref (s.heap.objs.size+1)::us,[]⟩ (Value.ref (s.heap.objs.size+1)::(us++ds)) _ _ E (hr.make C us []) (I2.vB.make C us []) (hb _ (Value.ref (s.heap.objs.size+1)::us) I2.bR hl) r2 hq) λr s' hq'=>?_))
 cases r with
 |error e=>exact hx pins σ _ _ e s' I2 hq'
 |ok fl=>
  cases fl with
  |ret u=>obtain⟨v,H',I3,rv,ev,q3⟩:=I2.after hq';subst ev;exact⟨rv,⟨V.ref (s.heap.objs.size+1),H',I3,rfl,q3⟩⟩
  |next=>exact False.elim hq'
  |brk=>exact False.elim hq'
  |cont=>exact False.elim hq'
theorem qp(M:Mk X.K C f)(F:aG X.prog X.w X.K X.mg X.base CX k f fd ps sp)(hr:cA (k+1) X.A)(hg:Gl X x)(hm:X.mg x=some (.ref C))(hb:Binds X.K fd ps ds)(hd:Vals dvs ds)(hx:jW CX X E) (ha:PA X (e::es) t)(hdb:(x==("__debug__" :Str))=false:=by decide)(he:starEach (e::es) X.env=(false,eval e X.env)::starEach es X.env:=by rfl)(hpl:(backTo pos (starEach es X.env)).any (·.1)=false:=by rfl):PE X (.Call (.Name x p) (e::es) [] pos) (He C sp dvs E t):=by
 intro pins s σ H Q I h;refine pL (nJ I hg hm ?_ hdb);refine callWith_K (h₀:=X.base) I.ok.mod.j_ M.kp (aF (ha pos pins s σ H _ I h) λus s1 ⟨vs,H1,I1,r,q⟩=>⟨I1.bR,?_⟩) he hpl;exact Hf M F hr hb hd hx I1 r q
theorem Te(M:Mk X.K C f)(F:aG X.prog X.w X.K X.mg X.base CX k f fd ps sp)(hr:cA (k+1) X.A)(hg:Gl X x)(hm:X.mg x=some (.ref C))(hb:Binds X.K fd ps ds)(hd:Vals dvs ds)(hx:jW CX X E) (hdb:(x==("__debug__" :Str))=false:=by decide):PE X (.Call (.Name x p) [] [] pos) (He C sp dvs E kc):=by
 intro pins s σ H Q I h;refine pL (nJ I hg hm ?_ hdb);exact PySem.W.callWith_K0 I.bR M.kp (Hf (us:=[]) M F hr hb hd hx I .nil h)
end
def PK(X:Cx)(kws:List Keyword)(t:TA):Prop:=∀(pos:Pos)(pins:List (Addr×Obj))(s:Shared)(σ:St)(H:Hp)(Q:List V->Hp->Prop),Inv X pins σ H s->t σ H Q->wpAny (model X.prog X.w) X.A (evalAll ((backToKw pos (keywordEach kws X.env)).map (·.2))) (AP X pins σ Q) X.xe s
section
variable{X:Cx}{CX:jI}{k:Nat}{f C:Addr}{fd:FuncData}{ps ks:List Str}{sp:Sp}{E:XK}{x m:Str}{p pos apos kpos:Pos}{e o:Expr}{es:List Expr}{kws:List Keyword}{te ta:TE}{t tk:TA}{nm:Option Str}
theorem lA:PK X [] kc:=λ_ _ _ _ H Q I h=>wpAny_evalAll_nil ⟨[],H,I,.nil,h⟩
theorem h_(ha:PE X e te)(hr:PK X kws t):PK X (⟨nm,e,kpos⟩::kws) (ke te t):=by intro pos pins s σ H Q I h;show wpAny _ _ (evalAll ((do let v<-eval e X.env;standAt pos;pure v)::(backToKw pos (keywordEach kws X.env)).map (·.2))) _ _ s;refine wpAny_evalAll_cons (ag (aF (ha pins s σ H _ I h) λu s1 ⟨x,H1,I1,r1,q1⟩=>ag (uM (az ?_))));exact aF (hr pos pins s1 σ H1 _ I1 q1) λus s2 ⟨xs,H2,I2,r2,q2⟩=>⟨x::xs,H2,I2,.cons r1 r2,q2⟩
structure nU(K:ax)(fd:FuncData)(ps ks:List Str)(g:List Value->List Value->List Value)(gV:List V->List V->List V):Prop where
 to:∀(s:Shared)(us ws:List Value),K.In s.heap->(g us ws).length=ps.length->BindsTo s fd ⟨us,ks.zip ws⟩ (ps.zip (g us ws))
 rel:∀{vs:List V}{us:List Value}{zs:List V}{ws:List Value},Vals vs us->Vals zs ws->Vals (gV vs zs) (g us ws)
variable{g:List Value->List Value->List Value}{gV:List V->List V->List V}
end
structure aQ(N P:List Str)(sc:Scope):Prop where
 kind:sc.kind=.function
 co:sc.isCoroutine=false
 gen:sc.isGenerator=false
 nd:N.Nodup
 pre:N.take P.length=P
 par:∀x∈P,sc.names.lookup x=some .local\/sc.names.lookup x=some .cell
 Tf:∀y∈sc.names,y.2≠ .free
theorem Hg{kindOf:Str->Option NameKind}{x:Str}:∀{binds:List (Str×Value)}{m:Str->Option Value},(∀v,(x,v) ∉ binds)->bindL kindOf binds m x=m x
 |[],_,_=>rfl
 |(n,v)::r,m,h=>by
  unfold bindL;rw[Hg λw hw=>h w (bQ _ hw)];split
  ·have:x≠n:=by rintro rfl;exact h v dN
   simp[this]
  ·rfl
theorem Hi{kindOf:Str->Option NameKind}{x:Str}:∀{binds:List (Str×Value)}{m:Str->Option Value},(∀v,(x,v) ∉ binds)->bindC kindOf binds m x=m x
 |[],_,_=>rfl
 |(n,v)::r,m,h=>by
  unfold bindC;rw[Hi λw hw=>h w (bQ _ hw)];split
  ·rfl
  ·have:x≠n:=by rintro rfl;exact h v dN
   simp[this]
theorem Hj{kindOf:Str->Option NameKind}{x:Str}{v:Value}:∀{P:List Str}{vs:List Value}{i:Nat}{m:Str->Option Value},P.Nodup->P[i]? =some x->vs[i]? =some v->kindOf x=some .local->bindL kindOf (P.zip vs) m x=some v
 |[],_,_,_,_,h,_,_=>by simp at h
 |_::_,[],_,_,_,_,h,_=>by simp at h
 |p::P,w::vs,0,m,nd,h1,h2,hk=>by simp at h1 h2;subst h1;subst h2;show bindL kindOf ((p,w)::P.zip vs) m p=_;unfold bindL;rw[Hg λv hv=>(uO.mp nd).1 (Rv hv).1,ai hk];simp
 |p::P,w::vs,i+1,m,nd,h1,h2,hk=>by show bindL kindOf ((p,w)::P.zip vs) m x=_;unfold bindL;exact Hj (i:=i) (uO.mp nd).2 (by simpa using h1) (by simpa using h2) hk
theorem Hk{kindOf:Str->Option NameKind}{x:Str}{v:Value}:∀{P:List Str}{vs:List Value}{i:Nat}{m:Str->Option Value},P.Nodup->P[i]? =some x->vs[i]? =some v->kindOf x≠some .local->bindC kindOf (P.zip vs) m x=some v
 |[],_,_,_,_,h,_,_=>by simp at h
 |_::_,[],_,_,_,_,h,_=>by simp at h
 |p::P,w::vs,0,m,nd,h1,h2,hk=>by simp at h1 h2;subst h1;subst h2;show bindC kindOf ((p,w)::P.zip vs) m p=_;unfold bindC;rw[Hi λv hv=>(uO.mp nd).1 (Rv hv).1,ah hk];simp
 |p::P,w::vs,i+1,m,nd,h1,h2,hk=>by show bindC kindOf ((p,w)::P.zip vs) m x=_;unfold bindC;exact Hk (i:=i) (uO.mp nd).2 (by simpa using h1) (by simpa using h2) hk
def start(N:List Str)(vs:List V):St:=vs.map some++List.replicate (N.length-vs.length) none
def iM(CX:jI)(P:Program)(w:World)(K:ax)(mg:Str->Option Value)(base:Heap)(N:List Str)(qual:Str)(scope:Scope)(f:Addr)(cd:Value)(A:Around)(outer:List Env)(s:Shared)(H:Hp)(E:XK):Cx where
 prog:=P
 w:=w
 K:=K
 mg:=mg
 base:=base
 A:=A.deeper (envOfC qual scope s.heap.objs.size f cd)
 N:=N
 s₀:=s
 H₀:=H
 env:=envOfC qual scope s.heap.objs.size f cd
 outer:=outer
 stack:=envOfC qual scope s.heap.objs.size f cd::outer
 ex:=[]
 calm:=true
 fn:=λ_=>true
 pn:=[]
 xe:=λe s'=>wpAny (model P w) (A.deeper (envOfC qual scope s.heap.objs.size f cd)) (leaving (envOfC qual scope s.heap.objs.size f cd) e) (λ_ s''=>CX outer H s E e s'') (λe' s''=>CX outer H s E e' s'') s'
theorem Hl{sc:Scope}{n:Nat}{x:Str}(h:sc.names.lookup x=some .cell):∃c,(cellsFrom n sc.names []).lookup x=some c:=by have q:=PySem.W.cellsFrom_some sc.names n [] (.inl h);exact rD.mp q
theorem Tg{CX:jI}{P:Program}{w:World}{K:ax}{mg:Str->Option Value}{base:Heap}{N ps:List Str}{qual:Str}{scope:Scope}{f:Addr}{cd:Value}{A:Around}{outer:List Env}{s s1:Shared}{H:Hp}{E:XK}{us:List Value}{vs:List V} (S:aQ N ps scope)(hd:A.handled=none)(e0:nR P w K mg base A outer s H)(hl:vs.length=ps.length)(r:Vals vs us) (x:InCallC s s.heap.objs.size (bindL (envOfC qual scope s.heap.objs.size f cd).kindOf (ps.zip us) λ_=>none) (cellsFrom (s.heap.objs.size+1) scope.names []) (bindC (envOfC qual scope s.heap.objs.size f cd).kindOf (ps.zip us) λ_=>none) s1):Inv (iM CX P w K mg base N qual scope f cd A outer s H E) [] (start N vs) H s1:=by
 have hpl:ps.length<=N.length:=by have:=f7 List.length S.pre;rw[uP]at this;omega
 obtain⟨h1,tk,rfl,hk⟩:=x.done;have noA:∀b:Addr,b ∉ (iM CX P w K mg base N qual scope f cd A outer s H E).ex:=λb z=>absurd (show b∈([]:List Addr) from z) (by simp)
 refine⟨⟨e0.mod,S.kind,rfl,rfl,aI _,λy z c h1 h2=>?_,λy hy=>?_,λy c _ h=>?_,λ_=>hd,Around.frames_deeper e0.frames,.inr ⟨rfl,rfl⟩,λb z=>absurd z (noA b),e0.bs,e0.iG,λb _ _=>noA b,λb z=>absurd z (noA b),e0.fK,e0.jD⟩,rfl,e0.bare,Un.kept hk,⟨_,x.toInCall.ns,λi y v h1 h2 h3=>?_⟩,λy c h=>⟨_,x.cell y c h⟩,e0.hok.fresh (aI _),λy c h=>?_,λp hp=>absurd (show p∈([]:List (Addr×Obj)) from hp) (by simp),e0.hok.kept hk,?_⟩
 ·exact name_of_addr x.apart (iz h1) (iz h2)
 ·have hy:scope.names.lookup y=some .cell\/scope.names.lookup y=some .free:=hy;rcases hy with hy |hy
  ·exact Hl hy
  ·exact absurd rfl (S.Tf _ (iz hy))
 ·exact pK (x.above y c (iz h))
 ·have hi:i<vs.length:=by
   unfold start at h2;by_cases hi:i<vs.length
   ·exact hi
   ·rw[List.getElem?_append_right (by simpa using hi)]at h2;rw[pM]at h2;split at h2<;>cases h2
  have ha:vs[i]? =some v:=by
   unfold start at h2;rw[List.getElem?_append_left (by simpa using hi),bF]at h2;cases e:vs[i]? with
   |none=>rw[e]at h2;cases h2
   |some a=>rw[e]at h2;cases h2;rfl
  obtain⟨u,hu,rv⟩:=r.get ha;have hp:ps[i]? =some y:=by rw[<-S.pre,List.getElem?_take_of_lt (by omega)];exact h1
  have ndP:ps.Nodup:=by rw[<-S.pre];exact S.nd.sublist (Rw _ _)
  refine⟨u,rv,?_⟩;rcases S.par y (bu hp)with k |k
  ·exact .inl ⟨k,Hj ndP hp hu k⟩
  ·obtain⟨c,e⟩:=Hl (n:=s.heap.objs.size+1) k;refine .inr ⟨.inl k,c,e,?_⟩;have q:=x.cell y c e;rw[Hk ndP hp hu (by show scope.names.lookup y≠_;rw[k];decide)]at q;exact q
 ·exact e0.hok.fresh (pK (x.above y c (iz h)))
 ·unfold start;show _=N.length;rw[bo,aK,rE];omega
theorem zN{CX:jI}{P:Program}{w:World}{K:ax}{mg:Str->Option Value}{base:Heap}{k:Nat}{f:Addr}{name qual:Str}{params:Arguments}{body:List Stmt}{scope:Scope}{dV kV doc pm cdv ct oc:Value}{an od:Option Addr} {osl:Array (Option Value)}{N ps:List Str}{sp:Sp}(lk:K.lookup f=some ⟨oc,od,.func (fnOf name qual params body scope dV kV doc pm an cdv ct),osl⟩)(hcd:codeIn K cdv qual=true)(S:aQ N ps scope) (len:∀vs H Q E,sp vs H Q E->vs.length=ps.length) (hbody:∀(A:Around)(outer:List Env)(s:Shared)(H:Hp)(vs:List V)(Q:VK)(E:XK),cA k (A.deeper (envOfC qual scope s.heap.objs.size f cdv))->sp vs H Q E->∃t,eA (iM CX P w K mg base N qual scope f cdv A outer s H E) body t/\t {nx:=λ_ H'=>Q .au H',rt:=Q} (start N vs) H):aG P w K mg base CX (k+1) f (fnOf name qual params body scope dV kV doc pm an cdv ct) ps sp:=by
 refine⟨len,λA outer s H args us vs Q E hr e0 hb r hsp=>?_⟩;have hl:=len _ _ _ _ hsp;have KX:K.In s.heap:=e0.mod.j_.keeps λb o e=>(e0.bs b o e).1
 have lim:s.heap.NoLimit:=e0.mod.nolimit.keeps λb o e=>(e0.bs b o e).1
 have hkind:∀y∈ps.zip us,scope.names.lookup y.1=some .local\/(scope.names.lookup y.1=some .cell/\((cellsFrom (s.heap.objs.size+1) scope.names []).lookup y.1).isSome=true):=λ⟨n,v⟩ hy=>by
  rcases S.par n (Rv hy).1 with q |q
  ·exact .inl q
  ·exact .inr ⟨q,PySem.W.cellsFrom_some _ _ _ (.inl q)⟩
 refine codeAny_call_function hr.depth (KX _ _ lk) rfl S.co S.gen rfl (PySem.W.codeRec_of KX hcd) (hb _ _ _ _ ?_);refine wpAny_newFunctionEnv_cells S.kind hkind λenv he s1 x=>?_
 subst he;refine⟨lim.keeps x.toInCall.keep,codeAny_func ?_⟩;obtain⟨t,ht,hq⟩:=hbody A outer s H vs Q E (hr.deeper _) hsp;have I:Inv (iM CX P w K mg base N qual scope f cdv A outer s H E) [] (start N vs) H s1:=Tg S hr.hd e0 hl r x;refine dq (ht [] s1 (start N vs) H _ I hq) (λfl s' hs=>?_) λe s' hs=>hs
 have fin:∀{σ':St}{H':Hp}{v:V}{u:Value},Inv (iM CX P w K mg base N qual scope f cdv A outer s H E) [] σ' H' s'->RelV v u->Q v H'->CE outer P w H s Q u s':=
  λ{σ' H' v u} J rv q=>⟨v,H',J.os,J.bare,J.base,J.hok,rv,q⟩
 cases fl with
 |ret u=>obtain⟨v,σ',H',J,rv,q⟩:=hs;exact fin J rv q
 |next=>obtain⟨σ',H',J,q⟩:=hs;exact fin (v:=V.au) (u:=Value.none) J rfl q
 |brk=>obtain⟨_,_,_,q⟩:=hs;exact False.elim q
 |cont=>obtain⟨_,_,_,q⟩:=hs;exact False.elim q
section
variable{X:Cx}{x:Str}{p pos:Pos}{e:Expr}{es:List Expr}{t:TA}{id T:String}{r:List V->Hp->VK->Prop}
def Hm(r:List V->Hp->VK->Prop)(t:TA):TE:=λσ H Q=>t σ H λvs H1=>r vs H1 Q
theorem cp(hc:g_ X (.builtin id) r)(hg:Gl X x)(hm:X.mg x=none)(hv:bootBuiltins x=some (.builtin id))(ha:PA X (e::es) t)(hn:x≠ "__name__":=by decide)(hdb:(x==("__debug__" :Str))=false:=by decide) (he:starEach (e::es) X.env=(false,eval e X.env)::starEach es X.env:=by rfl)(hpl:(backTo pos (starEach es X.env)).any (·.1)=false:=by rfl):PE X (.Call (.Name x p) (e::es) [] pos) (Hm r t):=by
 intro pins s σ H Q I h;refine pL (qd I hg hm hv ?_ hn hdb);exact PyProof.Rows.callWith_builtin1 (aF (ha pos pins s σ H _ I h) λus s1 ⟨vs,H1,I1,r1,q1⟩=>hc pins s1 σ H1 vs us Q I1 r1 q1) he hpl
theorem mw(hc:g_ X (.type T) r)(hg:Gl X x)(hm:X.mg x=none)(hv:bootBuiltins x=some (.type T))(ha:PA X (e::es) t)(hn:x≠ "__name__":=by decide)(hdb:(x==("__debug__" :Str))=false:=by decide) (he:starEach (e::es) X.env=(false,eval e X.env)::starEach es X.env:=by rfl)(hpl:(backTo pos (starEach es X.env)).any (·.1)=false:=by rfl):PE X (.Call (.Name x p) (e::es) [] pos) (Hm r t):=by
 intro pins s σ H Q I h;refine pL (qd I hg hm hv ?_ hn hdb);exact y9 (aF (ha pos pins s σ H _ I h) λus s1 ⟨vs,H1,I1,r1,q1⟩=>hc pins s1 σ H1 vs us Q I1 r1 q1) he hpl
end
end L2
namespace HT
open PySem PyProof.Rows
section
open PySem.SeqAt
open PySem.AutoSeq1 (wpAny_loadPart')
open PySem.MeetsSeq PySem.MeetsSeq2 PySem.MeetsSeq3
end
section
variable{prog:Program}{w:World}{A:Around}{E:Value->Shared->Prop}{s:Shared}
def bj(n d:Nat):Option Int->Nat
 |none=>d
 |some v=>if v<0 then (v+(n:Int)).toNat else min v.toNat n
theorem Th(n d:Nat):bj n d none=d:=rfl
theorem Ti(n d k:Nat):bj n d (some (k:Int))=min k n:=by show(if (k:Int)<0 then ((k:Int)+(n:Int)).toNat else min (k:Int).toNat n)=min k n;rw[ah (by omega),y_]
theorem Tj(n d:Nat)(hd:d<=n)(o:Option Int):bj n d o<=n:=by
 cases o with
 |none=>exact hd
 |some v=>
  show(if v<0 then (v+(n:Int)).toNat else min v.toNat n)<=n;by_cases hv:v<0
  ·rw[ai hv];omega
  ·rw[ah hv];exact Nat.min_le_right _ _
theorem Hn(v:Int)(n d:Nat):(if v<0 then max (v+(n:Int)) 0 else min v (n:Int))=((bj n d (some v):Nat):Int):=by
 show(if v<0 then max (v+(n:Int)) 0 else min v (n:Int))=(((if v<0 then (v+(n:Int)).toNat else min v.toNat n):Nat):Int);by_cases hv:v<0
 ·simp only[ai hv];omega
 ·simp only[ah hv];omega
theorem Tn(lo hi:Option Int)(n:Nat):Builtin.Slice.sliceAdjust lo hi 1 (n:Int)=(((bj n 0 lo:Nat):Int),((bj n n hi:Nat):Int)):=by
 have h1:¬((1:Int)<0):=by omega
 unfold Builtin.Slice.sliceAdjust;simp only[h1,jY];refine Prod.ext ?_ ?_
 ·cases lo with
  |none=>rfl
  |some v=>exact Hn v n 0
 ·cases hi with
  |none=>rfl
  |some v=>exact Hn v n n
theorem To(i j:Nat):Builtin.Slice.slicePlaces (i:Int) (j:Int) 1=j-i:=by
 unfold Builtin.Slice.slicePlaces;have h1:(1:Int)>0:=by omega
 simp only[h1,rF,Int.ediv_one];split<;>omega
theorem Ho{v:Value}{o:Option Int}{Q:Option Int->Shared->Prop}(p:IsPart v o)(h:Q o s):wpAny (model prog w) A (Builtin.Slice.slicePartIndex v) Q E s:=by
 cases p with
 |none=>exact slicePart_none h
 |int i t=>exact slicePart_int h
theorem Tp{sl:Addr}{vl vu:Value}{lo hi:Option Int}{n:Nat}{Q:Int×Int×Nat->Shared->Prop}(hs:s.heap.IsSliceOf sl vl vu .none)(pl:IsPart vl lo)(pu:IsPart vu hi) (h:Q (((bj n 0 lo:Nat):Int),1,bj n n hi-bj n 0 lo) s):wpAny (model prog w) A (Builtin.Slice.sliceApplied (.ref sl) (pure (n:Int))) Q E s:=by
 obtain⟨os,hos,hcs,hds⟩:=id hs;unfold Builtin.Slice.sliceApplied Builtin.Slice.sliceFields;refine ag (ag (pN hos hds (x:=vl) rfl (ag (pN hos hds (x:=vu) rfl (ag (pN hos hds (x:=.none) rfl (az ?_)))))));refine ag (slicePart_none ?_);show wpAny _ _ (if ((1:Int)==0)=true then _ else _) _ _ s;rw[ah (by decide)];refine ag (Ho pl (ag (Ho pu (ag (az ?_)))));show wpAny _ _ (match Builtin.Slice.sliceAdjust lo hi 1 (n:Int)with |(lo,hi)=>pure (lo,(1:Int),Builtin.Slice.slicePlaces lo hi 1)) _ _ s;rw[Tn lo hi n];show wpAny _ _ (pure (((bj n 0 lo:Nat):Int),(1:Int),Builtin.Slice.slicePlaces ((bj n 0 lo:Nat):Int) ((bj n n hi:Nat):Int) 1)) _ _ s;rw[To];exact az h
theorem Tq(xs:Array Value)(i k:Nat):((List.range k).filterMap λ(m:Nat)=>xs[((i:Int)+(m:Int)*1).toNat]?).toArray=((xs.toList.drop i).take k).toArray:=by
 have e:(λ(m:Nat)=>xs[((i:Int)+(m:Int)*1).toNat]?)=λm=>xs[i+m]? :=by
  funext m;have:((i:Int)+(m:Int)*1).toNat=i+m:=by omega
  rw[this]
 rw[e];have:=pick_run xs i k;rw[List.filterMap_map]at this;have e2:((λx=>xs[x]?)∘λx=>i+x)=λm=>xs[i+m]? :=rfl
 rw[e2]at this;rw[this]
theorem Tr{t sl:Addr}{items:Array Value}{vl vu:Value}{lo hi:Option Int}{Q:Value->Shared->Prop}(ht:IsTup s.heap t items)(hs:s.heap.IsSliceOf sl vl vu .none)(pl:IsPart vl lo)(pu:IsPart vu hi) (hw:¬(bj items.size 0 lo=0/\bj items.size items.size hi=items.size)) (h:Q (.ref s.heap.objs.size) {s with heap:=s.heap.push {cls:=.type "tuple",data:=.seq ((items.toList.drop (bj items.size 0 lo)).take (bj items.size items.size hi-bj items.size 0 lo)).toArray}}) (hsz:items.size<=sizeLine):wpAny (model prog w) A (getItem (.ref t) (.ref sl)) Q E s:=by
 have vD:sizeOk (.seq ((items.toList.drop (bj items.size 0 lo)).take (bj items.size items.size hi-bj items.size 0 lo)).toArray):=by show((items.toList.drop (bj items.size 0 lo)).take (bj items.size items.size hi-bj items.size 0 lo)).toArray.size<=sizeLine;rw[cJ,uP,za,gj];omega
 have hj:bj items.size items.size hi<=items.size:=Tj _ _ (aI _) hi;obtain⟨os,hos,hcs,hds⟩:=id hs;have hTs:s.TypeIs (.ref sl) "slice":=⟨os,hos,hcs⟩;unfold getItem
 try with_reducible refine jb ?_
 first |refine ag (az ?_) |skip
 refine ag (wpAny_sequenceKey ht.typeIs (by decide) ?_);refine ag (uQ (name:=Str.ofString "__getitem__") ht.typeIs Rx (nh Rx ht.typeIs entry_tuple_getitem ?_ (args_tuple_getitem _ _)))
 show wpAny _ _ (Builtin.Tuple.tupleItemsOf (.ref t)>>=_) _ _ s;refine ag (tupleItemsOf_ ht ?_);refine ag (uR hTs ?_);rw[ai (by decide)];refine ag (Tp hs pl pu ?_);have hno:¬((((bj items.size 0 lo:Nat):Int)==0&&(1:Int)==1&&(bj items.size items.size hi-bj items.size 0 lo)==items.size)=true):=by intro q;rw[fe,fe]at q;have q1:((bj items.size 0 lo:Nat):Int)=0:=eq_of_beq q.1.1;have q2:bj items.size items.size hi-bj items.size 0 lo=items.size:=eq_of_beq q.2;exact hw ⟨by omega,by omega⟩
 show wpAny _ _ (if (((bj items.size 0 lo:Nat):Int)==0&&(1:Int)==1&&(bj items.size items.size hi-bj items.size 0 lo)==items.size)=true then _ else _) _ _ s;rw[ah hno,Tq]
 first
  |exact ag (m:=Builtin.Tuple.tupleExact _) (jc (az ⟨_,rfl,az h⟩) vD)
  |exact ag (m:=Builtin.Tuple.tupleExact _) (jc (ag (az (az ⟨_,rfl,az h⟩))) vD)
  |exact ag (ag (m:=Builtin.Tuple.tupleExact _) (jc (az (az ⟨_,rfl,az h⟩)) vD))
  |exact ag (ag (m:=Builtin.Tuple.tupleExact _) (jc (az ⟨_,rfl,az h⟩) vD))
end
end HT
namespace L2
open PySem PySem.Spec PyProof.Rows
abbrev TO:=St->Hp->(Option Int->Hp->Prop)->Prop
def PO(X:Cx)(e:Option Expr)(t:TO):Prop:=∀(pins:List (Addr×Obj))(s:Shared)(σ:St)(H:Hp)(Q:Option Int->Hp->Prop),Inv X pins σ H s->t σ H Q->wpAny (model X.prog X.w) X.A (evalPart e X.env) (λu s'=>∃o H',Inv X pins σ H' s'/\IsPart u o/\Q o H') X.xe s
def Ts:TO:=λ_ H Q=>Q none H
inductive Hq(Q:(Option Int->Hp->Prop))(x:V)(H1:Hp):Prop
 |mk i:x=.int i->Q (some i) H1->Hq Q x H1
def Tt(t:TE):TO:=λσ H Q=>t σ H λx H1=>Hq Q x H1
section
variable{X:Cx}{e:Expr}{te:TE}{lo hi:Option Expr}{tl th:TO}{pos p2:Pos}
theorem Hs:PO X none Ts:=by intro pins s σ H Q I h;rw[evalPart_none];exact az ⟨none,H,I,.none,h⟩
theorem Ht(h:PE X e te):PO X (some e) (Tt te):=by
 intro pins s σ H Q I hw;rw[evalPart_some];refine aF (h pins s σ H _ I hw) λu s1 ⟨x,H1,I1,r1,q1⟩=>?_
 obtain⟨i,rfl,q⟩:=q1;obtain⟨t,rfl⟩:=r1;exact⟨some i,H1,I1,.int i t,q⟩
def zO(X:Cx)(r:V->Option Int->Option Int->Hp->VK->Prop):Prop:=∀(pins:List (Addr×Obj))(s:Shared)(σ:St)(H:Hp)(x:V)(v vl vu:Value)(lo hi:Option Int)(sl:Addr)(Q:VK),Inv X pins σ H s->RelV x v->s.heap.IsSliceOf sl vl vu .none->IsPart vl lo->IsPart vu hi->r x lo hi H Q->∃T id,typeLookup (.type T) "__getitem__"=pure (some (.builtin id))/\s.TypeIs v T/\wpAny (model X.prog X.w) X.A (getItem v (.ref sl)) (EP X pins σ Q) X.xe s
def Tu(r:V->Option Int->Option Int->Hp->VK->Prop)(te:TE)(tl th:TO):TE:=λσ H Q=>te σ H λx H1=>tl σ H1 λl H2=>th σ H2 λu H3=>r x l u H3 Q
theorem Hu{r:V->Option Int->Option Int->Hp->VK->Prop}(hr:zO X r)(he:PE X e te)(hl:PO X lo tl)(hu:PO X hi th):PE X (.Subscript e (.Slice lo hi none p2) pos) (Tu r te tl th):=by
 intro pins s σ H Q I h;refine Subscript_ (aF (he pins s σ H _ I h) λv s1 ⟨x,H1,I1,r1,q1⟩=>?_);refine wpAny_Slice (aF (hl pins s1 σ H1 _ I1 q1) λvl s2 ⟨l,H2,I2,pl,q2⟩=>aF (hu pins s2 σ H2 _ I2 q2) λvu s3 ⟨u,H3,I3,pu,q3⟩=>?_);rw[evalPart_none];refine az ?_;have I4:Inv X pins σ H3 {s3 with heap:=s3.heap.push {cls:=.type "slice",data:=.fields #[vl,vu,.none]}}:=I3.kept (t':=s3.toks) λb ob q=>br _ q
 obtain⟨T,id,hT,ht,hg⟩:=hr pins {s3 with heap:=s3.heap.push {cls:=.type "slice",data:=.fields #[vl,vu,.none]}} σ H3 x v vl vu l u s3.heap.objs.size Q I4 r1 (Heap.IsSliceOf.new ..) pl pu q3;show wpAny (model X.prog X.w) X.A (subscriptTail e (.Slice lo hi none p2) v (.ref s3.heap.objs.size)) (EP X pins σ Q) X.xe {s3 with heap:=s3.heap.push {cls:=.type "slice",data:=.fields #[vl,vu,.none]}};exact tail_any (ops:=[.ref s3.heap.objs.size,v]) ht hT hg (by with_unfolding_all rfl)
def iO(xs:List V)(lo hi:Option Int):List V:=(xs.drop (HT.bj xs.length 0 lo)).take (HT.bj xs.length xs.length hi-HT.bj xs.length 0 lo)
theorem Hv(xs:List V)(lo hi:Option Int):(iO xs lo hi).length<=xs.length:=by unfold iO;rw[uP,za];omega
inductive Hw(K:ax)(x:V)(lo:Option Int)(hi:Option Int)(H:Hp)(Q:VK):Prop
 |mk a xs:x=.ref a->a8 K H a xs->¬(HT.bj xs.length 0 lo=0/\HT.bj xs.length xs.length hi=xs.length)->(∀p,H p=none->Q (.ref p) (upd H p (.tup (iO xs lo hi))))->Hw K x lo hi H Q
theorem Tv:zO X (Hw X.K):=by
 intro pins s σ H x v vl vu lo hi sl Q I rx hs pl pu h;obtain⟨a,xs,rfl,hx,hw,q⟩:=h;cases rx;obtain⟨its,r,ht,hz⟩:=I.tuple hx;have hlen:its.toArray.size=xs.length:=by rw[cJ];exact r.length.symm
 refine⟨"tuple",_,Rx.lookup,ht.typeIs,?_⟩;refine HT.Tr ht hs pl pu (by rw[hlen];exact hw) ?_ (by rw[hlen];exact hz);rw[hlen];refine⟨.ref s.heap.objs.size,_,I.laid (t':=s.toks) (o:=.tup (iO xs lo hi)) (λb ob q=>br _ q) (aI _) ?_,rfl,q _ (I.hok.fresh (aI _))⟩;exact⟨bE (Hv xs lo hi) hz,_,(r.drop (HT.bj xs.length 0 lo)).take (HT.bj xs.length xs.length hi-HT.bj xs.length 0 lo),IsTup.new _ _⟩
end
def iP(n:Nat)(i:Int):Option Nat:=if 0<=i then (if i<n then some i.toNat else none)else if-(n:Int)<=i then some (i+n).toNat else none
def nV{α:Type}(xs:List α)(i:Int):Option α:=(iP xs.length i).bind λj=>xs[j]?
theorem Hy{n:Nat}{i:Int}{j:Nat}(h:iP n i=some j):seqIndex? i n=some j/\j<n/\ -(n:Int)<=i/\i<n:=by
 unfold iP at h;by_cases h0:0<=i
 ·rw[ai h0]at h;by_cases h1:i<n
  ·rw[ai h1]at h;have e:i.toNat=j:=cI h;exact⟨by rw[seqIndex_of h0 h1,e],by omega,by omega,h1⟩
  ·rw[ah h1]at h;cases h
 ·rw[ah h0]at h;by_cases h1: -(n:Int)<=i
  ·rw[ai h1]at h;have e:(i+n).toNat=j:=cI h;exact⟨by rw[seqIndex_neg (by omega) h1,e],by omega,h1,by omega⟩
  ·rw[ah h1]at h;cases h
theorem Hz{α:Type}{xs:List α}{i:Int}{v:α}(h:nV xs i=some v):∃j,seqIndex? i xs.length=some j/\xs[j]? =some v/\j<xs.length/\ -(xs.length:Int)<=i/\i<xs.length:=by
 unfold nV at h;cases e:iP xs.length i with
 |none=>rw[e]at h;cases h
 |some j=>rw[e]at h;obtain⟨h1,h2,h3,h4⟩:=Hy e;exact⟨j,h1,h,h2,h3,h4⟩
theorem bq{α:Type}{xs:List α}{j:Nat}{v:α}(h:xs[j]? =some v):nV xs (j:Int)=some v:=by
 have hj:j<xs.length:=(bW.mp h).1;have e:iP xs.length (j:Int)=some j:=by unfold iP;rw[ai (by omega),ai (by omega)];simp
 unfold nV;rw[e];exact h
def Tw(b:Expr):Prop:=∀o i,subscripted b false o i=operate [o,i] (getItem o i)
def zP(X:Cx)(r:R2):Prop:=∀(value slice:Expr)(pins:List (Addr×Obj))(s:Shared)(σ:St)(H:Hp)(x y:V)(v u:Value)(Q:VK),Inv X pins σ H s->RelV x v->RelV y u->r x y H Q->subscripted slice false v u=operate [v,u] (getItem v u)->wpAny (model X.prog X.w) X.A (subscriptTail value slice v u) (EP X pins σ Q) X.xe s
def zQ(X:Cx)(id:String)(r:V->List V->Hp->VK->Prop):Prop:=∀(pins:List (Addr×Obj))(s:Shared)(σ:St)(H:Hp)(x:V)(xs:List V)(v:Value)(us:List Value)(Q:VK),Inv X pins σ H s->RelV x v->Vals xs us->r x xs H Q->wpAny (model X.prog X.w) X.A (call (.builtin id) (v::us)) (EP X pins σ Q) X.xe s
section
variable{X:Cx}{a b:Expr}{ta tb:TE}{pos:Pos}
theorem bc{r:R2}(hr:zP X r)(ha:PE X a ta)(hb:PE X b tb)(hs:Tw b):PE X (.Subscript a b pos) (gG r ta tb):=by intro pins s σ H Q I h;exact Subscript_ (zE ha hb I h λv u s2 x y H2 I2 rx ry q=>hr a b pins s2 σ H2 x y v u Q I2 rx ry q (hs _ _))
inductive nW(K:ax)(x:V)(y:V)(H:Hp)(Q:VK):Prop
 |mk p xs i v:x=.ref p->y=.int i->aj K H p xs->nV xs i=some v->Q v H->nW K x y H Q
inductive zR(K:ax)(x:V)(y:V)(H:Hp)(Q:VK):Prop
 |mk p xs i v:x=.ref p->y=.int i->a8 K H p xs->nV xs i=some v->Q v H->zR K x y H Q
theorem bA:zP X (nW X.K):=by
 intro value slice pins s σ H x y v u Q I rx ry h hs;obtain⟨p,xs,i,z,rfl,rfl,hq,he,q⟩:=h;cases rx;obtain⟨t,rfl⟩:=ry;obtain⟨its,r,pl,hz⟩:=I.list hq;obtain⟨j,h1,h2,h3,h4,h5⟩:=Hz he;obtain⟨w,ew,rw'⟩:=r.get h2;have hl:=r.length;have hn:=vz;have fin:EP X pins σ Q w s:=⟨z,H,I,rw',q⟩;by_cases h0:0<=i
 ·have hj:i.toNat=j:=by
   rw[seqIndex_of h0 h5]at h1;exact cI h1
  exact item_listR pl.isList h0 (by omega) (by rw[hj];simpa using ew) fin hs
 ·have hj:(i+(its.toArray.size:Int)).toNat=j:=by
   rw[seqIndex_neg (by omega) h4]at h1;rw[cJ,<-hl];exact cI h1
  exact subscriptTail_builtinR (x:=w) pl.isList.typeIs slot_list_getitem.lookup (wpAny_getItem_list_neg (Q:=λr s'=>r=w/\EP X pins σ Q r s') pl.isList (by omega) (by rw[cJ]<;>omega) (by omega) (by rw[hj];simpa using ew) ⟨rfl,fin⟩) hs
theorem kf:zP X (zR X.K):=by
 intro value slice pins s σ H x y v u Q I rx ry h hs;obtain⟨p,xs,i,z,rfl,rfl,hq,he,q⟩:=h;cases rx;obtain⟨t,rfl⟩:=ry;obtain⟨its,r,pl,hz⟩:=I.tuple hq;obtain⟨j,h1,h2,h3,h4,h5⟩:=Hz he;obtain⟨w,ew,rw'⟩:=r.get h2;have hl:=r.length;have hn:=vz;have fin:EP X pins σ Q w s:=⟨z,H,I,rw',q⟩;exact subscriptTail_builtinR (x:=w) pl.typeIs slot_tuple_getitem.lookup
  (getItem_tuple (j:=j) (Q:=λr s'=>r=w/\EP X pins σ Q r s') pl (by omega) (by omega) (by rw[cJ,<-hl];exact h1) (by simpa using ew) ⟨rfl,fin⟩) hs
theorem Tx(its:List Value)(n j:Nat)(u:Value):Obj.mapSeq (·.setIfInBounds j u) {cls:=.type "list",data:=.seq its.toArray n}= {cls:=.type "list",data:=.seq (its.set j u).toArray n}:=by simp[Obj.mapSeq]
theorem Inv.lst{pins:List (Addr×Obj)}{σ:St}{H:Hp}{s:Shared}{p:Addr}{xs:List V}(I:Inv X pins σ H s)(h:H p=some (.lst xs)):∃(its:List Value)(n:Nat),Vals xs its/\s.heap.get? p=some {cls:=.type "list",data:=.seq its.toArray n}/\xs.length<=sizeLine:=by
 obtain⟨z,its,n,r,e⟩:=I.hok p _ h;exact⟨its,n,r,e,z⟩
theorem Inv.Tz{pins:List (Addr×Obj)}{σ:St}{H:Hp}{s:Shared}{p:Addr}{xs ys:List V}{its its':List Value}{n n':Nat}{f:Obj->Obj}(I:Inv X pins σ H s)(h:H p=some (.lst xs)) (ho:s.heap.get? p=some {cls:=.type "list",data:=.seq its.toArray n})(hf:f {cls:=.type "list",data:=.seq its.toArray n}= {cls:=.type "list",data:=.seq its'.toArray n'})(r:Vals ys its')(hz:ys.length<=sizeLine)(t:Nat):Inv X pins σ (upd H p (.lst ys)) {s with heap:=s.heap.update p f,toks:=t}:=by
 have e:(s.heap.update p f).get? p=some {cls:=.type "list",data:=.seq its'.toArray n'}:=by rw[ni f ho (by rw[hf]<;>rfl),hf]
 refine I.write (x:=p) (e:=p) (by rw[h];trivial) (.inl rfl) (λb u hb q=>(iA _ _ (cu hb)).trans q) ⟨_,e⟩ ?_;exact⟨hz,its',n',r,e⟩
inductive HA(o:V)(i:V)(v:V)(H:Hp)(Q:(Hp->Prop)):Prop
 |mk p xs k j:o=.ref p->i=.int k->H p=some (.lst xs)->iP xs.length k=some j->Q (upd H p (.lst (xs.set j v)))->HA o i v H Q
theorem rn:GA X HA:=by
 intro pins s σ H o i v ov iv u Q I ro ri rv h;obtain⟨p,xs,k,j,rfl,rfl,hp,hj,q⟩:=h;cases ro;obtain⟨t,rfl⟩:=ri;obtain⟨its,n,r,ho,hz⟩:=I.lst hp;obtain⟨h1,h2,h3,h4⟩:=Hy hj;have hl:=r.length;have hn:=vz;have I':Inv X pins σ (upd H p (.lst (xs.set j v))) {s with heap:=s.heap.update p (Obj.mapSeq (·.setIfInBounds j u))}:=
  I.Tz hp ho (Tx its n j u) (r.set rv j) (by rw[gn];exact hz) s.toks
 by_cases h0:0<=k
 ·have hk:k.toNat=j:=by
   rw[seqIndex_of h0 h4]at h1;exact cI h1
  exact PySem.W.ki_setAt ho h0 (by omega) (by rw[cJ,<-hl];exact h4) (by rw[hk];exact⟨_,I',q⟩)
 ·have hk:(k+(its.toArray.size:Int)).toNat=j:=by
   rw[seqIndex_neg (by omega) h3]at h1;rw[cJ,<-hl];exact cI h1
  exact PySem.W.ki_setBack ho (by omega) (by rw[cJ,<-hl];exact h3) (by omega) (by rw[hk];exact⟨_,I',q⟩)
theorem TB(lo hi:Option Int)(n:Nat):(sliceBounds lo hi none n).1=((HT.bj n 0 lo:Nat):Int)/\(sliceBounds lo hi none n).2.1=((HT.bj n n hi:Nat):Int)/\(sliceBounds lo hi none n).2.2=1:=by
 refine⟨?_,?_,rfl⟩
 ·cases lo with
  |none=>simp[sliceBounds,HT.bj]
  |some i=>
   simp only[sliceBounds,HT.bj,Option.getD_none,show(1:Int)>0 by decide,rF];by_cases h:i<0
   ·simp only[h,rF]<;>omega
   ·simp only[h,jY]<;>omega
 ·cases hi with
  |none=>simp[sliceBounds,HT.bj]
  |some i=>
   simp only[sliceBounds,HT.bj,Option.getD_none,show(1:Int)>0 by decide,rF];by_cases h:i<0
   ·simp only[h,rF]<;>omega
   ·simp only[h,jY]<;>omega
theorem TC(its:List Value)(lo hi:Option Int):slicePick its.toArray lo hi none=((its.drop (HT.bj its.length 0 lo)).take (HT.bj its.length its.length hi-HT.bj its.length 0 lo)).toArray:=by obtain⟨h1,h2,h3⟩:=TB lo hi its.toArray.size;unfold slicePick;rw[h1,h2,h3];simp only[sliceRange_one,pick_run,cJ]<;>rfl
inductive HB(K:ax)(x:V)(lo:Option Int)(hi:Option Int)(H:Hp)(Q:VK):Prop
 |mk a xs:x=.ref a->aj K H a xs->(∀p,H p=none->Q (.ref p) (upd H p (.lst (iO xs lo hi))))->HB K x lo hi H Q
theorem TF:zO X (HB X.K):=by intro pins s σ H x v vl vu lo hi sl Q I rx hs pl pu h;obtain⟨a,xs,rfl,hx,q⟩:=h;cases rx;obtain⟨its,r,ht,hz⟩:=I.list hx;have hlen:=r.length;refine⟨"list",_,slot_list_getitem.lookup,ht.isList.typeIs,?_⟩;refine wpAny_getItem_list_slice ht.isList hs pl pu .none (by simp) ?_ (by rw[cJ]<;>omega);rw[TC,<-hlen];refine⟨.ref s.heap.objs.size,_,I.laid (t':=s.toks) (o:=.lst (iO xs lo hi)) (λb ob q=>br _ q) (aI _) ?_,rfl,q _ (I.hok.fresh (aI _))⟩;exact⟨bE (Hv xs lo hi) hz,_,0,(r.drop (HT.bj xs.length 0 lo)).take (HT.bj xs.length xs.length hi-HT.bj xs.length 0 lo),cF _ rfl⟩
def iQ:V->Bool
 | .au=>true
 | .bl _=>true
 | .int _=>true
 | .str _=>true
 |_=>false
def lC:V->V->Bool
 | .au,.au=>true
 | .bl a,.bl b=>a==b
 | .bl a,.int b=>(if a then 1 else 0)==b
 | .int a,.bl b=>a==(if b then 1 else 0)
 | .int a,.int b=>a==b
 | .str a,.str b=>a==b
 |_,_=>false
theorem TH{A:Around}{s:Shared}{y x:V}{u v:Value}(ry:RelV y u)(rx:RelV x v)(fy:iQ y=true)(fx:iQ x=true):SeqAt.EqAt A s u v (lC y x):=by
 cases y with
 |au=>
  cases ry;cases x with
  |au=>cases rx;exact SeqAt.EqAt.same _
  |bl b=>cases rx;exact SeqAt.EqAt.none_bool b
  |int b=>obtain⟨t,rfl⟩:=rx;exact SeqAt.EqAt.none_int b t
  |str b=>obtain⟨t,rfl⟩:=rx;exact SeqAt.EqAt.none_str b t
  |_=>exact absurd (show false=true from fx) cY
 |bl a=>
  cases ry;cases x with
  |au=>cases rx;exact SeqAt.EqAt.bool_none a
  |bl b=>cases rx;exact SeqAt.EqAt.bool_bool a b
  |int b=>obtain⟨t,rfl⟩:=rx;exact SeqAt.EqAt.bool_int a b t
  |str b=>obtain⟨t,rfl⟩:=rx;exact SeqAt.EqAt.bool_str a b t
  |_=>exact absurd (show false=true from fx) cY
 |int a=>
  obtain⟨t',rfl⟩:=ry;cases x with
  |au=>cases rx;exact SeqAt.EqAt.int_none a t'
  |bl b=>cases rx;exact SeqAt.EqAt.int_bool a t' b
  |int b=>obtain⟨t,rfl⟩:=rx;exact SeqAt.EqAt.int_int a t' b t
  |str b=>obtain⟨t,rfl⟩:=rx;exact SeqAt.EqAt.int_str a t' b t
  |_=>exact absurd (show false=true from fx) cY
 |str a=>
  obtain⟨t',rfl⟩:=ry;cases x with
  |au=>cases rx;exact SeqAt.EqAt.str_none a t'
  |bl b=>cases rx;exact SeqAt.EqAt.str_bool a t' b
  |int b=>obtain⟨t,rfl⟩:=rx;exact SeqAt.EqAt.str_int a t' b t
  |str b=>obtain⟨t,rfl⟩:=rx;exact SeqAt.EqAt.str_str a t' b t
  |_=>exact absurd (show false=true from fx) cY
 |_=>exact absurd (show false=true from fy) cY
def gI(x:V)(u:Value):Bool:=match u with
 | .none=>lC .au x
 | .bool b=>lC (.bl b) x
 | .int i _=>lC (.int i) x
 | .str z _=>lC (.str z) x
 |_=>false
theorem HC{x y:V}{u:Value}(r:RelV y u)(f:iQ y=true):gI x u=lC y x:=by
 cases y with
 |au=>cases r;rfl
 |bl b=>cases r;rfl
 |int i=>obtain⟨t,rfl⟩:=r;rfl
 |str z=>obtain⟨t,rfl⟩:=r;rfl
 |_=>exact absurd (show false=true from f) cY
theorem si{x:V}:∀{xs:List V}{us:List Value},Vals xs us->xs.all iQ=true->us.any (gI x)=xs.any λy=>lC y x
 |_,_,.nil,_=>rfl
 |y::xs,u::us,.cons r t,f=>by rw[FU,fe]at f;rw[rG,rG,HC r f.1,si t f.2]
theorem sq{A:Around}{s:Shared}{x:V}{v:Value}(rx:RelV x v)(fx:iQ x=true):∀{xs:List V}{us:List Value},Vals xs us->xs.all iQ=true->∀u∈us,SeqAt.EqAt A s u v (gI x u)
 |_,_,.nil,_=>λu hu=>by cases hu
 |y::xs,u::us,.cons r t,f=>λu' hu=>by
  rw[FU,fe]at f;rcases a6.mp hu with rfl |hu
  ·rw[HC r f.1];exact TH r rx f.1 fx
  ·exact sq rx fx t f.2 u' hu
def inV(x:V)(xs:List V):Bool:=xs.any λy=>lC y x
inductive sr(K:ax)(neg:Bool)(x:V)(y:V)(H:Hp)(Q:VK):Prop
 |mk p xs:y=.ref p->((aj K H p xs\/a8 K H p xs))->iQ x=true->xs.all iQ=true->(Q (.bl (if neg then !inV x xs else inV x xs)) H)->sr K neg x y H Q
theorem zS:cj X (compareOp .In) (sr X.K false):=by
 intro pins s σ H x y v u Q I rx ry h;obtain⟨p,xs,rfl,hq,fx,fs,q⟩:=h;cases ry;rcases hq with hq |hq
 ·obtain⟨its,r,pl,hz⟩:=I.list hq;refine SeqAt.in_listAt (gI x) pl.isList (λw hw=>sq rx fx r fs w (by simpa using hw)) ⟨.bl _,H,I,rfl,?_⟩;rw[show its.toArray.any (gI x)=its.any (gI x) by simp,si r fs];exact q
 ·obtain⟨its,r,pl,hz⟩:=I.tuple hq;refine SeqAt.in_tupleAt (gI x) pl (λw hw=>sq rx fx r fs w (by simpa using hw)) ⟨.bl _,H,I,rfl,?_⟩;rw[show its.toArray.any (gI x)=its.any (gI x) by simp,si r fs];exact q
theorem HD:cj X (compareOp .NotIn) (sr X.K true):=by
 intro pins s σ H x y v u Q I rx ry h;obtain⟨p,xs,rfl,hq,fx,fs,q⟩:=h;cases ry;rcases hq with hq |hq
 ·obtain⟨its,r,pl,hz⟩:=I.list hq;refine SeqAt.notIn_listAt (gI x) pl.isList (λw hw=>sq rx fx r fs w (by simpa using hw)) ⟨.bl _,H,I,rfl,?_⟩;rw[show its.toArray.any (gI x)=its.any (gI x) by simp,si r fs];exact q
 ·obtain⟨its,r,pl,hz⟩:=I.tuple hq;refine SeqAt.notIn_tupleAt (gI x) pl (λw hw=>sq rx fx r fs w (by simpa using hw)) ⟨.bl _,H,I,rfl,?_⟩;rw[show its.toArray.any (gI x)=its.any (gI x) by simp,si r fs];exact q
theorem dE:g_ X (.builtin "len") (λxs H Q=>∃p ys,xs=[.ref p]/\(aj X.K H p ys\/a8 X.K H p ys)/\Q (.int ys.length) H):=by
 intro pins s σ H xs us Q I r h;obtain⟨p,ys,rfl,hq,q⟩:=h;obtain⟨u,rfl,rx⟩:=vals1 r;cases rx;have hn:=vz;rcases hq with hq |hq
 ·obtain⟨its,r',pl,hz⟩:=I.list hq;have hlen:=r'.length;exact Calls.call_len_list pl.isList (by simp only[cJ]<;>omega) ⟨.int ys.length,H,I.tok _,⟨s.toks+1,by rw[cJ,hlen]⟩,q⟩
 ·obtain⟨its,r',pl,hz⟩:=I.tuple hq;have hlen:=r'.length;exact len_tuple pl (by simp only[cJ]<;>omega) ⟨.int ys.length,H,I.tok _,⟨s.toks+1,by rw[cJ,hlen]⟩,q⟩
theorem TJ:g_ X (.type "list") (λxs H Q=>∃p ys,xs=[.ref p]/\(aj X.K H p ys\/a8 X.K H p ys)/\∀l,H l=none->Q (.ref l) (upd H l (.lst ys))):=by
 intro pins s σ H xs us Q I r h;obtain⟨p,ys,rfl,hq,q⟩:=h;obtain⟨u,rfl,rx⟩:=vals1 r;cases rx;have fin:∀(its:List Value),Vals ys its->ys.length<=sizeLine->∀(h':Heap)(c':Nat),(∀b o',s.heap.get? b=some o'->h'.get? b=some o')->
   h'.get? s.heap.objs.size=some {cls:=.type "list",dict:=none,data:=.seq its.toArray c',slots:= #[]}->EP X pins σ Q (.ref s.heap.objs.size) {s with heap:=h'}:=λits r' hz h' c' kp e=>
  ⟨.ref s.heap.objs.size,_,I.laid (t':=s.toks) kp (aI _) (show ck X.prog X.w _ h' _ (.lst ys) from ⟨hz,its,c',r',e⟩),rfl,q _ (I.hok.fresh (aI _))⟩
 rcases hq with hq |hq
 ·obtain⟨its,r',pl,hz⟩:=I.list hq;have hlen:=r'.length;obtain⟨o,ho,hc,n,hd⟩:=pl.isList;exact call_list_seq p (.inl rfl) ho hc hd (λh' c' kp e=>fin its r' hz h' c' kp e) (by simp only[cJ]<;>omega)
 ·obtain⟨its,r',pl,hz⟩:=I.tuple hq;have hlen:=r'.length;obtain⟨o,ho,hc,n,hd⟩:=pl;exact call_list_seq p (.inr rfl) ho hc hd (λh' c' kp e=>fin its r' hz h' c' kp e) (by simp only[cJ]<;>omega)
theorem zT:g_ X (.type "tuple") (λxs H Q=>∃p ys,xs=[.ref p]/\((aj X.K H p ys/\∀l,H l=none->Q (.ref l) (upd H l (.tup ys)))\/(a8 X.K H p ys/\Q (.ref p) H))):=by
 intro pins s σ H xs us Q I r h;obtain⟨p,ys,rfl,h⟩:=h;obtain⟨u,rfl,rx⟩:=vals1 r;cases rx;rcases h with ⟨hq,q⟩ |⟨hq,q⟩
 ·obtain⟨its,r',pl,hz⟩:=I.list hq;have hlen:=r'.length;refine call_tuple_list pl.isList (λh' kp=>?_) (by simp only[cJ]<;>omega);have I1:Inv X pins σ H {s with heap:=h'}:=I.kept (t':=s.toks) kp;have I2:Inv X pins σ (upd H h'.objs.size (.tup ys)) {s with heap:=h'.push {cls:=.type "tuple",data:=.seq its.toArray}}:=
   I1.laid (t':=s.toks) (λb o e=>br _ e) (aI _) (show ck X.prog X.w _ _ _ (.tup ys) from ⟨hz,its,r',IsTup.new _ _⟩)
  exact⟨.ref h'.objs.size,_,I2,rfl,q _ (I1.hok.fresh (aI _))⟩
 ·obtain⟨its,r',pl,hz⟩:=I.tuple hq;exact call_tuple_same pl ⟨.ref p,H,I,rfl,q⟩
def zU(K:ax)(T:String)(x:V)(H:Hp):Prop:=match x with
 | .str _=>T="str"
 | .int _=>T="int"
 | .ref p=>(T="list" /\∃xs,aj K H p xs)\/(T="tuple" /\∃o,K.lookup p=some o/\o.cls=.type "tuple" /\o.dict=none)\/
   (T="dict" /\((∃kvs,H p=some (.dK kvs))\/∃kvs,H p=some (.dT kvs)))\/(T="set" /\∃S n,H p=some (.set S n))
 |_=>False
theorem HE{pins:List (Addr×Obj)}{σ:St}{H:Hp}{s:Shared}{T:String}{x:V}{v:Value}(I:Inv X pins σ H s)(r:RelV x v)(ty:zU X.K T x H):s.TypeIs v T/\∀a,v=.ref a->∃ob,s.heap.get? a=some ob/\ob.dict=none:=by
 cases x with
 |str z=>obtain⟨t,rfl⟩:=r;cases(show T="str" from ty);exact⟨typeIs_str s z t,λ_ e=>nomatch e⟩
 |int i=>obtain⟨t,rfl⟩:=r;cases(show T="int" from ty);exact⟨typeIs_int s i t,λ_ e=>nomatch e⟩
 |ref p=>
  cases r;rcases ty with ⟨rfl,xs,hq⟩ |⟨rfl,o,hk,hc,hd⟩ |⟨rfl,hk⟩ |⟨rfl,S,n,hk⟩
  ·obtain⟨its,_,pl,_⟩:=I.list hq;refine⟨pl.isList.typeIs,λa e=>?_⟩;cases e;obtain⟨o,n,e,c,hd,_⟩:=pl;exact⟨o,e,hd⟩
  ·refine⟨⟨o,I.bR p o hk,hc⟩,λa e=>?_⟩;cases e;exact⟨o,I.bR _ o hk,hd⟩
  ·have z:∃o,s.heap.get? p=some o/\o.ExactDict:=by
    rcases hk with ⟨kvs,hk⟩ |⟨kvs,hk⟩
    ·obtain⟨_,_,_,_,o,_,_,e,ex,_⟩:=I.hok p _ hk;exact⟨o,e,ex⟩
    ·obtain⟨_,_,_,_,o,_,_,e,ex,_⟩:=I.hok p _ hk;exact⟨o,e,ex⟩
   obtain⟨o,e,ex⟩:=z;refine⟨⟨o,e,ex.1⟩,λa e2=>?_⟩;cases e2;exact⟨o,e,ex.2.1⟩
  ·obtain⟨o,_,_,_,e,ex,_⟩:=I.hok p _ hk;refine⟨⟨o,e,ex.1⟩,λa e2=>?_⟩;cases e2;exact⟨o,e,ex.2.1⟩
 |_=>exact False.elim ty
def TK(K:ax)(T:String)(r:V->List V->Hp->VK->Prop)(to:TE):TE:=λσ H Q=>to σ H λx H1=>zU K T x H1/\r x [] H1 Q
def TM(K:ax)(T:String)(r:V->List V->Hp->VK->Prop)(to:TE)(t:TA):TE:=λσ H Q=>to σ H λx H1=>zU K T x H1/\t σ H1 λxs H2=>r x xs H2 Q
variable{o e:Expr}{es:List Expr}{to:TE}{t:TA}{name:Str}{apos cpos:Pos}{T id:String}{r:V->List V->Hp->VK->Prop}
theorem HF(pa:PlainAttrs T)(slot:Slot T name id)(hty:typeOf (.builtin id)=pure (.type "method_descriptor"))(hm:zQ X id r)(ho:PE X o to) (hbase:attributeBase o name X.env (eval o X.env)=eval o X.env:=by rfl)(hline:(apos.endLine==cpos.line)=true:=by rfl):PE X (.Call (.Attribute o name apos) [] [] cpos) (TK X.K T r to):=by
 intro pins s σ H Q I h;refine wpAny_Call_method0_late hbase hline (aF (ho pins s σ H _ I h) λv s1 ⟨x,H1,I1,r1,ty,q1⟩=>?_);obtain⟨h1,h2⟩:=HE I1 r1 ty;exact⟨T,id,pa,slot,hty,h1,h2,Calls.callWith_builtin rfl (PySem.evalArgs_none (hm pins s1 σ H1 x [] v [] Q I1 r1 .nil q1))⟩
theorem gJ(pa:PlainAttrs T)(slot:Slot T name id)(hty:typeOf (.builtin id)=pure (.type "method_descriptor"))(hm:zQ X id r)(ho:PE X o to)(ha:PA X (e::es) t) (hbase:attributeBase o name X.env (eval o X.env)=eval o X.env:=by rfl) (hfew:((backTo cpos (starEach (e::es) X.env)).all (λx=> !x.1)&&(backToKw cpos (keywordEach [] X.env)).all (λx=>x.1.isSome) &&decide ((e::es).length+([]:List Keyword).length+(if ([]:List Keyword).isEmpty then 0 else 1)<30))=true:=by rfl) (hline:(apos.endLine==cpos.line)=true:=by rfl)(hs:starEach (e::es) X.env=(false,eval e X.env)::starEach es X.env:=by rfl)(hplain:(backTo cpos (starEach es X.env)).any (·.1)=false:=by rfl):PE X (.Call (.Attribute o name apos) (e::es) [] cpos) (TM X.K T r to t):=by
 intro pins s σ H Q I h;refine wpAny_Call_method_late hbase hfew hline rfl (aF (ho pins s σ H _ I h) λv s1 ⟨x,H1,I1,r1,ty,q1⟩=>?_);obtain⟨h1,h2⟩:=HE I1 r1 ty;refine⟨T,id,pa,slot,hty,h1,h2,?_⟩;have hA:=ha cpos pins s1 σ H1 _ I1 q1;rw[hs]at hA ⊢;refine Calls.callWith_builtin (by show(false||(backTo cpos (starEach es X.env)).any (·.1))=false;rw[hplain]<;>rfl) (Calls.evalArgs_plain ?_);exact aF hA λus s2 ⟨vs,H2,I2,r2,q2⟩=>hm pins s2 σ H2 x vs v us Q I2 r1 r2 q2
end
def vE(X:Cx)(id:String)(r:V->List V->Hp->VK->Prop):Prop:=∀(pins:List (Addr×Obj))(s:Shared)(σ:St)(H:Hp)(x:V)(xs:List V)(v:Value)(us:List Value)(Q:VK),Inv X pins σ H s->RelV x v->Vals xs us->r x xs H Q->wpAny (model X.prog X.w) X.A (call (.builtin id) (v::us)) (EP X pins σ Q) X.xe s
theorem Vals.one:∀{x:V}{us:List Value},Vals [x] us->∃u,us=[u]/\RelV x u
 |_,_,.cons r .nil=>⟨_,rfl,r⟩
theorem Vals.zero:∀{us:List Value},Vals [] us->us=[]
 |_,.nil=>rfl
theorem Vals.dropLast{xs:List V}{us:List Value}(h:Vals xs us):Vals xs.dropLast us.dropLast:=by
 induction h with
 |nil=>exact .nil
 |cons r t ih=>
  cases t with
  |nil=>exact .nil
  |cons q t'=>exact .cons r ih
theorem TN{α:Type}(l:List α):l.eraseIdx (l.length-1)=l.dropLast:=by
 induction l with
 |nil=>rfl
 |cons a r ih=>
  cases r with
  |nil=>rfl
  |cons b r=>
   have e:(a::b::r).length-1=((b::r).length-1)+1:=by have h1:(a::b::r).length=r.length+2:=rfl;have h2:(b::r).length=r.length+1:=rfl;omega
   rw[e,List.eraseIdx_cons_succ,ih]
   all_goals rfl
section
variable{X:Cx}{pins:List (Addr×Obj)}{σ:St}{H:Hp}{s:Shared}{l b:Addr}{xs ys zs:List V}
theorem Inv.vF{its its':List Value}{n:Nat}{f:Array Value->Array Value}{t':Nat}(I:Inv X pins σ H s)(hH:H l=some (.lst xs)) (e:s.heap.get? l=some {cls:=.type "list",data:=.seq its.toArray n})(hf:f its.toArray=its'.toArray)(hv:Vals ys its')(hz:ys.length<=sizeLine):Inv X pins σ (upd H l (.lst ys)) {s with heap:=s.heap.update l (Obj.mapSeq f),toks:=t'}:=by
 have q:=PySem.IsL.update e f;rw[hf]at q;refine I.write (x:=l) (e:=l) (by rw[hH];exact trivial) (.inl rfl) (λb' u hb hu=>(iA s.heap (Obj.mapSeq f) (cu hb)).trans hu) ⟨_,q⟩ ?_;exact⟨hz,its',_,hv,q⟩
theorem Inv.HG{its:List Value}{t':Nat}(I:Inv X pins σ H s)(hv:Vals ys its)(hz:ys.length<=sizeLine):Inv X pins σ (upd H s.heap.objs.size (.lst ys)) {s with heap:=s.heap.push {cls:=.type "list",data:=.seq its.toArray},toks:=t'}:=I.laid (λ_ _ q=>br _ q) (aI _) ⟨hz,its,0,hv,cF _ rfl⟩
theorem Inv.fresh(I:Inv X pins σ H s):H s.heap.objs.size=none:=I.hok.fresh (aI _)
theorem Inv.mx(I:Inv X pins σ H s)(hH:H l=some (.lst xs)):xs.length<=sizeLine/\∃(its:List Value)(n:Nat),Vals xs its/\xs.length=its.length/\s.heap.get? l=some {cls:=.type "list",data:=.seq its.toArray n}:=by obtain⟨z,its,n,r,e⟩:=I.hok l _ hH;exact⟨z,its,n,r,r.length,e⟩
theorem HH{n:Nat}(h:n<=sizeLine):Builtin.List.listTooLong n=false:=by unfold Builtin.List.listTooLong;exact a9 (by omega)
end
section
variable{X:Cx}
inductive HI(x:V)(vs:List V)(H:Hp)(Q:VK):Prop
 |mk l xs y:x=.ref l->vs=[y]->H l=some (.lst xs)->xs.length<sizeLine->Q .au (upd H l (.lst (xs++[y])))->HI x vs H Q
theorem jk:vE X "list.append" HI:=by intro pins s σ H x vs v us Q I rx rv h;obtain⟨l,xs,y,rfl,rfl,hH,hz,q⟩:=h;cases rx;obtain⟨u,rfl,ru⟩:=rv.one;obtain⟨z,its,n,r,hl,e⟩:=I.mx hH;refine uS F.slot_list_append ⟨_,e,rfl⟩ F.entry_list_append (F.args_list_append_2 _ _) (PySem.list_append l its.toArray n u (by rw[cJ];omega)) ⟨e,?_⟩;refine⟨.au,_,I.vF (its':=its++[u]) hH e (by simp) (r.append (.cons ru .nil)) ?_,rfl,q⟩;rw[bo,cZ];omega
inductive HJ(x:V)(vs:List V)(H:Hp)(Q:VK):Prop
 |mk l b xs zs:x=.ref l->vs=[.ref b]->H l=some (.lst xs)->H b=some (.lst zs)->xs.length+zs.length<=sizeLine->Q .au (upd H l (.lst (xs++zs)))->HJ x vs H Q
theorem TQ:vE X "list.extend" HJ:=by
 intro pins s σ H x vs v us Q I rx rv h;obtain⟨l,b,xs,zs,rfl,rfl,hH,hB,hz,q⟩:=h;cases rx;obtain⟨u,rfl,ru⟩:=rv.one;cases ru;obtain⟨z,its,n,r,hl,e⟩:=I.mx hH;obtain⟨z2,its2,n2,r2,hl2,e2⟩:=I.mx hB;have hsz:its.toArray.size+its2.toArray.size<=sizeLine:=by rw[cJ,cJ];omega
 have zV:¬(!its.toArray.isEmpty&&Builtin.List.listTooLong (its.toArray.size+its2.toArray.size))=true:=by rw[HH hsz,FV];exact cY
 refine uS F.slot_list_extend ⟨_,e,rfl⟩ F.entry_list_extend (F.args_list_extend_2 _ _) (AutoSeq1.list_extend_list_list_0 l its.toArray n b its2.toArray n2 zV (by rw[cJ];omega) (by omega)) ⟨e,e2,?_⟩
 refine⟨.au,_,I.vF (its':=its++its2) hH e (by simp) (r.append r2) ?_,rfl,q⟩;rw[bo];omega
inductive HK(x:V)(vs:List V)(H:Hp)(Q:VK):Prop
 |mk l xs y:x=.ref l->vs=[]->H l=some (.lst xs)->xs[xs.length-1]? =some y->Q y (upd H l (.lst xs.dropLast))->HK x vs H Q
theorem HM:vE X "list.pop" HK:=by
 intro pins s σ H x vs v us Q I rx rv h;obtain⟨l,xs,y,rfl,rfl,hH,hy,q⟩:=h;cases rx;have eV:=rv.zero;subst eV;obtain⟨z,its,n,r,hl,e⟩:=I.mx hH;obtain⟨u,hu,ru⟩:=r.get hy;have hy':its.toArray[its.toArray.size-1]? =some u:=by show its.toArray[its.length-1]? =some u;rw[<-pO,<-hl];exact hu
 refine uS F.slot_list_pop ⟨_,e,rfl⟩ F.entry_list_pop (F.args_list_pop_1 _) (MeetsSeq.list_pop_last l its.toArray n u hy' (by rw[cJ];omega)) ⟨e,?_⟩;refine⟨y,_,I.vF (its':=its.dropLast) hH e ?_ r.dropLast ?_,ru,q⟩
 ·show its.toArray.eraseIdxIfInBounds (its.toArray.size-1)=its.dropLast.toArray;rw[cJ,List.eraseIdxIfInBounds_toArray,TN]
 ·rw[List.length_dropLast];omega
inductive zW(x:V)(y:V)(H:Hp)(Q:VK):Prop
 |mk l b xs zs:x=.ref l->y=.ref b->H l=some (.lst xs)->H b=some (.lst zs)->xs.length+zs.length<=sizeLine->(∀p,H p=none->Q (.ref p) (upd H p (.lst (xs++zs))))->zW x y H Q
theorem zX:cj X (binaryOp .Add) zW:=by
 intro pins s σ H x y v u Q I rx ry h;obtain⟨l,b,xs,zs,rfl,rfl,hH,hB,hz,q⟩:=h;cases rx;cases ry;obtain⟨z,its,n,r,hl,e⟩:=I.mx hH;obtain⟨z2,its2,n2,r2,hl2,e2⟩:=I.mx hB;refine PySem.P.add_list e e2 ?_ (by rw[cJ,cJ];omega);have ea:its.toArray++its2.toArray=(its++its2).toArray:=by simp
 rw[ea];exact⟨.ref _,_,I.HG (t':=s.toks) (r.append r2) (by rw[bo];omega),rfl,q _ I.fresh⟩
end
section
variable{prog:Program}{w:World}{A:Around}{E:Value->Shared->Prop}{s:Shared}
set_option maxRecDepth 100000 in
end
section
variable{X:Cx}
end
theorem Vals.ints:∀{ns:List Int}{us:List Value},Vals (ns.map V.int) us->IntsAre us ns
 |[],us,h=>by rw[pP]at h;cases h;exact IntsAre.nil
 |n::ns,us,h=>by
  rw[bt]at h;cases h with
  |cons r t=>obtain⟨k,rfl⟩:=r;exact IntsAre.cons n k (Vals.ints t)
theorem HN:∀{us:List Value}{ns:List Int},IntsAre us ns->Vals (ns.map V.int) us
 |_,_,.nil=>by rw[pP];exact Paired.nil
 |_,_,.cons n t h=>by rw[bt];exact Paired.cons (show RelV (V.int n) (Value.int n t) from ⟨t,rfl⟩) (HN h)
theorem Vals.HP:∀{bs:List Bool}{us:List Value},Vals (bs.map V.bl) us->us=bs.map Value.bool
 |[],us,h=>by rw[pP]at h;cases h;rfl
 |b::bs,us,h=>by
  rw[bt]at h;cases h with
  |cons r t=>cases r;rw[Vals.HP t,bt]
theorem Vals.zY{a:Addr}{us:List Value}(r:Vals [V.ref a] us):us=[Value.ref a]:=by
 cases r with
 |cons r t=>cases t;cases r;rfl
section
variable{prog:Program}{w:World}{A:Around}{E:Value->Shared->Prop}{s:Shared}{l:Addr}{its:List Value}{ns:List Int}{Q:Value->Shared->Prop}
end
section
variable{X:Cx}
end
section
variable{X:Cx}
end
section
variable{X:Cx}
end
theorem TR{prog:Program}{w:World}{A:Around}{E:Value->Shared->Prop}{s:Shared}{l:Addr}{items:Array Value}{Q:Value->Shared->Prop}(hl:s.heap.IsList l items) (h:∀s₂:Shared,s₂= {s with heap:=s.heap.push {cls:=.type "list_iterator",data:=.fields #[.ref l,.int 0 0]}}->(s₂.heap.IsListIter s.heap.objs.size l 0/\s₂.heap.IsList l items)->l≠s.heap.objs.size->Q (.ref s.heap.objs.size) s₂):wpAny (model prog w) A (pyIter (.ref l)) Q E s:=by
 have hlt:l<s.heap.objs.size:=by obtain⟨_,e,_⟩:=hl;exact ba e
 exact FR hl (h _ rfl ⟨⟨_,cF _ rfl,rfl,rfl⟩,hl.push _⟩ (bT hlt))
theorem TU{prog:Program}{w:World}{A:Around}{bs:List Bool}{its:List Value}(e:its=bs.map Value.bool):TruthOf prog w A (λi v=>its.toArray[i]? =some v) (λi=>bs.getD i false):=λi v s Q E hv hq=>by
 have hv':its[i]? =some v:=by simpa using hv
 rw[e,bF]at hv';obtain⟨b,hb,rfl⟩:=cK.mp hv';have hg:bs.getD i false=b:=by rw[fJ,hb]<;>rfl
 have hq':Q (bs.getD i false) s:=hq;rw[hg]at hq';exact m9 hq'
theorem all_range:∀bs:List Bool,(List.range bs.length).all (λi=>bs.getD i false)=bs.all id
 |[]=>rfl
 |b::bs=>by
  rw[b6,FW,FU,List.all_map,FU,<-all_range bs]
  all_goals rfl
section
variable{X:Cx}
inductive HQ(K:ax)(vs:List V)(H:Hp)(Q:VK):Prop
 |mk (a:Addr) (bs:List Bool):vs=[V.ref a]->aj K H a (bs.map V.bl)->Q (.bl (bs.all id)) H->HQ K vs H Q
theorem HR(hc:X.calm=true):g_ X (.builtin "all") (HQ X.K):=by
 intro pins s σ H vs us Q I r h;obtain⟨a,bs,rfl,hs,q⟩:=h;obtain⟨its,rv,hl,_⟩:=I.list hs;rw[Vals.zY r];have hb:=rv.HP;refine call_all_walk (TR hl.isList λs₂ e2 st hne=>?_);subst e2;refine⟨_,_,_,_,_,_,_,rfl,Walks.list (A:=X.A.in1) (I.ok.hd hc) _ a hne its.toArray,st,TU hb,λh' tk hk=>?_⟩;refine⟨.bl _,H,I.kept λb o eo=>hk b o (λhmem=>?_) (br _ eo),?_,q⟩
 ·rcases a6.mp hmem with e1 |hmem
  ·exact absurd (e1▸ba eo) (l8 _)
  ·cases hmem
 ·show Value.bool _=Value.bool _;rw[<-all_range,hb,cJ,aK]
end
mutual
inductive Dp(K:ax)(H:Hp):V->PyData->Prop
 |au:Dp K H .au .none
 |bl (b:Bool):Dp K H (.bl b) (.bool b)
 |int (i:Int):Dp K H (.int i) (.int i)
 |str (x:Str):Dp K H (.str x) (.str x)
 |lst {a:Addr} {xs:List V} {ds:List PyData}:aj K H a xs->jJ K H xs ds->Dp K H (.ref a) (.list ds)
 |tup {a:Addr} {xs:List V} {ds:List PyData}:a8 K H a xs->jJ K H xs ds->Dp K H (.ref a) (.tuple ds)
inductive jJ(K:ax)(H:Hp):List V->List PyData->Prop
 |nil:jJ K H [] []
 |cons {v:V} {vs:List V} {d:PyData} {ds:List PyData}:Dp K H v d->jJ K H vs ds->jJ K H (v::vs) (d::ds)
end
section
variable{X:Cx}{pins:List (Addr×Obj)}{σ:St}{H:Hp}{s:Shared}
mutual
theorem Dp.reads(I:Inv X pins σ H s):∀(d:PyData)(v:V)(u:Value),Dp X.K H v d->RelV v u->∃as,Reads s.heap u d as
 | .none,_,_,h,r=>by cases h;cases r;exact⟨_,Reads.none⟩
 | .bool b,_,_,h,r=>by cases h;cases r;exact⟨_,Reads.bool b⟩
 | .int i,_,_,h,r=>by cases h;obtain⟨t,rfl⟩:=r;exact⟨_,Reads.int i t⟩
 | .str x,_,_,h,r=>by cases h;obtain⟨t,rfl⟩:=r;exact⟨_,Reads.str x t⟩
 | .list ds,_,_,h,r=>by
  cases h with
  |lst hs ha=>cases r;obtain⟨its,rv,⟨o,n,ho,hc,_,hd⟩,_⟩:=I.list hs;obtain⟨as,hr⟩:=Dp.readsAll I ds _ its ha rv;exact⟨_,Reads.list ho hc hd hr⟩
 | .tuple ds,_,_,h,r=>by
  cases h with
  |tup hs ha=>cases r;obtain⟨its,rv,⟨o,ho,hc,n,hd⟩,_⟩:=I.tuple hs;obtain⟨as,hr⟩:=Dp.readsAll I ds _ its ha rv;exact⟨_,Reads.tuple ho hc hd hr⟩
 | .dict _,_,_,h,_=>by cases h
theorem Dp.readsAll(I:Inv X pins σ H s):∀(ds:List PyData)(vs:List V)(us:List Value),jJ X.K H vs ds->Vals vs us->∃as,ReadsAll s.heap us ds as
 |[],_,_,h,r=>by cases h;cases r;exact⟨_,ReadsAll.nil⟩
 |d::ds,_,_,h,r=>by
  cases h with
  |cons h1 h2=>
   cases r with
   |cons r1 r2=>obtain⟨as,q1⟩:=Dp.reads I d _ _ h1 r1;obtain⟨bs,q2⟩:=Dp.readsAll I ds _ _ h2 r2;exact⟨_,ReadsAll.cons q1 q2⟩
end
end
section
variable{X:Cx}
inductive vG(K:ax)(x:V)(y:V)(H:Hp)(Q:VK):Prop
 |mk d e:Dp K H x d->Dp K H y e->SeqAt.shaped d=true->SeqAt.shaped e=true->Q (.bl (PyData.eqv d e)) H->vG K x y H Q
inductive HS(K:ax)(x:V)(y:V)(H:Hp)(Q:VK):Prop
 |mk d e:Dp K H x d->Dp K H y e->SeqAt.shaped d=true->SeqAt.shaped e=true->Q (.bl (!PyData.eqv d e)) H->HS K x y H Q
theorem jK(hu:X.A.units+64<cLine):cj X (compareOp .Eq) (vG X.K):=by intro pins s σ H x y v u Q I rx ry h;obtain⟨d,e,hd,he,sd,se,q⟩:=h;obtain⟨as,r1⟩:=Dp.reads I d x v hd rx;obtain⟨bs,r2⟩:=Dp.reads I e y u he ry;exact SeqAt.compareEq_shaped r1 r2 sd se hu ⟨.bl _,H,I,rfl,q⟩
theorem TV(hu:X.A.units+64<cLine):cj X (compareOp .NotEq) (HS X.K):=by intro pins s σ H x y v u Q I rx ry h;obtain⟨d,e,hd,he,sd,se,q⟩:=h;obtain⟨as,r1⟩:=Dp.reads I d x v hd rx;obtain⟨bs,r2⟩:=Dp.reads I e y u he ry;exact SeqAt.compareNe_shaped r1 r2 sd se hu ⟨.bl _,H,I,rfl,q⟩
end
end L2
namespace L2
open PySem PySem.Spec PyProof.Rows
abbrev HU(h:Heap)(c:Addr)(v:Option Value):Prop:=h.IsCell c v
def TX(scope sc:Scope):Scope:={scope with names:=scope.names.map λ(n,k)=>if (k==.free&&sc.kind==.function&&sc.names.lookup n==some .cell)then (n,.cell)else (n,k)}
def dU(cells:List (Str×Addr)):List (Str×NameKind)->List (Str×Addr)->List (Str×Addr)
 |[],acc=>acc
 |(n,k)::r,acc=>if k==.free then dU cells r ((n,(cells.lookup n).getD 0)::acc)else dU cells r acc
theorem HV(env:Env)(f:Str×NameKind->List (Str×Addr)->Sem (ForInStep (List (Str×Addr)))) (hf:∀n k c,f (n,k) c=if k==.free then (do let a<-cellOf env n;pure (.yield ((n,a)::c)))else pure (.yield c)):
  ∀(names:List (Str×NameKind))(acc:List (Str×Addr)),(∀y∈names,y.2=.free->∃c,env.cells.lookup y.1=some c)->forIn names acc f=pure (dU env.cells names acc)
 |[],acc,_=>by rw[List.forIn_nil];rfl
 |(n,k)::r,acc,h=>by
  rw[List.forIn_cons,hf];have ih:=λacc=>HV env f hf r acc λy hy=>h y (bQ _ hy)
  unfold dU;by_cases hk:(k==NameKind.free)=true
  ·rw[ai hk,ai hk];obtain⟨c,hc⟩:=h (n,k) dN (by simpa using hk);have e:cellOf env n=pure c:=by unfold cellOf;rw[hc]
   rw[e];have e2:(env.cells.lookup n).getD 0=c:=by rw[hc];rfl
   rw[e2];exact ih _
  ·rw[ah hk,ah hk];exact ih _
theorem TY{scope:Scope}{env:Env}(h:∀y∈scope.names,y.2=.free->∃c,env.cells.lookup y.1=some c):closureFor scope env=pure (dU env.cells scope.names []):=by simp only[closureFor];rw[HV env _ (λn k c=>rfl) scope.names [] h];rfl
theorem mem_lookup{α:Type}:∀{l:List (Str×α)}{n:Str}{c:α},(n,c)∈l->∃c',l.lookup n=some c'
 |(k,v)::r,n,c,h=>by
  rw[ny];cases hb:n==k with
  |true=>exact⟨_,rfl⟩
  |false=>
   rcases a6.mp h with e |h
   ·cases e;simp at hb
   ·exact mem_lookup h
theorem vH{cells:List (Str×Addr)}:∀{names:List (Str×NameKind)}{acc:List (Str×Addr)}{n:Str}{c:Addr},(n,c)∈dU cells names acc->(n,c)∈acc\/((n,.free)∈names/\c=(cells.lookup n).getD 0)
 |[],_,_,_,h=>.inl h
 |(m,k)::r,acc,n,c,h=>by
  unfold dU at h;split at h
  ·rename_i hk
   have hk:k=.free:=by simpa using hk
   rcases vH h with h |⟨h1,h2⟩
   ·rcases a6.mp h with e |h
    ·cases e;exact .inr ⟨hk▸dN,rfl⟩
    ·exact .inl h
   ·exact .inr ⟨bQ _ h1,h2⟩
  ·rcases vH h with h |⟨h1,h2⟩
   ·exact .inl h
   ·exact .inr ⟨bQ _ h1,h2⟩
theorem zZ{cells:List (Str×Addr)}:∀{names:List (Str×NameKind)}{acc:List (Str×Addr)}{p:Str×Addr},p∈acc->p∈dU cells names acc
 |[],_,_,h=>h
 |(m,k)::r,acc,p,h=>by
  unfold dU;split
  ·exact zZ (bQ _ h)
  ·exact zZ h
theorem z0{cells:List (Str×Addr)}:∀{names:List (Str×NameKind)}{acc:List (Str×Addr)}{n:Str},(n,.free)∈names->(n,(cells.lookup n).getD 0)∈dU cells names acc
 |(m,k)::r,acc,n,h=>by
  unfold dU;rcases a6.mp h with e |h
  ·cases e;exact zZ dN
  ·split
   ·exact z0 h
   ·exact z0 h
theorem su:∀{names:List (Str×NameKind)}{h:Heap}{acc:List (Str×Addr)}{x:Str}{c:Addr},(x,c)∈cellsFrom h.objs.size names acc->(x,c)∈acc\/((x,.cell)∈names/\h.objs.size<=c/\HU (pushCells h names) c none)
 |[],_,_,_,_,h=>.inl h
 |(n,k)::r,h,acc,x,c,hm=>by
  unfold cellsFrom at hm;unfold pushCells;split at hm
  ·rename_i hk
   rw[ai hk];have hk:k=.cell:=by simpa using hk
   rw[<-eO h {cls:=.type "cell",data:=.cell none}]at hm;rcases su hm with hm |⟨h1,h2,h3⟩
   ·rcases a6.mp hm with e |hm
    ·cases e;exact .inr ⟨hk▸dN,aI _,_,FX r _ _ _ (cF _ rfl),rfl⟩
    ·exact .inl hm
   ·rw[eO]at h2;exact .inr ⟨bQ _ h1,FY h2,h3⟩
  ·rename_i hk
   rw[ah hk];rcases su hm with hm |⟨h1,h2,h3⟩
   ·exact .inl hm
   ·exact .inr ⟨bQ _ h1,h2,h3⟩
theorem vI:∀{names:List (Str×NameKind)}{n:Nat}{acc:List (Str×Addr)}{p:Str×Addr},p∈acc->p∈cellsFrom n names acc
 |[],_,_,_,h=>h
 |(m,k)::r,n,acc,p,h=>by
  unfold cellsFrom;split
  ·exact vI (bQ _ h)
  ·exact vI h
theorem z5:∀{names:List (Str×NameKind)}{n:Nat}{acc:List (Str×Addr)}{x:Str},(x,.cell)∈names->∃c,(x,c)∈cellsFrom n names acc
 |(m,k)::r,n,acc,x,h=>by
  unfold cellsFrom;rcases a6.mp h with e |h
  ·cases e;exact⟨n,vI dN⟩
  ·split
   ·exact z5 h
   ·exact z5 h
theorem z7:∀{names:List (Str×NameKind)}{h:Heap}{acc:List (Str×Addr)}{x y:Str}{c:Addr},(∀p∈acc,p.2<h.objs.size)->(∀x y c,(x,c)∈acc->(y,c)∈acc->x=y)->(x,c)∈cellsFrom h.objs.size names acc->(y,c)∈cellsFrom h.objs.size names acc->x=y
 |[],_,_,_,_,_,_,hi,h1,h2=>hi _ _ _ h1 h2
 |(n,k)::r,h,acc,x,y,c,hl,hi,h1,h2=>by
  unfold cellsFrom at h1 h2;split at h1
  ·rename_i hk
   rw[ai hk]at h2;rw[<-eO h {cls:=.type "cell",data:=.cell none}]at h1 h2;refine z7 (h:=h.push _) (λp hp=>?_) (λx y c a b=>?_) h1 h2
   ·rw[eO];rcases a6.mp hp with rfl |hp
    ·exact uN _
    ·exact rH (hl p hp)
   ·rcases a6.mp a with e |a<;>rcases a6.mp b with e' |b
    ·cases e;cases e';rfl
    ·cases e;exact absurd (hl _ b) (l8 _)
    ·cases e';exact absurd (hl _ a) (l8 _)
    ·exact hi _ _ _ a b
  ·rename_i hk
   rw[ah hk]at h2;exact z7 hl hi h1 h2
theorem TZ{M:Model}{A:Around}{E:Value->Shared->Prop}{s:Shared}{scope:Scope}{globals:Addr}{closure:List (Str×Addr)}{qual:Str}{func:Option Addr}{code:Value}{around:Env}{builtins:Addr}{Q:Env->Shared->Prop} (h:Q (newEnv scope s.heap.objs.size globals (cellsFrom (s.heap.objs.size+1) scope.names closure) qual func code (some around) builtins) {s with heap:=pushCells (s.heap.push {cls:=.type "dict",data:=.dict #[]}) scope.names}):wpAny M A (newFunctionEnv scope globals closure [] qual func code (some around) builtins) Q E s:=by
 simp only[newFunctionEnv,Option.isSome_some,rF];refine ag (wpAny_alloc ?_);refine ag (wpAny_layCells _ (λn k c=>rfl) scope.names closure _ _ ?_);rw[show({s with heap:=s.heap.push {cls:=.type "dict",data:=.dict #[]}}:Shared).heap.objs.size=s.heap.objs.size+1 from eO ..];rw[List.forIn_nil];exact ag (az (az h))
theorem z8{sc:Scope}:∀{names:List (Str×NameKind)}{x:Str}{k:NameKind},(names.map λ(n,k)=>if (k==NameKind.free&&sc.kind==.function&&sc.names.lookup n==some .cell)then (n,NameKind.cell)else (n,k)).lookup x=some k->∃k',names.lookup x=some k'/\(k=k'\/(k'=.free/\k=.cell))
 |[],_,_,h=>by simp at h
 |(n,k₀)::r,x,k,h=>by
  have ih:=@z8 sc r x k;have h':List.lookup x ((if (k₀==NameKind.free&&sc.kind==.function&&sc.names.lookup n==some .cell)=true then (n,NameKind.cell)else (n,k₀))::(r.map _))=some k:=h;cases hx:x==n with
  |true=>
   simp only[ny,hx];by_cases hc:(k₀==NameKind.free&&sc.kind==.function&&sc.names.lookup n==some .cell)=true
   ·rw[ai hc]at h';simp only[ny,hx]at h';cases h';simp only[fe,jX]at hc;exact⟨k₀,rfl,.inr ⟨hc.1.1,rfl⟩⟩
   ·rw[ah hc]at h';simp only[ny,hx]at h';cases h';exact⟨_,rfl,.inl rfl⟩
  |false=>
   simp only[ny,hx];by_cases hc:(k₀==NameKind.free&&sc.kind==.function&&sc.names.lookup n==some .cell)=true
   ·rw[ai hc]at h';simp only[ny,hx]at h';exact ih h'
   ·rw[ah hc]at h';simp only[ny,hx]at h';exact ih h'
structure c9(N:List Str)(sc scope:Scope)(own:List (Str×Nat)):Prop where
 kind:scope.kind=.function
 uniq:∀y∈scope.names,scope.names.lookup y.1=some y.2
 ix:∀p∈own,N[p.2]? =some p.1
 free:∀y∈scope.names,y.2=.free->sc.names.lookup y.1=some .cell\/sc.names.lookup y.1=some .free
 own:∀y∈scope.names,y.2=.local\/y.2=.cell->y.1∈own.map (·.1)\/y.1 ∉ N
def be(σ:St):List Nat->St
 |[]=>σ
 |v::vs=>(be σ vs).set v none
theorem z9(σ:St):∀vs:List Nat,(be σ vs).length=σ.length
 |[]=>rfl
 |v::vs=>by unfold be;rw[gn,z9 σ vs]
theorem z_{σ:St}{i:Nat}{x:V}:∀{vs:List Nat},(be σ vs)[i]? =some (some x)->σ[i]? =some (some x)/\i ∉ vs
 |[],h=>⟨h,by simp⟩
 |v::vs,h=>by
  unfold be at h;by_cases hi:v=i
  ·subst hi;by_cases hv:v<(be σ vs).length
   ·rw[kR hv]at h;cases h
   ·rw[jA (by simpa using hv)]at h;cases h
  ·rw[m8 hi]at h;obtain⟨h1,h2⟩:=z_ h;exact⟨h1,by simp only[a6,not_or];exact⟨λe=>hi e.symm,h2⟩⟩
abbrev Cx.blk(X:Cx)(s:Shared)(H:Hp)(scope:Scope)(cenv:Env)(fp:List Addr):Cx:= {X with s₀:=s,H₀:=H,env:=cenv,outer:=X.stack,ex:=fp,fn:=λx=>scope.names.lookup x==some .cell,pn:=[],xe:=λ_ _=>False}
section
variable{X:Cx}{pins:List (Addr×Obj)}{σ:St}{H:Hp}{s:Shared}
theorem T1{scope:Scope}{own:List (Str×Nat)}{fp:List Addr}(I:Inv X pins σ H s)(ok:c9 X.N X.env.scope scope own)(hN:X.N.Nodup)(hfp:∀b∈fp,fm X pins H b/\b<s.heap.objs.size):Inv (X.blk s H scope (compEnvC scope (cellsFrom (s.heap.objs.size+1) scope.names (dU X.env.cells scope.names [])) s.heap.objs.size X.env) fp) [] (be σ (own.map (·.2))) H {s with heap:=pushCells (s.heap.push {cls:=.type "dict",data:=.dict #[]}) scope.names}:=by
 have hfree:∀y∈scope.names,y.2=.free->∃c,X.env.cells.lookup y.1=some c:=λy hy e=>by
  rcases ok.free y hy e with k |k
  ·exact I.ok.has _ (.inl k)
  ·exact I.ok.has _ (.inr k)
 generalize sv:compEnvC scope (cellsFrom (s.heap.objs.size+1) scope.names (dU X.env.cells scope.names [])) s.heap.objs.size X.env=cenv;have kp:∀b o,s.heap.get? b=some o->(pushCells (s.heap.push {cls:=.type "dict",data:=.dict #[]}) scope.names).get? b=some o:=λb o e=>FX _ _ _ _ (br _ e)
 have hL:cenv.locals=s.heap.objs.size:=by rw[<-sv];rfl
 have hcl:cenv.cells=cellsFrom (s.heap.objs.size+1) scope.names (dU X.env.cells scope.names []):=by rw[<-sv];rfl
 have hsc:cenv.scope=TX scope X.env.scope:=by rw[<-sv];rfl
 rw[<-eO s.heap {cls:=.type "dict",data:=.dict #[]}]at hcl;have cm:∀{y c},(y,c)∈dU X.env.cells scope.names []->X.env.cells.lookup y=some c/\c<s.heap.objs.size:=λ{y c} hm=>by
  rcases vH hm with hm |⟨h1,rfl⟩
  ·cases hm
  ·obtain⟨c,hc⟩:=hfree _ h1 rfl;rw[hc];obtain⟨w,z⟩:=I.cell _ _ hc;exact⟨rfl,z.lt⟩
 have mem:∀{y c},cenv.cells.lookup y=some c->(X.env.cells.lookup y=some c/\c<s.heap.objs.size)\/(s.heap.objs.size+1<=c/\HU (pushCells (s.heap.push {cls:=.type "dict",data:=.dict #[]}) scope.names) c none):=λ{y c} e=>by
  rw[hcl]at e;rcases su (iz e)with hm |⟨_,h2,h3⟩
  ·exact .inl (cm hm)
  ·rw[eO]at h2;exact .inr ⟨h2,h3⟩
 have look:∀{y},scope.names.lookup y=some .free->∃c,cenv.cells.lookup y=some c/\X.env.cells.lookup y=some c:=λ{y} hl=>by
  have hy:(y,NameKind.free)∈scope.names:=iz hl;obtain⟨c',e'⟩:=mem_lookup (vI (names:=scope.names) (n:=(s.heap.push {cls:=.type "dict",data:=.dict #[]}).objs.size) (z0 (cells:=X.env.cells) (acc:=[]) hy));rw[<-hcl]at e';refine⟨c',e',?_⟩;rw[hcl]at e';rcases su (iz e')with hm |⟨h1,_,_⟩
  ·exact(cm hm).1
  ·have:=ok.uniq _ h1;rw[hl]at this;cases this
 have okB:(X.blk s H scope cenv fp).Ok:=by
  refine⟨I.ok.mod,by show cenv.scope.kind=_;rw[hsc];exact ok.kind,by show cenv.globals=_;rw[<-sv];exact I.ok.glob,by show cenv.builtins=_;rw[<-sv];exact I.ok.blt,by show s.heap.objs.size<=cenv.locals;rw[hL];exact aI _,λy z c e1 e2=>?_,λy hy=>?_,λy c z e=>?_,I.ok.hd,I.ok.frames,.inl rfl,λb hb=>⟨?_,λy c e z=>?_⟩,I.bs,bE I.ok.iG I.sz,λb o e hb=>?_,λb hb z=>?_,I.stack,I.zq⟩
  ·have e1:cenv.cells.lookup y=some c:=e1;have e2:cenv.cells.lookup z=some c:=e2;rw[hcl]at e1 e2;refine z7 (λp hp=>?_) (λy z c a b=>I.ok.inj y z c (cm a).1 (cm b).1) (iz e1) (iz e2);rw[eO];exact rH (cm (y:=p.1) (c:=p.2) hp).2
  ·show ∃c,cenv.cells.lookup y=some c;have key:∀k,cenv.kindOf y=some k->(k=.cell\/k=.free)->∃c,cenv.cells.lookup y=some c:=λk hk hk'=>by
    unfold Env.kindOf at hk;rw[hsc]at hk;obtain⟨k',e,r⟩:=z8 hk;have:k'=.cell\/k'=.free:=by
     rcases r with rfl |⟨rfl,_⟩
     ·exact hk'
     ·exact .inr rfl
    rcases this with rfl |rfl
    ·obtain⟨c,hm⟩:=z5 (n:=(s.heap.push {cls:=.type "dict",data:=.dict #[]}).objs.size) (acc:=dU X.env.cells scope.names []) (iz e);obtain⟨c',e'⟩:=mem_lookup hm;exact⟨c',by rw[hcl];exact e'⟩
    ·obtain⟨c,h1,_⟩:=look e;exact⟨c,h1⟩
   rcases hy with hy |hy
   ·exact key _ hy (.inl rfl)
   ·exact key _ hy (.inr rfl)
  ·have z:(scope.names.lookup y==some NameKind.cell)=true:=z;have z:scope.names.lookup y=some .cell:=by simpa using z
   have e:cenv.cells.lookup y=some c:=e;rw[hcl]at e;rcases su (iz e)with hm |⟨_,h2,_⟩
   ·rcases vH hm with hm |⟨h1,_⟩
    ·cases hm
    ·have q:=ok.uniq _ h1;rw[z]at q;cases q
   ·rw[eO]at h2;exact FY h2
  ·show b≠cenv.locals;rw[hL];exact bT (hfp b hb).2
  ·have e:cenv.cells.lookup y=some c:=e;rcases mem e with ⟨h1,_⟩ |⟨h1,_⟩
   ·exact(hfp b hb).1.2.2.2.2.1 y c h1 z
   ·have h2:s.heap.objs.size+1<=b:=by rw[<-z];exact h1
    exact absurd (dM (hfp b hb).2 (FY h2)) (l8 _)
  ·rcases(hfp b hb).1.2.2.2.1 with z |z
   ·exact I.ok.k7 b o e z
   ·exact absurd (dM (ba e) (bE I.ok.iG z)) (l8 _)
  ·rcases a6.mp (I.rS b z)with z |z
   ·exact(hfp b hb).1.2.1 z
   ·exact(hfp b hb).1.2.2.1 z
 refine⟨okB,rfl,I.bare,Un.kept kp,⟨λ_=>none,?_,λi y av e1 e2 e3=>?_⟩,λy c e=>?_,?_,λy c e=>?_,λp hp=>?_,I.hok.kept kp,by rw[z9];exact I.len⟩
 ·show Heap.Ns _ cenv.locals _;rw[hL];exact Heap.Ns.keeps (Heap.Ns.new ..) λb o e=>FX _ _ _ _ e
 ·obtain⟨e2,hne⟩:=z_ e2;have hfr:scope.names.lookup y=some .free/\(cenv.kindOf y=some .cell\/cenv.kindOf y=some .free):=by
   have key:∀k,cenv.scope.names.lookup y=some k->k=.local\/k=.cell\/k=.free->scope.names.lookup y=some .free/\(cenv.kindOf y=some .cell\/cenv.kindOf y=some .free):=λk hk hk'=>by
    have hk0:=hk;rw[hsc]at hk;obtain⟨k',e,r⟩:=z8 hk;have no:¬(k'=.local\/k'=.cell):=λhh=>by
     rcases ok.own _ (iz e) hh with e' |e'
     ·obtain⟨p,hp,hpy⟩:=d_.mp e';have e3:=ok.ix p hp;have:p.1=y:=hpy;rw[this]at e3;exact hne (d_.mpr ⟨p,hp,zu hN e3 e1⟩)
     ·exact e' (bu e1)
    rcases r with rfl |⟨rfl,rfl⟩
    ·rcases hk' with rfl |rfl |rfl
     ·exact absurd (.inl rfl) no
     ·exact absurd (.inr rfl) no
     ·exact⟨e,.inr hk0⟩
    ·exact⟨e,.inl hk0⟩
   have e3:qc cenv.scope y:=e3;rcases e3 with e3 |e3 |e3
   ·exact key _ e3 (.inl rfl)
   ·exact key _ e3 (.inr (.inl rfl))
   ·exact key _ e3 (.inr (.inr rfl))
  obtain⟨m,hn,hl⟩:=I.loc;have T2:qc X.env.scope y:=(ok.free _ (iz hfr.1) rfl).elim (λk=>.inr (.inl k)) (λk=>.inr (.inr k));obtain⟨w,r,q⟩:=hl i y av e1 e2 T2;refine⟨w,r,.inr ⟨hfr.2,?_⟩⟩;obtain⟨c,h1,h2⟩:=look hfr.1;rcases q with ⟨k,_⟩ |⟨_,c',e',z⟩
  ·have k:X.env.scope.names.lookup y=some .local:=k;rcases ok.free _ (iz hfr.1) rfl with k' |k'<;>rw[show X.env.scope.names.lookup y=_ from k']at k<;>cases k
  ·rw[h2]at e';cases e';exact⟨c,h1,z.keeps kp⟩
 ·have e:cenv.cells.lookup y=some c:=e;rcases mem e with ⟨h1,_⟩ |⟨_,z⟩
  ·obtain⟨w,z⟩:=I.cell y c h1;exact⟨w,z.keeps kp⟩
  ·exact⟨_,z⟩
 ·show H cenv.locals=none;rw[hL];exact I.hok.fresh (aI _)
 ·have e:cenv.cells.lookup y=some c:=e;rcases mem e with ⟨h1,_⟩ |⟨h1,_⟩
  ·exact I.fg y c h1
  ·exact I.hok.fresh (FY h1)
 ·exact absurd (show p∈([]:List (Addr×Obj))++[] from hp) (by simp)
theorem T3{E:Value->Shared->Prop}{D:Addr}{xs:List V}{y:V}{v:Value}{Q:Value->Shared->Prop}(I:Inv X pins σ H s)(hD:H D=some (.lst xs))(hz:xs.length<sizeLine)(r:RelV y v) (h:∀s',Inv X pins σ (upd H D (.lst (xs++[y]))) s'->Q .none s'):wpAny (model X.prog X.w) X.A (call (.builtin "list.append") [.ref D,v]) Q E s:=by
 obtain⟨hz',its,n,ri,e⟩:=I.hok D _ hD;have hl:=ri.length;refine append_at (hsz:=by rw[cJ];omega) e λh' sb ho'=>?_
 refine h {s with heap:=h'} (I.write (t':=s.toks) (by rw[hD];trivial) (.inl rfl) (λb u hb q=>(sb.2 b hb).trans q) ⟨_,ho'⟩ ⟨by rw[bo];exact hz,its++[v],n+1,ri.append (.cons r .nil),?_⟩);rw[ho'];simp
def sx(X:Cx)(ifs:List Expr)(t:TT):Prop:=∀(pins:List (Addr×Obj))(s:Shared)(σ:St)(H:Hp)(Q:Bool->Hp->Prop),Inv X pins σ H s->t σ H Q->wpAny (model X.prog X.w) X.A (forIn ifs true λc r=>if r=true then do let ok<-isTrue c X.env (eval c X.env);pure (ForInStep.yield ok)else pure (ForInStep.yield r)) (TP X pins σ Q) X.xe s
def vJ:TT:=λ_ H Q=>Q true H
theorem eF:sx X [] vJ:=λ_ _ _ H _ I h=>wpAny_tests_nil ⟨H,I,h⟩
theorem HW{c:Expr}{t:TT}(h:PT X c t):sx X [c] t:=λpins s σ H Q I hw=>wpAny_tests_one (h pins s σ H Q I hw)
end
theorem qr{α:Type}{t:Sem α}{Q Q':α->Shared->Prop}{M:Model}{A:Around}{E:Value->Shared->Prop}{s:Shared}(h:wpAny M A t Q (λ_ _=>False) s)(hQ:∀a s,Q a s->Q' a s):wpAny M A t Q' E s:=dq h hQ λ_ _ z=>False.elim z
theorem T4{prog:Program}{w:World}{A:Around}{R:Result->Shared->Prop}{s:Shared}{elt target iter:Expr}{ifs:List Expr}{scope:Scope}{pos:Pos}{it acc:Value}{env:Env}(I:Nat->Shared->Prop) (turn:∀n s,I n s->wpAny (model prog w) A (pyNext it) (λr s₁=>match r with
   |none=>R (.ok .next) s₁
   |some v=>wpAny (model prog w) A (letOwnedTupleGo target it v) (λ_ s₁'=>wpAny (model prog w) A (assign target env v) (λ_ s₂=>
     wpAny (model prog w) A (forIn ifs true λc r=>if r=true then do let ok<-isTrue c env (eval c env);pure (ForInStep.yield ok)else pure (ForInStep.yield r)) (λok s₃=>
      if ok=true then wpAny (model prog w) A (eval elt env) (λx s₄=>wpAny (model prog w) A (call (.builtin "list.append") [acc,x]) (λ_ s₅=>∃m,m<n/\I m s₅) (notedBy (model prog w) A env λe s'=>R (.error e) s') s₄) (notedBy (model prog w) A env λe s'=>R (.error e) s') s₃
      else ∃m,m<n/\I m s₃) (notedBy (model prog w) A env λe s'=>R (.error e) s') s₂) (notedBy (model prog w) A env λe s'=>R (.error e) s') s₁') (notedBy (model prog w) A env λe s'=>R (.error e) s') s₁) (notedBy (model prog w) A env λe s'=>R (.error e) s') s)
  (n:Nat)(h:I n s):
  codeAny (model prog w) A (.compLoop (.ListComp elt [⟨target,iter,ifs,0⟩] scope pos) 0 it acc env) R s:=by
 refine codeAny_loop rfl I (λn s hI=>?_) n h;show wpAny _ A ((compTurn (.ListComp elt [⟨target,iter,ifs,0⟩] scope pos) 0 it acc env).onRaise (λx=>do noteFrame x env;theTreesLotGoes x)) _ _ s;refine wpAny_noted ?_;rw[compTurn_list];refine ag (uM (ag (dq (turn n s hI) (λr s₁ h₁=>?_) λ_ _ h'=>h')));cases r with
 |none=>exact az h₁
 |some v=>
  refine ag (dq h₁ (λ_ s₁' h₁'=>?_) λ_ _ h'=>h');refine ag (dq h₁' (λ_ s₂ h₂=>ag (dq h₂ (λok s₃ h₃=>?_) λ_ _ h'=>h')) λ_ _ h'=>h');cases ok with
  |false=>exact az ⟨rfl,h₃⟩
  |true=>exact ag (ag (dq h₃ (λx s₄ h₄=>ag (dq h₄ (λ_ s₅ h₅=>az (az ⟨rfl,h₅⟩)) λ_ _ h'=>h')) λ_ _ h'=>h'))
section
variable{X:Cx}
def sy(wi:TI)(g:TG)(tt:TT)(te:TE)(vs:List Nat):TE:=λσ H Q=>wi σ H λJ H1=>∀D,H1 D=none->∃W:Nat->Nat->Hp->Prop,(∃m,W 0 m (upd H1 D (.lst [])))/\∀i m H,W i m H->(J.stop i H/\Q (.ref D) H)\/(J.go i H/\∃Nx:Hp->Prop,(∀H',Nx H'->∃m',m'<m/\W (i+1) m' H')/\∀x H',J.gB i H x H'->g x (be σ vs) H' λσ2 H2=>be σ2 vs=be σ vs/\tt σ2 H2 λb H3=>if b=true then te σ2 H3 λy H4=>∃acc,H4 D=some (.lst acc)/\acc.length<sizeLine/\Nx (upd H4 D (.lst (acc++[y])))else Nx H3)
theorem HX{pins:List (Addr×Obj)}{s:Shared}{σ:St}{H:Hp}{Q:VK}{elt tg iter:Expr}{ifs:List Expr}{scope:Scope}{own:List (Str×Nat)}{pos pos':Pos}{wi:TI}{g:TG}{tt:TT}{te:TE}{use:Option (Value->Sem Unit)}{Qf:Value->Shared->Prop} (hc:X.calm=true)(hN:X.N.Nodup)(I:Inv X pins σ H s)(hi:PI X tg iter wi)(ok:c9 X.N X.env.scope scope own) (hg:∀(s:Shared)(H:Hp)(C:Addr)(cl:List (Str×Addr))(fp:List Addr),PG (X.blk s H scope (compEnvC scope cl C X.env) fp) tg g)(ht:∀(s:Shared)(H:Hp)(C:Addr)(cl:List (Str×Addr))(fp:List Addr),sx (X.blk s H scope (compEnvC scope cl C X.env) fp) ifs tt) (he:∀(s:Shared)(H:Hp)(C:Addr)(cl:List (Str×Addr))(fp:List Addr),PE (X.blk s H scope (compEnvC scope cl C X.env) fp) elt te)(hs:∀x,foldedSetIterable iter X.env x=pure x) (h:sy wi g tt te (own.map (·.2)) σ H Q) (hRR:∀D C s' m H',Inv X pins σ H' s'->Q (.ref D) H'->s'.heap.Ns C m->fm X pins H' C->compPost (model X.prog X.w) X.A X.xe use Qf (.ref D) C (.ok .next) s'):wpAny (model X.prog X.w) X.A (comprehension (.ListComp elt [⟨tg,iter,ifs,0⟩] scope pos) scope X.env pos' (newList []) false (eval iter X.env) use) Qf X.xe s:=by
 have hfree:∀y∈scope.names,y.2=.free->∃c,X.env.cells.lookup y.1=some c:=λy hy e=>by
  rcases ok.free y hy e with k |k
  ·exact I.ok.has _ (.inl k)
  ·exact I.ok.has _ (.inr k)
 refine wpAny_comprehension_free (use:=use) rfl hs (TY hfree) ok.kind (λy hy e=>by rw[ok.uniq y hy,e]) (aF (hi pins s σ H _ I h) λxv s1 hx=>aF hx λitv s2 h2=>?_)
 obtain⟨it,fp,tn,J,H2,e,I2,T,st2,f2,q⟩:=h2;subst e;refine jc (TZ ?_) (by show 0<=sizeLine;decide);generalize hD:s2.heap.objs.size=D;have hDn:H2 D=none:=I2.hok.fresh (nc hD);obtain⟨W,⟨m0,w0⟩,turn⟩:=q D hDn;generalize hs3:({s2 with heap:=s2.heap.push {cls:=.type "list",data:=.seq ([]:List Value).toArray}}:Shared)=s3;have I3:Inv X pins σ (upd H2 D (.lst [])) s3:=by rw[<-hs3];refine I2.laid (t':=s2.toks) (λb o e=>br _ e) (nc hD) ⟨b9 _,[],0,.nil,?_⟩;rw[<-hD];exact cF _ rfl
 have h3:s3.heap=s2.heap.push {cls:=.type "list",data:=.seq ([]:List Value).toArray}:=by rw[<-hs3]
 have sz:∀b∈fp,b<s2.heap.objs.size:=λb hb=>by obtain⟨o,e,_⟩:=T.obj _ _ st2 b hb;exact ba e
 have f3:∀b∈fp,fm X pins (upd H2 D (.lst [])) b/\b<s3.heap.objs.size:=λb hb=>by have hlt:=sz b hb;refine⟨⟨?_,(f2 b hb).2⟩,by rw[h3,eO];exact rH hlt⟩;rw[ay (by rw[<-hD];exact bT hlt)];exact(f2 b hb).1
 have st3:tn 0 s3.heap:=T.keep _ _ _ st2 λb _ o e=>by rw[h3];exact br _ e
 have I4:=T1 I3 ok hN f3;have pg:=hg s3 (upd H2 D (.lst [])) s3.heap.objs.size (cellsFrom (s3.heap.objs.size+1) scope.names (dU X.env.cells scope.names [])) fp;have pt:=ht s3 (upd H2 D (.lst [])) s3.heap.objs.size (cellsFrom (s3.heap.objs.size+1) scope.names (dU X.env.cells scope.names [])) fp;have pe:=he s3 (upd H2 D (.lst [])) s3.heap.objs.size (cellsFrom (s3.heap.objs.size+1) scope.names (dU X.env.cells scope.names [])) fp;show codeAny _ _ (.compStart (.ListComp elt [⟨tg,iter,ifs,0⟩] scope pos) 0 (.ref it) (.ref D) (compEnvC scope (cellsFrom (s3.heap.objs.size+1) scope.names (dU X.env.cells scope.names [])) s3.heap.objs.size X.env)) (compPost (model X.prog X.w) X.A X.xe use Qf (.ref D) s3.heap.objs.size) {s3 with heap:=pushCells (s3.heap.push {cls:=.type "dict",data:=.dict #[]}) scope.names};have nfp:∀b∈fp,(upd H2 D (.lst [])) b=none:=λb hb=>(f3 b hb).1.1
 generalize hce:compEnvC scope (cellsFrom (s3.heap.objs.size+1) scope.names (dU X.env.cells scope.names [])) s3.heap.objs.size X.env=ce at I4 pg pt pe ⊢;have cL:ce.locals=s3.heap.objs.size:=by subst hce;rfl
 generalize hH3:upd H2 D (.lst [])=H3 at I3 I4 pg pt pe w0 nfp f3;generalize hs4:({s3 with heap:=pushCells (s3.heap.push {cls:=.type "dict",data:=.dict #[]}) scope.names}:Shared)=s4 at I4 ⊢;have st4:tn 0 s4.heap:=T.keep _ _ _ st3 λb _ o e=>by rw[<-hs4];exact FX _ _ _ _ (br _ e)
 have stat:∀{σ':St}{H':Hp}{s':Shared},Inv (X.blk s3 H3 scope ce fp) [] σ' H' s'->(∀b∈fp,H' b=none)->∀b∈fp,fm (X.blk s3 H3 scope ce fp) [] H' b:=λ{σ' H' s'} I' hn b hb=>⟨hn b hb,(I'.ok.mh b hb).1,I'.ok.k9 b hb,.inl hb,λx c e=>(I'.ok.mh b hb).2 x c e,λp hp=>absurd (show p∈([]:List (Addr×Obj))++[] from hp) (by simp)⟩
 have loop:codeAny (model X.prog X.w) X.A (.compLoop (.ListComp elt [⟨tg,iter,ifs,0⟩] scope pos) 0 (.ref it) (.ref D) ce) (compPost (model X.prog X.w) X.A X.xe use Qf (.ref D) s3.heap.objs.size) s4:=by
  refine T4 (λn s'=>∃i H',Inv (X.blk s3 H3 scope ce fp) [] (be σ (own.map (·.2))) H' s'/\tn i s'.heap/\(∀b∈fp,H' b=none)/\W i n H') ?_ m0 ⟨0,H3,I4,st4,nfp,w0⟩
  rintro n s5 ⟨i,H5,I5,st5,n5,w5⟩
  rcases turn i n H5 w5 with ⟨stop,qq⟩ |⟨go,Nx,hNx,step⟩
  ·have td:=T.done (X.blk s3 H3 scope ce fp) rfl rfl rfl hc i [] s5 _ H5 (λ_ _=>False) I5 (stat I5 n5) st5 stop;refine qr td λr s6 ⟨hr,I6⟩=>?_
   subst hr;have I7:Inv X pins σ H5 s6:=I3.zw (ch:=fp) I6.os I6.base I6.hok I6.bare λb hb=>⟨(f3 b hb).1.2.2.2.1,(f3 b hb).1.2.1,(f3 b hb).1.2.2.2.2.1,(f3 b hb).1.2.2.2.2.2⟩
   have nC:H5 s3.heap.objs.size=none:=by have z:H5 ce.locals=none:=I6.free;rw[cL]at z;exact z
   obtain⟨m,hn,_⟩:=I6.loc;have hn:s6.heap.Ns ce.locals m:=hn;rw[cL]at hn;exact hRR D s3.heap.objs.size s6 m H5 I7 qq hn (I3.jh (aI _) nC)
  ·have ti:=T.item (X.blk s3 H3 scope ce fp) rfl rfl rfl hc i [] s5 _ H5 (λ_ _=>False) I5 (stat I5 n5) st5 go;refine qr ti λr s6 ⟨u,hr,h6⟩=>?_
   subst hr;refine qr h6 λ_ s7 ⟨x,H7,I7,r7,y7,Aa,n7⟩=>?_
   have I7':=I7.pinned (stat I7 n7) (T.obj _ _ Aa);refine qr (pg _ s7 _ H7 x u _ I7' r7 (step x H7 y7)) λ_ s8 ⟨vK,H8,I8,hw8,q8⟩=>?_
   refine qr (pt _ s8 vK H8 _ I8 q8) λb s9 ⟨H9,I9,q9⟩=>?_
   have fin:∀{s':Shared}{H':Hp},Inv (X.blk s3 H3 scope ce fp) ([]++rW fp s7.heap) vK H' s'->Nx H'->∃m,m<n/\∃i H',Inv (X.blk s3 H3 scope ce fp) [] (be σ (own.map (·.2))) H' s'/\tn i s'.heap/\(∀b∈fp,H' b=none)/\W i m H':=λ{s' H'} I' nx=>by
    obtain⟨m',hm,w'⟩:=hNx H' nx;have pin':∀b∈fp,∀o,s7.heap.get? b=some o->s'.heap.get? b=some o/\H' b=none:=λb hb o e=>
     let z:=I'.pin (b,o) (jz _ (jz _ (zC hb e)))
     ⟨z.1,z.2.1⟩
    have hl:(be σ (own.map (·.2))).length=vK.length:=by rw[<-hw8,z9]
    refine⟨m',hm,i+1,H',(I'.vq (pins:=[])).weak hl (λj v e=>?_),T.keep _ _ _ Aa λb hb o e=>(pin' b hb o e).1,λb hb=>?_,w'⟩
    ·rw[<-hw8]at e;exact(z_ e).1
    ·obtain⟨o,e,_⟩:=T.obj _ _ Aa b hb;exact(pin' b hb o e).2
   cases b with
   |false=>simp only[pQ,jY]at q9 ⊢;exact fin I9 q9
   |true=>
    simp only[rF]at q9 ⊢;refine qr (pe _ s9 vK H9 _ I9 q9) λz s10 ⟨yv,H10,I10,Ab,acc,T6,T7,nx⟩=>?_
    exact T3 (X:=X.blk s3 H3 scope ce fp) I10 T6 T7 Ab λs11 I11=>fin I11 nx
 exact codeAny_compStart_list loop (T.self X.A 0 _ _ _ st4 loop)
theorem ia{elt tg iter:Expr}{ifs:List Expr}{scope:Scope}{own:List (Str×Nat)}{pos:Pos}{wi:TI}{g:TG}{tt:TT}{te:TE}(hc:X.calm=true)(hN:X.N.Nodup)(hi:PI X tg iter wi)(ok:c9 X.N X.env.scope scope own) (hg:∀(s:Shared)(H:Hp)(C:Addr)(cl:List (Str×Addr))(fp:List Addr),PG (X.blk s H scope (compEnvC scope cl C X.env) fp) tg g)(ht:∀(s:Shared)(H:Hp)(C:Addr)(cl:List (Str×Addr))(fp:List Addr),sx (X.blk s H scope (compEnvC scope cl C X.env) fp) ifs tt) (he:∀(s:Shared)(H:Hp)(C:Addr)(cl:List (Str×Addr))(fp:List Addr),PE (X.blk s H scope (compEnvC scope cl C X.env) fp) elt te)(hs:∀x,foldedSetIterable iter X.env x=pure x:=by intro _;rfl):PE X (.ListComp elt [⟨tg,iter,ifs,0⟩] scope pos) (sy wi g tt te (own.map (·.2))):=by
 intro pins s σ H Q I h;rw[eval_ListComp];refine HX hc hN I hi ok hg ht he hs h λD C s' m H' I' q hn f=>⟨m,hn,λh'' sb=>?_⟩
 obtain⟨f0,f1,f2,f3,f4,f5⟩:=f;exact⟨.ref D,H',I'.turned (t':=s'.toks) (λb o hb e=>(sb.2 b hb).trans e) f0 f1 f3 f4 f5,rfl,q⟩
theorem my{i:Nat}{y:Str}{py:Pos}{elt tg iter:Expr}{ifs:List Expr}{scope:Scope}{own:List (Str×Nat)}{pos spos:Pos}{wi:TI}{g:TG}{tt:TT}{te:TE}(hc:X.calm=true)(hN:X.N.Nodup)(hy:X.N[i]? =some y)(hyl:X.env.scope.names.lookup y=some .local) (hsw:swapsWith (.ListComp elt [⟨tg,iter,ifs,0⟩] scope pos) (some (.Name y py)) spos.line X.env=pure true)(hi:PI X tg iter wi)(ok:c9 X.N X.env.scope scope own) (hg:∀(s:Shared)(H:Hp)(C:Addr)(cl:List (Str×Addr))(fp:List Addr),PG (X.blk s H scope (compEnvC scope cl C X.env) fp) tg g)(ht:∀(s:Shared)(H:Hp)(C:Addr)(cl:List (Str×Addr))(fp:List Addr),sx (X.blk s H scope (compEnvC scope cl C X.env) fp) ifs tt) (he:∀(s:Shared)(H:Hp)(C:Addr)(cl:List (Str×Addr))(fp:List Addr),PE (X.blk s H scope (compEnvC scope cl C X.env) fp) elt te)(hs:∀x,foldedSetIterable iter X.env x=pure x:=by intro _;rfl):PS X (.Assign [.Name y py] (.ListComp elt [⟨tg,iter,ifs,0⟩] scope pos) spos) (vn (sy wi g tt te (own.map (·.2))) (c6 i)):=by
 intro pins s σ H D I h;rw[exec_Assign_Name_used _ _ _ _ hsw];refine ag (uM (ag ?_));show wpAny _ X.A (do let _<-comprehension (.ListComp elt [⟨tg,iter,ifs,0⟩] scope pos) scope X.env (firstIterPos [⟨tg,iter,ifs,0⟩] pos) (newList []) false (eval iter X.env) (some (assign (.Name y py) X.env))) _ _ s;have h:sy wi g tt te (own.map (·.2)) σ H (λx H1=>c6 i x σ H1 D.nx):=h;refine ag (aF (HX (Qf:=λ_ s'=>SP X pins D .next s') hc hN I hi ok hg ht he hs h λL C s' m H' I' q hn f=>?_) λ_ s' hq=>az (az hq));show wpAny _ _ (assign (.Name y py) X.env (.ref L)) _ _ _;refine wpAny_assign_Name (Gj (v:=V.ref L) I' hN hy (.inl hyl) rfl (λs2 I2 ⟨a,sb,ha⟩=>?_) (.inr hyl));obtain⟨f0,f1,f2,f3,f4,f5⟩:=f;have haC:C≠a:=by
  rcases ha with z |z
  ·rw[z];exact f1
  ·exact λe=>f4 y a z e.symm
 refine⟨m,hn.sameBut sb haC,λh3 sb3=>?_⟩;exact⟨_,H',I2.turned (t':=s2.toks) (λb o hb e=>(sb3.2 b hb).trans e) f0 f1 f3 f4 f5,q⟩
end
section
variable{prog:Program}{w:World}{A:Around}{R:Result->Shared->Prop}{s:Shared}{elt t0 i0 t1 i1:Expr}{ifs0 ifs1:List Expr}{scope:Scope}{pos:Pos}{it acc:Value}{env:Env}
end
section
variable{X:Cx}
end
section
variable{κ:Type} [DecidableEq κ]
def bV(kvs:List (κ×V))(k:κ):Option V:=(kvs.find? λkv=>decide (kv.1=k)).map (·.2)
def dJ(kvs:List (κ×V))(k:κ)(v:V):List (κ×V):=if (kvs.any λkv=>decide (kv.1=k))=true then kvs.map (λkv=>if kv.1=k then (kv.1,v)else kv)else kvs++[(k,v)]
theorem f_{p:κ×V}{r:List (κ×V)}{k:κ}(e:p.1=k):bV (p::r) k=some p.2:=by simp[bV,kS,e]
theorem gb{p:κ×V}{r:List (κ×V)}{k:κ}(e:¬p.1=k):bV (p::r) k=bV r k:=by simp[bV,kS,e]
theorem qt(k:κ):∀kvs:List (κ×V),(kvs.any λkv=>decide (kv.1=k))=(bV kvs k).isSome
 |[]=>rfl
 |p::r=>by
  rw[rG];by_cases e:p.1=k
  ·simp only[f_ e,bx e,Bool.true_or,Option.isSome_some]
  ·rw[gb e,a9 e,Bool.false_or];exact qt k r
theorem HY(k j:κ)(y:V):∀kvs:List (κ×V),bV (kvs.map λkv=>if kv.1=k then (kv.1,y)else kv) j=(bV kvs j).map λx=>if j=k then y else x
 |[]=>rfl
 |p::r=>by
  have ih:=HY k j y r;rw[bt];by_cases h:p.1=k
  ·rw[ai h];by_cases e:p.1=j
   ·rw[f_ (p:=(p.1,y)) e,f_ e,ma,ai (e.symm.trans h)]
   ·rw[gb (p:=(p.1,y)) e,gb e,ih]
  ·rw[ah h];by_cases e:p.1=j
   ·rw[f_ (p:=p) e,f_ e,ma,ah (λz=>h (e.trans z))]
   ·rw[gb (p:=p) e,gb e,ih]
theorem HZ(k j:κ)(y:V):∀kvs:List (κ×V),bV kvs k=none->bV (kvs++[(k,y)]) j=if j=k then some y else bV kvs j
 |[],_=>by
  by_cases e:k=j
  ·rw[ai e.symm];exact f_ (p:=(k,y)) e
  ·rw[ah (λz=>e z.symm)];exact gb (p:=(k,y)) e
 |p::r,hn=>by
  rw[Ry];have hk:¬p.1=k:=λz=>by rw[f_ z]at hn;cases hn
  rw[gb hk]at hn;have ih:=HZ k j y r hn;by_cases e:p.1=j
  ·rw[f_ e,f_ e,ah (λz=>hk (e.trans z))]
  ·rw[gb e,gb e,ih]
theorem T8(kvs:List (κ×V))(k j:κ)(y:V):bV (dJ kvs k y) j=if j=k then some y else bV kvs j:=by
 unfold dJ;by_cases a:(kvs.any λkv=>decide (kv.1=k))=true
 ·rw[ai a,HY];rw[qt]at a;by_cases e:j=k
  ·obtain⟨x,hx⟩:=rD.mp a;rw[ai e,e,hx,ma,ai rfl]
  ·rw[ah e];cases bV kvs j with
   |none=>rfl
   |some x=>rw[ma,ah e]
 ·rw[ah a];refine HZ k j y kvs ?_;rw[qt]at a;cases q:bV kvs k with
  |none=>rfl
  |some x=>rw[q]at a;exact(a rfl).elim
theorem Ac(kvs:List (κ×V))(k:κ)(v:V):(dJ kvs k v).length<=kvs.length+1:=by
 unfold dJ;split
 ·rw[aK];omega
 ·rw[bo,b6,pR];omega
theorem ff.sA{o:Option V}{u:Option Value}(r:ff o u):o.isSome=u.isSome:=by
 cases o with
 |none=>cases u with
  |none=>rfl
  |some _=>exact(show False from r).elim
 |some _=>cases u with
  |none=>exact(show False from r).elim
  |some _=>rfl
theorem KV.val{kvs:List (κ×V)}{vs:List (κ×Value)}(r:KV kvs vs)(k:κ):ff (bV kvs k) (valueAt vs k):=by
 unfold KV at r
 induction r with
 |nil=>exact True.intro
 | @cons p q ps qs h t ih=>
  obtain⟨h1,h2⟩:=h;by_cases e:p.1=k
  ·have e':q.1=k:=h1.symm.trans e;have b:valueAt (q::qs) k=some q.2:=by simp[valueAt,kS,e']
   rw[f_ e,b];exact h2
  ·have e':¬q.1=k:=λz=>e (h1.trans z)
   have b:valueAt (q::qs) k=valueAt qs k:=by simp[valueAt,kS,e']
   rw[gb e,b];exact ih
theorem KV.any{kvs:List (κ×V)}{vs:List (κ×Value)}(r:KV kvs vs)(k:κ):(kvs.any λkv=>decide (kv.1=k))=vs.any λkv=>decide (kv.1=k):=by
 unfold KV at r
 induction r with
 |nil=>rfl
 |cons h t ih=>rw[rG,rG,ih,h.1]
theorem KV.repl{kvs:List (κ×V)}{vs:List (κ×Value)}(r:KV kvs vs)(k:κ){y:V}{u:Value}(ry:RelV y u):KV (kvs.map λkv=>if kv.1=k then (kv.1,y)else kv) (vs.map λkv=>if kv.1=k then (kv.1,u)else kv):=by
 unfold KV at r ⊢
 induction r with
 |nil=>exact .nil
 | @cons p q ps qs h t ih=>
  rw[bt,bt];refine .cons ?_ ih;obtain⟨h1,h2⟩:=h;by_cases e:p.1=k
  ·rw[ai e,ai (h1.symm.trans e)];exact⟨h1,ry⟩
  ·rw[ah e,ah (λz=>e (h1.trans z))];exact⟨h1,h2⟩
theorem KV.put{kvs:List (κ×V)}{vs:List (κ×Value)}(r:KV kvs vs)(k:κ){y:V}{u:Value}(ry:RelV y u):KV (dJ kvs k y) (stored vs k u):=by
 unfold dJ stored;rw[r.any k];by_cases e:(vs.any λkv=>decide (kv.1=k))=true
 ·rw[ai e,ai e];exact r.repl k ry
 ·rw[ah e,ah e];exact Paired.snoc r ⟨rfl,ry⟩
theorem KV.length{kvs:List (κ×V)}{vs:List (κ×Value)}(r:KV kvs vs):kvs.length=vs.length:=bC r
end
theorem nX{P:Program}{w:World}{k:Key}{u:Value}(r:RelV (kV k) u):(bX P w).is k u=true:=by
 cases k with
 |inl i=>obtain⟨t,e⟩:=(show ∃t,u=Value.int i t from r);subst e;exact Se P w i t
 |inr x=>obtain⟨t,e⟩:=(show ∃t,u=Value.str x t from r);subst e;exact Sf P w x t
theorem H_{P:Program}{w:World}:∀{ks:List Key}{us:List Value},Vals (ks.map kV) us->ItemsAre (bX P w) ks us
 |[],_,r=>by rw[pP]at r;cases r;exact .nil
 |k::ks,_,r=>by
  rw[bt]at r;cases r with
  |cons h t=>exact .cons (nX h) (H_ t)
abbrev KT(H:Hp):List (List Key×V)->List (List Key×Addr×Value)->Prop:=Paired λp q=>p.1=q.1/\H q.2.1=some (.tup (p.1.map kV))/\RelV p.2 q.2.2
theorem KT.val{H:Hp}{kvs:List (List Key×V)}{xs:List (List Key×Addr×Value)}(r:KT H kvs xs)(k:List Key):ff (bV kvs k) ((atKey xs k).map (·.2)):=by
 induction r with
 |nil=>exact True.intro
 | @cons p q ps qs h t ih=>
  obtain⟨h1,_,h2⟩:=h;by_cases e:p.1=k
  ·have e':q.1=k:=h1.symm.trans e;have b:atKey (q::qs) k=some q.2:=by simp[atKey,kS,e']
   rw[f_ e,b];exact h2
  ·have e':¬q.1=k:=λz=>e (h1.trans z)
   have b:atKey (q::qs) k=atKey qs k:=by simp[atKey,kS,e']
   rw[gb e,b];exact ih
theorem KT.repl{H:Hp}{kvs:List (List Key×V)}{xs:List (List Key×Addr×Value)}(r:KT H kvs xs)(k:List Key){y:V}{u:Value}(ry:RelV y u):KT H (kvs.map λkv=>if kv.1=k then (kv.1,y)else kv) (xs.map (putAt k u)):=by
 induction r with
 |nil=>exact .nil
 | @cons p q ps qs h t ih=>
  rw[bt,bt];refine .cons ?_ ih;obtain⟨h1,h2,h3⟩:=h;unfold putAt;by_cases e:p.1=k
  ·rw[ai e,ai (h1.symm.trans e)];exact⟨h1,h2,ry⟩
  ·rw[ah e,ah (λz=>e (h1.trans z))];exact⟨h1,h2,h3⟩
theorem KT.put{H:Hp}{kvs:List (List Key×V)}{xs:List (List Key×Addr×Value)}(r:KT H kvs xs)(k:List Key){b:Addr}{y:V}{u:Value}(hb:H b=some (.tup (k.map kV)))(ry:RelV y u):KT H (dJ kvs k y) (storedH xs k b u):=by
 have e:(kvs.any λkv=>decide (kv.1=k))=(atKey xs k).isSome:=by rw[qt,(r.val k).sA,Rz]
 unfold dJ storedH;rw[e];by_cases q:(atKey xs k).isSome=true
 ·rw[ai q,ai q];exact r.repl k ry
 ·rw[ah q,ah q];exact Paired.snoc r ⟨rfl,hb,ry⟩
theorem KT.keeps{H H':Hp}{kvs:List (List Key×V)}{xs:List (List Key×Addr×Value)}(r:KT H kvs xs)(ht:∀b ys,H b=some (.tup ys)->H' b=some (.tup ys)):KT H' kvs xs:=Paired.c8 r λ_ _ z=>⟨z.1,ht _ _ z.2.1,z.2.2⟩
section
variable{P:Program}{w:World}{H:Hp}{h:Heap}{a:Addr}
theorem Ia{u:HO}(ok:cw P w H h)(e:Rd H a u):ck P w H h a u:=e.ok ok
theorem sC{kvs:List (Key×V)}(ok:cw P w H h)(e:Rd H a (.dK kvs)):kvs.length<=sizeLine/\(a==sysModules)=false/\∃vs,KV kvs vs/\h.DictOf (bX P w) a vs:=show ck P w H h a (.dK kvs) from Ia ok e
theorem Ib{kvs:List (Key×V)}(ok:cw P w H h)(e:H a=some (.dK kvs)):kvs.length<=sizeLine/\(a==sysModules)=false/\∃vs,KV kvs vs/\h.DictOf (bX P w) a vs:=sC ok (.inl e)
theorem nY{ks:List Key}(ok:cw P w H h)(e:H a=some (.tup (ks.map kV))):(tupleKind (bX P w)).is h ks a:=by obtain⟨_,its,r,o,h1,h2,n,h3⟩:=(show ck P w H h a (.tup (ks.map kV)) from ok a _ e);exact⟨o,its.toArray,n,h1,h2,h3,by simpa using H_ r⟩
theorem sD{kvs:List (List Key×V)}(ok:cw P w H h)(e:Rd H a (.dT kvs)):kvs.length<=sizeLine/\(a==sysModules)=false/\ ∃xs,KT H kvs xs/\h.DictOfH (tupleKind (bX P w)) a xs:=by
 obtain⟨z,y,xs,r,o,es,ep,h1,h2,h3,h4,h5⟩:=(show ck P w H h a (.dT kvs) from Ia ok e);refine⟨z,y,xs,r,o,es,ep,h1,h2,h3,h4,λx hx=>?_,h5⟩;have all:∀{l:List (List Key×V)}{m:List (List Key×Addr×Value)},KT H l m->∀x∈m,(tupleKind (bX P w)).is h x.1 x.2.1:=by
  intro l m q
  induction q with
  |nil=>intro x hx;exact nomatch hx
  | @cons p q ps qs hq t ih=>
   intro x hx;rcases a6.mp hx with e |hx
   ·subst e;exact nY ok (by rw[<-hq.1];exact hq.2.1)
   ·exact ih x hx
 exact all r x hx
theorem T9{kvs:List (List Key×V)}(ok:cw P w H h)(e:H a=some (.dT kvs)):kvs.length<=sizeLine/\(a==sysModules)=false/\ ∃xs,KT H kvs xs/\h.DictOfH (tupleKind (bX P w)) a xs:=sD ok (.inl e)
end
def dt(H:Hp)(a:Addr)(y:V)(r:Option V):Prop:=(∃kvs k,Rd H a (.dK kvs)/\y=kV k/\r=bV kvs k)\/∃kvs k b,Rd H a (.dT kvs)/\y=.ref b/\H b=some (.tup (k.map kV))/\r=bV kvs k
def kg(H:Hp)(a:Addr)(y v:V)(H':Hp):Prop:=(∃kvs k,H a=some (.dK kvs)/\y=kV k/\kvs.length<sizeLine/\H'=upd H a (.dK (dJ kvs k v)))\/ ∃kvs k b,H a=some (.dT kvs)/\y=.ref b/\H b=some (.tup (k.map kV))/\kvs.length<sizeLine/\H'=upd H a (.dT (dJ kvs k v))
theorem dt.k{H:Hp}{a:Addr}{kvs:List (Key×V)}{k:Key}(e:H a=some (.dK kvs)):dt H a (kV k) (bV kvs k):=.inl ⟨kvs,k,.inl e,rfl,rfl⟩
theorem dt.t{H:Hp}{a b:Addr}{kvs:List (List Key×V)}{k:List Key}(e:H a=some (.dT kvs))(eb:H b=some (.tup (k.map kV))):dt H a (.ref b) (bV kvs k):=.inr ⟨kvs,k,b,.inl e,rfl,eb,rfl⟩
theorem kg.k{H:Hp}{a:Addr}{kvs:List (Key×V)}{k:Key}{v:V}(e:H a=some (.dK kvs))(hl:kvs.length<sizeLine):kg H a (kV k) v (upd H a (.dK (dJ kvs k v))):=.inl ⟨kvs,k,e,rfl,hl,rfl⟩
theorem kg.t{H:Hp}{a b:Addr}{kvs:List (List Key×V)}{k:List Key}{v:V}(e:H a=some (.dT kvs))(eb:H b=some (.tup (k.map kV)))(hl:kvs.length<sizeLine):kg H a (.ref b) v (upd H a (.dT (dJ kvs k v))):=.inr ⟨kvs,k,b,e,rfl,eb,hl,rfl⟩
section
variable{X:Cx}{pins:List (Addr×Obj)}{σ:St}{H:Hp}{s:Shared}{a:Addr}{y v:V}{u r:Value}{o:Option V}{A:Around}{E:Value->Shared->Prop}
theorem Inv.big(I:Inv X pins σ H s):sysModules<s.heap.objs.size:=by have h:mainGlobals<s.heap.objs.size:=(I.mod.glob.keeps I.bk).lt;exact uT (by decide) h
theorem T_{Q:Value->Shared->Prop}(hu:A.units+1<cLine)(I:Inv X pins σ H s)(g:dt H a y (some v))(ry:RelV y u)(h:∀w' s',Inv X pins σ H s'->RelV v w'->Q w' s'):wpAny (model X.prog X.w) A (getItem (.ref a) u) Q E s:=by
 rcases g with ⟨kvs,k,e,ey,l⟩ |⟨kvs,k,b,e,ey,eb,l⟩
 ·subst ey;obtain⟨z,hd,vs,rel,dd⟩:=sC I.hok e;obtain⟨w',hw,rw'⟩:=ff.some_of (v:=v) (o:=valueAt vs k) (by rw[l];exact rel.val k);exact wpAny_getItem_of (nX ry) dd.mapOf hw (h w' _ (I.tok _) rw')
 ·subst ey;cases(show u=Value.ref b from ry);obtain⟨z,hd,xs,rel,dd⟩:=sD I.hok e;obtain⟨w',hw,rw'⟩:=ff.some_of (v:=v) (o:=(atKey xs k).map (·.2)) (by rw[l];exact rel.val k);obtain⟨p,hp,hp2⟩:=cK.mp hw;refine wpAny_getItem_heap (uU hu) (nY I.hok eb) dd hp ?_;rw[hp2];exact h w' _ (I.tok _) rw'
theorem Ua{Q:Value->Shared->Prop}(hu:A.units+1<cLine)(I:Inv X pins σ H s)(g:dt H a y o)(ry:RelV y u)(h:∀s',Inv X pins σ H s'->Q (.bool o.isSome) s'):wpAny (model X.prog X.w) A (compareOp .In u (.ref a)) Q E s:=by
 rcases g with ⟨kvs,k,e,ey,l⟩ |⟨kvs,k,b,e,ey,eb,l⟩
 ·subst ey;obtain⟨z,hd,vs,rel,dd⟩:=sC I.hok e;refine wpAny_in_of (nX ry) hd dd.mapOf ?_;rw[<-(rel.val k).sA,<-l];exact h _ (I.tok _)
 ·subst ey;cases(show u=Value.ref b from ry);obtain⟨z,hd,xs,rel,dd⟩:=sD I.hok e;refine wpAny_in_heap (uU hu) (nY I.hok eb) hd dd ?_;have q:=(rel.val k).sA;rw[Rz]at q;rw[<-q,<-l];exact h _ (I.tok _)
theorem Ub{Q:Value->Shared->Prop}(hu:A.units+1<cLine)(I:Inv X pins σ H s)(g:dt H a y o)(ry:RelV y u)(h:∀s',Inv X pins σ H s'->Q (.bool (!o.isSome)) s'):wpAny (model X.prog X.w) A (compareOp .NotIn u (.ref a)) Q E s:=by
 rcases g with ⟨kvs,k,e,ey,l⟩ |⟨kvs,k,b,e,ey,eb,l⟩
 ·subst ey;obtain⟨z,hd,vs,rel,dd⟩:=sC I.hok e;refine wpAny_notIn_of (nX ry) hd dd.mapOf ?_;rw[<-(rel.val k).sA,<-l];exact h _ (I.tok _)
 ·subst ey;cases(show u=Value.ref b from ry);obtain⟨z,hd,xs,rel,dd⟩:=sD I.hok e;refine wpAny_notIn_heap (uU hu) (nY I.hok eb) hd dd ?_;have q:=(rel.val k).sA;rw[Rz]at q;rw[<-q,<-l];exact h _ (I.tok _)
theorem Ae{h':Heap}{t':Nat}{ob:HO}(I:Inv X pins σ H s)(mu:rR (H a))(hs:Heap.SameBut a s.heap h')(he:∃q,h'.get? a=some q)(new:ck X.prog X.w (upd H a ob) h' a ob):Inv X pins σ (upd H a ob) {s with heap:=h',toks:=t'}:=I.write (x:=a) (e:=a) mu (.inl rfl) (λb q hb z=>(hs.2 b hb).trans z) he new
theorem Ic{P:Program}{w:World}{H':Hp}{h':Heap}{kvs:List (Key×V)}{vs:List (Key×Value)}(z:kvs.length<=sizeLine)(hd:(a==sysModules)=false)(rel:KV kvs vs)(dd:h'.DictOf (bX P w) a vs):ck P w H' h' a (.dK kvs):=⟨z,hd,vs,rel,dd⟩
theorem Uc{H':Hp}{Q:Unit->Shared->Prop}(hu:A.units+1<cLine)(I:Inv X pins σ H s)(g:kg H a y v H')(ry:RelV y u)(rv:RelV v r)(h:∀s',Inv X pins σ H' s'->Q () s'):wpAny (model X.prog X.w) A (setItem (.ref a) u r) Q E s:=by
 rcases g with ⟨kvs,k,e,ey,l,eH⟩ |⟨kvs,k,b,e,ey,eb,l,eH⟩
 ·subst ey eH;obtain⟨z,hd,vs,rel,dd⟩:=Ib I.hok e;have hz:vs.length<=sizeLine:=by rw[<-rel.length];exact z
  have hl:(dJ kvs k v).length<=sizeLine:=by have:=Ac kvs k v;omega
  refine wpAny_setItem_pairs (hsz:=hz) (nX ry) dd λh' nZ hs=>h _ ?_
  have he:∃q,h'.get? a=some q:=let ⟨q,_,_,hq,_⟩:=nZ;⟨q,hq⟩
  exact Ae I (by rw[e];exact True.intro) hs he (Ic hl hd (rel.put k rv) nZ)
 ·subst ey eH;cases(show u=Value.ref b from ry);obtain⟨z,hd,xs,rel,dd⟩:=T9 I.hok e;have hz:xs.length<=sizeLine:=by rw[<-bC rel];exact z
  have hl:(dJ kvs k v).length<=sizeLine:=by have:=Ac kvs k v;omega
  refine wpAny_setItem_heap (hsz:=hz) (uU hu) (nY I.hok eb) dd λh' nZ hs=>h _ ?_
  obtain⟨q,es,ep,hq,h2,h3,h4,_,h5⟩:=nZ;refine Ae I (by rw[e];exact True.intro) hs ⟨q,hq⟩ ⟨hl,hd,_,(rel.put k eb rv).keeps λc ys ec=>?_,q,es,ep,hq,h2,h3,h4,h5⟩;rw[ay (bp ec e (λz=>nomatch z))];exact ec
end
section
variable{X:Cx}{pins:List (Addr×Obj)}{σ:St}{H:Hp}{s:Shared}{a:Addr}{kvs:List (Key×V)}{k:Key}{u:Value}{A:Around}{E:Value->Shared->Prop}
end
def Af(i:Expr):Prop:=∀ov iv,subscripted i false ov iv=operate [ov,iv] (getItem ov iv)
theorem Ie{prog:Program}{w:World}{A:Around}{E:Value->Shared->Prop}{s:Shared}{env:Env}{value slice:Expr}{pos:Pos}{T id:String}{Q:Value->Shared->Prop} (hl:typeLookup (.type T) "__getitem__"=pure (some (.builtin id)))(hs:Af slice) (h:wpAny (model prog w) A (eval value env) (λo s₁=>wpAny (model prog w) A (eval slice env) (λi s₂=>s₂.TypeIs o T/\wpAny (model prog w) A (getItem o i) Q E s₂) E s₁) E s):wpAny (model prog w) A (eval (.Subscript value slice pos) env) Q E s:=by
 refine Subscript_ (dq h (λo s₁ h₁=>dq h₁ (λi s₂ h₂=>?_) λ_ _ x=>x) λ_ _ x=>x);obtain⟨hT,h₂⟩:=h₂;unfold subscriptTail;refine ag ?_;rw[getitemInPython_of_ne hT.not_modules];refine ag (wpAny_specialOf hT hl ?_);have fin:wpAny (model prog w) A (subscripted slice false o i) (λr s₃=>wpAny (model prog w) A (letTemporaryGo value o r>>=λ_=>pure r) Q E s₃) E s₂:=by rw[hs o i];exact wpAny_operating (dq h₂ (λr s₃ h₃=>ag (wpAny_letTemporaryGo (az h₃))) λ_ _ x=>x)
 first
  |exact az (ag fin)
  |exact ag (az (ag fin))
  |exact ag fin
theorem Ud{X:Cx}{pins:List (Addr×Obj)}{σ:St}{H:Hp}{s:Shared}{a:Addr}{y:V}{o:Option V}(I:Inv X pins σ H s)(g:dt H a y o):s.TypeIs (.ref a) "dict":=by
 rcases g with ⟨kvs,k,e,_,_⟩ |⟨kvs,k,b,e,_,_,_⟩
 ·obtain⟨_,_,vs,_,dd⟩:=sC I.hok e;exact dd.typeIs
 ·obtain⟨_,_,xs,_,dd⟩:=sD I.hok e;exact dd.typeIs
inductive Ig(Q:VK)(x:V)(y:V)(H2:Hp):Prop
 |mk a v:x=.ref a->dt H2 a y (some v)->Q v H2->Ig Q x y H2
def Ue(td ty:TE):TE:=λσ H Q=>td σ H λx H1=>ty σ H1 λy H2=>Ig Q x y H2
inductive Ih(Q:VK)(y:V)(x:V)(H2:Hp):Prop
 |mk a o:x=.ref a->dt H2 a y o->Q (.bl o.isSome) H2->Ih Q y x H2
def Ug(ty td:TE):TE:=λσ H Q=>ty σ H λy H1=>td σ H1 λx H2=>Ih Q y x H2
inductive Ii(Q:VK)(y:V)(x:V)(H2:Hp):Prop
 |mk a o:x=.ref a->dt H2 a y o->Q (.bl (!o.isSome)) H2->Ii Q y x H2
def Uh(ty td:TE):TE:=λσ H Q=>ty σ H λy H1=>td σ H1 λx H2=>Ii Q y x H2
inductive Ij(D:Ends)(σ:St)(v:V)(x:V)(y:V)(H3:Hp):Prop
 |mk a H4:x=.ref a->kg H3 a y v H4->D.nx σ H4->Ij D σ v x y H3
def Ui(td ty tv:TE):TS:=λD σ H=>tv σ H λv H1=>td σ H1 λx H2=>ty σ H2 λy H3=>Ij D σ v x y H3
section
variable{X:Cx}{o i e value:Expr}{pos pos' tpos:Pos}{td ty tv:TE}
theorem sE(hu:X.A.units+1<cLine)(ho:PE X o td)(hi:PE X i ty)(hs:Af i):PE X (.Subscript o i pos) (Ue td ty):=by intro pins s σ H Q I h;refine Ie PySem.F.slot_dict_getitem.lookup hs (aF (ho pins s σ H _ I h) λu s1 ⟨x,H1,I1,rx,q1⟩=>aF (hi pins s1 σ H1 _ I1 q1) λiv s2 ⟨y,H2,I2,ry,a,v,ex,g,q2⟩=>?_);subst ex;obtain rfl:u=Value.ref a:=rx;exact⟨Ud I2 g,T_ hu I2 g ry λw' s3 I3 rw'=>⟨v,H2,I3,rw',q2⟩⟩
theorem vL(hu:X.A.units+1<cLine)(hi:PE X i ty)(ho:PE X o td):PC X .In i o (Ug ty td):=by
 intro pins s σ H Q I h;refine aF (hi pins s σ H _ I h) λiv s1 ⟨y,H1,I1,ry,q1⟩=>aF (ho pins s1 σ H1 _ I1 q1) λu s2 ⟨x,H2,I2,rx,a,ov,ex,g,q2⟩=>?_
 subst ex;obtain rfl:u=Value.ref a:=rx;exact Ua hu I2 g ry λs3 I3=>⟨.bl ov.isSome,H2,I3,rfl,q2⟩
theorem Ag(hu:X.A.units+1<cLine)(hi:PE X i ty)(ho:PE X o td):PC X .NotIn i o (Uh ty td):=by
 intro pins s σ H Q I h;refine aF (hi pins s σ H _ I h) λiv s1 ⟨y,H1,I1,ry,q1⟩=>aF (ho pins s1 σ H1 _ I1 q1) λu s2 ⟨x,H2,I2,rx,a,ov,ex,g,q2⟩=>?_
 subst ex;obtain rfl:u=Value.ref a:=rx;exact Ub hu I2 g ry λs3 I3=>⟨.bl (!ov.isSome),H2,I3,rfl,q2⟩
theorem vN(hu:X.A.units+1<cLine)(ho:PE X o td)(hi:PE X i ty)(hv:PE X value tv)(hs:swapsWith value (some (.Subscript o i pos')) pos.line X.env=pure false):PS X (.Assign [.Subscript o i pos'] value pos) (Ui td ty tv):=by
 intro pins s σ H D I h;refine wpAny_Assign_Subscript (aF (hv pins s σ H _ I h) λr s1 ⟨v,H1,I1,rv,q1⟩=>aF (ho pins s1 σ H1 _ I1 q1) λu s2 ⟨x,H2,I2,rx,q2⟩=>aF (hi pins s2 σ H2 _ I2 q2) λiv s3 ⟨y,H3,I3,ry,a,H4,ex,g,q3⟩=>?_) hs;subst ex;obtain rfl:u=Value.ref a:=rx;exact Uc hu I3 g ry rv λs4 I4=>⟨σ,H4,I4,q3⟩
end
theorem Ik{P:Program}{w:World}{H:Hp}(h:Heap)(hb:sysModules<h.objs.size):ck P w H (h.push {cls:=.type "dict",data:=.dict #[]}) h.objs.size (.dK []):=⟨b9 _,m7.mpr (cu (bT hb)),[],.nil,Heap.DictOf.new h⟩
theorem Uj{P:Program}{w:World}{H:Hp}(h:Heap)(hb:sysModules<h.objs.size):ck P w H (h.push {cls:=.type "dict",data:=.dict #[]}) h.objs.size (.dT []):=⟨b9 _,m7.mpr (cu (bT hb)),[],.nil,_, #[],0,cF _ rfl,⟨rfl,rfl,rfl⟩,rfl,rfl,zb⟩
def Uk:TE:=λ_ H Q=>∀p,H p=none->Q (.ref p) (upd H p (.dK []))
def Ul:TE:=λ_ H Q=>∀p,H p=none->Q (.ref p) (upd H p (.dT []))
section
variable{X:Cx}{pos:Pos}
theorem Um:PE X (.Dict [] [] pos) Uk:=λpins s σ H Q I h=>wpAny_Dict_empty ⟨.ref s.heap.objs.size,_,I.laid (a:=s.heap.objs.size) (o:=.dK []) (t':=s.toks) (λ_ _ q=>br _ q) (aI _) (Ik s.heap I.big),rfl,h _ (I.hok.fresh (aI _))⟩
theorem Il:PE X (.Dict [] [] pos) Ul:=λpins s σ H Q I h=>wpAny_Dict_empty ⟨.ref s.heap.objs.size,_,I.laid (a:=s.heap.objs.size) (o:=.dT []) (t':=s.toks) (λ_ _ q=>br _ q) (aI _) (Uj s.heap I.big),rfl,h _ (I.hok.fresh (aI _))⟩
end
def Ah:List (TE×TE)->St->Hp->(List (V×V)->Hp->Prop)->Prop
 |[],_,H,Q=>Q [] H
 |(tk,tv)::r,σ,H,Q=>tk σ H λx H1=>tv σ H1 λy H2=>Ah r σ H2 λps H3=>Q ((x,y)::ps) H3
abbrev VV:List (V×V)->List (Value×Value)->Prop:=Paired λp q=>RelV p.1 q.1/\RelV p.2 q.2
def vO(X:Cx)(pos:Pos)(keys:List (Option Expr))(values:List Expr)(trs:List (TE×TE)):Prop:=∀(pins:List (Addr×Obj))(s:Shared)(σ:St)(H:Hp)(Q:List (V×V)->Hp->Prop),Inv X pins σ H s->Ah trs σ H Q->wpAny (model X.prog X.w) X.A (evalPairs (pairTrees keys values X.env pos)) (λvs s'=>∃ps H',Inv X pins σ H' s'/\VV ps vs/\Q ps H') X.xe s
theorem Uo{X:Cx}{pos:Pos}:vO X pos [] [] []:=λpins s σ H Q I h=>pairTrees_nil_walk ⟨[],H,I,.nil,h⟩
theorem Up{X:Cx}{pos:Pos}{k v:Expr}{ks:List (Option Expr)}{vs:List Expr}{tk tv:TE}{trs:List (TE×TE)}(hk:PE X k tk)(hv:PE X v tv)(hr:vO X pos ks vs trs):vO X pos (some k::ks) (v::vs) ((tk,tv)::trs):=λpins s σ H Q I h=>
 pairTrees_cons_walk (aF (hk pins s σ H _ I h) λu s1 ⟨x,H1,I1,rx,q1⟩=>aF (hv pins s1 σ H1 _ I1 q1) λw2 s2 ⟨y,H2,I2,ry,q2⟩=>aF (hr pins s2 σ H2 _ I2 q2) λws s3 ⟨ps,H3,I3,rel,q3⟩=>⟨(x,y)::ps,H3,I3,.cons ⟨rx,ry⟩ rel,q3⟩)
def jm(kvs more:List (Key×V)):List (Key×V):=more.foldl (λacc kv=>dJ acc kv.1 kv.2) kvs
theorem KV.merge:∀{more:List (Key×V)}{rs:List (Key×Value)}{kvs:List (Key×V)}{vs:List (Key×Value)},KV more rs->KV kvs vs->KV (jm kvs more) (merged vs rs):=by
 intro more rs kvs vs r;unfold KV at r
 induction r generalizing kvs vs with
 |nil=>intro q;exact q
 | @cons p q ps qs h t ih=>
  intro r0;have e:KV (dJ kvs p.1 p.2) (stored vs q.1 q.2):=by have:=r0.put p.1 h.2;rw[<-h.1];exact this
  exact ih e
theorem Ai:∀(more kvs:List (Key×V)),(jm kvs more).length<=kvs.length+more.length
 |[],kvs=>by show kvs.length<=kvs.length+0;omega
 |p::r,kvs=>by have h1:=Ai r (dJ kvs p.1 p.2);have h2:=Ac kvs p.1 p.2;show(jm (dJ kvs p.1 p.2) r).length<=_;rw[b6];omega
theorem Im{P:Program}{w:World}:∀{kvs:List (Key×V)}{ws:List (Value×Value)},VV (kvs.map λkv=>(kV kv.1,kv.2)) ws->∃rs,Carries (bX P w) ws rs/\KV kvs rs
 |[],_,r=>by rw[pP]at r;cases r;exact⟨[],True.intro,.nil⟩
 |p::kvs,_,r=>by
  rw[bt]at r;cases r with
  | @cons a b as bs h t=>obtain⟨rs,c,q⟩:=Im (P:=P) (w:=w) t;obtain⟨b1,b2⟩:=b;exact⟨(p.1,b2)::rs,⟨nX h.1,rfl,c⟩,.cons ⟨rfl,h.2⟩ q⟩
def Uq(trs:List (TE×TE)):TE:=λσ H Q=>∀p,H p=none->Ah trs σ (upd H p (.dK [])) λps H2=>H2 p=some (.dK [])/\∃kvs:List (Key×V),ps=kvs.map (λkv=>(kV kv.1,kv.2))/\kvs.length<=15/\Q (.ref p) (upd H2 p (.dK (jm [] kvs)))
theorem Ur{X:Cx}{pos:Pos}{keys:List (Option Expr)}{values:List Expr}{trs:List (TE×TE)}(h:vO X pos keys values trs)(hall:keys.all (·.isSome)=true)(hl:keys.length=values.length)(h0:keys≠[]) (h15:keys.length<=15):PE X (.Dict keys values pos) (Uq trs):=by
 intro pins s σ H Q I q;have hn:=I.hok.fresh (aI s.heap.objs.size);have I1:=I.laid (a:=s.heap.objs.size) (o:=.dK []) (h':=s.heap.push {cls:=.type "dict",data:=.dict #[]}) (t':=s.toks) (λ_ _ q=>br _ q) (aI _) (Ik s.heap I.big);refine wpAny_Dict_walk (knd:=bX X.prog X.w) hall hl h0 h15 (aF (h pins _ σ _ _ I1 (q _ hn)) λws s2 ⟨ps,H2,I2,rel,e,kvs,ep,lk,q2⟩=>?_);subst ep;obtain⟨rs,c,rk⟩:=Im (P:=X.prog) (w:=X.w) rel;obtain⟨z,hd,vs0,r0,dd⟩:=Ib I2.hok e;cases r0;refine⟨rs,c,dd,λh' nZ hs=>⟨.ref s.heap.objs.size,_,?_,rfl,q2⟩⟩;have hz:(jm [] kvs).length<=sizeLine:=by have h1:=Ai kvs [];rw[pR]at h1;rw[bg];omega
 have he:∃q,h'.get? s.heap.objs.size=some q:=let ⟨q,_,_,hq,_⟩:=nZ;⟨q,hq⟩
 exact Ae I2 (by rw[e];exact True.intro) hs he (Ic hz hd (rk.merge .nil) nZ)
section
variable{X:Cx}{pins:List (Addr×Obj)}{σ:St}{H:Hp}{s:Shared}{a:Addr}{y d:V}{u r:Value}{o:Option V}{A:Around}{E:Value->Shared->Prop}
end
section
variable{X:Cx}{o e f:Expr}{apos cpos:Pos}{td ty tx:TE}
end
section
variable{X:Cx}{pins:List (Addr×Obj)}{σ:St}{H:Hp}{s:Shared}{a:Addr}{kvs:List (Key×V)}{A:Around}{E:Value->Shared->Prop}
end
section
variable{X:Cx}{pins:List (Addr×Obj)}{σ:St}{H:Hp}{s:Shared}{a:Addr}{y:V}{u:Value}{A:Around}{E:Value->Shared->Prop}
end
theorem Us:typeLookup (.type "list") "keys"=pure none:=am_miss_of_fast (by first |decide+kernel |rfl)
theorem Io:entryFor table "dict.update.loop"=some Builtin.«dict.update.loop»:=entryFor_of_tree (by kernel_rfl)
theorem sF:plainId "dict.update.loop"=true:=by decide+kernel
section
variable{prog:Program}{w:World}{A:Around}{E:Value->Shared->Prop}
theorem Ut{s:Shared}{a:Addr}{o:Obj}{xs:Array Value}{k:Nat}{Q:Option Value->Shared->Prop}(hx:s.heap.get? a=some o)(hc:o.cls=.type "list")(hdat:o.data=.seq xs k)(hd:o.dict=none)(hA:A.handled=none) (h:∀h' tk,(∀b ob,s.heap.get? b=some ob->h'.get? b=some ob)->Q none {s with heap:=h',toks:=tk}):wpAny (model prog w) A (getAttr? (.ref a) "keys") Q E s:=by
 obtain⟨c,dct,dat,sl⟩:=o;simp only at hc hdat hd;subst hc hdat hd;obtain⟨hp,g,d,tk,os⟩:=s;have hT:∀tk',(⟨hp,g,d,tk',os⟩:Shared).TypeIs (.ref a) "list":=λ_=>⟨_,hx,rfl⟩
 have hmiss:=Us;have hname:(["__module__","__name__","__qualname__","__doc__","__annotations__"]:List Str).contains "keys"=false:=by decide+kernel
 have hsz:("keys" :Str).length+100<=sizeLine:=by first |size_fits |decide+kernel
 have f1:=sub_AttributeError;have f3:=RB.lookup;have f4:=RB.bind (.ref a);have f5:=am_list_getattr_none;unfold getAttr? getAttrBy? getAttrBy
 repeat (any_goals (first |assumption |exact hT _ |((with_reducible show wpAny _ _ (call (Value.builtin "list.__getattribute__") _ _) _ _ _);refine uS RB (hT _) am_entry_list_getattribute (PySem.F.args_list_getattribute_2 _ _) (meets_getattribute_miss_list a xs k sl "keys" _ hmiss hname hsz) ⟨hx,hA,λh' tk' e hx'=>?_⟩) |wp_step))
 obtain⟨t',u',he⟩:=hx'.there;show wpAny _ _ (getattributeRaised _ _ _ _ _ _ _) _ _ _;unfold getattributeRaised
 repeat (any_goals (first |assumption |wp_step))
 all_goals first |exact h _ _ hx'.keeps |(dsimp only;repeat (any_goals (first |assumption |exact h _ _ hx'.keeps |wp_step)))
theorem Ip{R:Result->Shared->Prop}{S I l:Addr}{items:Array Value}{res:Value}(hh:A.handled=none)(hlI:l≠I)(hSI:S≠I)(hSl:S≠l):∀(rest:List (Key×Value))(i:Nat)(acc:List (Key×Value))(ix:Int)(t:Tok)(s:Shared),items.size=i+rest.length->acc.length+rest.length<=sizeLine->(∀(j:Nat)(q:Key×Value),rest[j]? =some q->∃(b:Addr)(u:Value),items[i+j]? =some (.ref b)/\b≠S/\b≠I/\IsTup s.heap b #[u,q.2]/\kU q.1 u=true)->s.heap.IsListIter I l i->s.heap.IsList l items->s.heap.DictOf (bX prog w) S acc->(∀h' tk,h'.DictOf (bX prog w) S (merged acc rest)->(∀b o,b≠S->b≠I->s.heap.get? b=some o->h'.get? b=some o)->R (.ok (.ret res)) {s with heap:=h',toks:=tk})->codeAny (model prog w) A (.builtin "dict.update.loop" ⟨[.ref S,.ref I,.int ix t,res],[]⟩) R s
 |[],i,acc,ix,t,s,hsz,hln,ht,hit,hl,hm,hR=>by refine pS Io ?_;rw[rJ sF _];show wpAny _ A.in1 (pyNext (.ref I)>>=_) _ _ s;refine ag (wpAny_pyNext_list_end (A:=A.in1) hh hit hl (by first |exact zc (nc hsz) |(simp at hsz;simp;omega)) λh' he=>?_);show wpAny _ A.in1 (Builtin.Dict.addKeywords S []>>=_) _ _ _;refine ag (az (az ?_));exact hR h' s.toks (hm.extBut he hSI) λb o _ hb e=>he b o hb e
 |q::rest,i,acc,ix,t,s,hsz,hln,ht,hit,hl,hm,hR=>by
  obtain⟨b,u,hb,hbS,hbI,htup,hk⟩:=ht 0 q rfl;rw[b6]at hsz hln;refine pS Io ?_;rw[rJ sF _];show wpAny _ A.in1 (pyNext (.ref I)>>=_) _ _ s;refine ag (wpAny_pyNext_list_item (x:=.ref b) hit hl (by simpa using hb) λh1 Uu hs1=>?_);have ht1:IsTup h1 b #[u,q.2]:=htup.extBut hs1.extBut hbI;have hl1:h1.IsList l items:=hl.extBut hs1.extBut hlI;have hm1:h1.DictOf (bX prog w) S acc:=hm.extBut hs1.extBut hSI;obtain⟨o,ho,hc,n,hd⟩:=id ht1;show wpAny _ A.in1 (holding [Value.ref b] _>>=_) _ _ _;refine ag (jb ?_);refine ag (wpAny_tryCatch ?_);unfold Builtin.Dict.pairItems;refine ag (uR (T:="tuple") ⟨o,ho,hc⟩ ?_);rw[ai (by first |decide |rfl |simp)];refine ag (wpAny_seqItems ho hd (az ?_));show wpAny _ A.in1 (holding [u,q.2] (dictSet S u q.2)) _ _ _;refine jb (wpAny_dictSet_pairs (knd:=bX prog w) (k:=q.1) hk hm1 (λh2 hm2 hs2=>?_) (by omega));refine az ⟨pT sF _,Ip (items:=items) hh hlI hSI hSl rest (i+1) (stored acc q.1 q.2) (ix+1) 0 _ (show items.size=i+1+rest.length by omega) ?_ (λj q' e=>?_) ?_ ?_ hm2 λh' tk hd' k=>?_⟩
  ·have z:=stored_length_le acc q.1 q.2;omega
  ·obtain⟨b',u',hb',Iq,Ir,htup',hk'⟩:=ht (j+1) q' (by simpa using e);refine⟨b',u',?_,Iq,Ir,(htup'.extBut hs1.extBut Ir).extBut hs2.extBut Iq,hk'⟩;rw[show i+1+j=i+(j+1) by omega];exact hb'
  ·exact Uu.at λo' e=>hs2.extBut I o' (cu hSI) e
  ·exact hl1.extBut hs2.extBut (cu hSl)
  ·exact hR h' tk hd' λc oc h3 h4 e=>k c oc h3 h4 (hs2.extBut c oc h3 (hs1.extBut c oc h4 e))
theorem Uv{s:Shared}{l:Addr}{ol:Obj}{items:Array Value}{n:Nat}{prs:List (Key×Value)}{Q:Value->Shared->Prop}(hh:A.handled=none)(hl:s.heap.get? l=some ol)(hc:ol.cls=.type "list")(hd:ol.dict=none) (hdat:ol.data=.seq items n)(hsz:items.size=prs.length)(hln:prs.length<=sizeLine) (ht:∀(j:Nat)(q:Key×Value),prs[j]? =some q->∃(b:Addr)(u:Value),items[j]? =some (.ref b)/\IsTup s.heap b #[u,q.2]/\kU q.1 u=true) (h:∀h' tk,h'.DictOf (bX prog w) s.heap.objs.size (merged [] prs)->(∀b o,s.heap.get? b=some o->h'.get? b=some o)->Q (.ref s.heap.objs.size) {s with heap:=h',toks:=tk}):wpAny (model prog w) A (call (.type "dict") [.ref l]) Q E s:=by
 refine callType_codes (Q₁:=λobj s₁=>obj=.ref s.heap.objs.size/\s₁= {s with heap:=s.heap.push {cls:=.type "dict",data:=.dict #[]}}) PySem.F.kt_called_dict (PySem.F.kt_typeCall_dict_1 _) PySem.F.entry_dict_init (kt_code_dict_new _ ⟨rfl,rfl⟩) ?_
 rintro obj s₁ ⟨rfl,rfl⟩
 have hnew:(s.heap.push {cls:=.type "dict",data:=.dict #[]}).DictOf (bX prog w) s.heap.objs.size []:=Heap.DictOf.new s.heap;have k0:∀b o,s.heap.get? b=some o->(s.heap.push {cls:=.type "dict",data:=.dict #[]}).get? b=some o:=λb o e=>br _ e
 refine⟨hnew.typeIs,PySem.F.args_dict_init_2 _ _,?_⟩;unfold Builtin.«dict.__init__»;refine ag ?_;unfold Builtin.Dict.selfAndRest;refine ag (wpAny_notOrdered_dict hnew.typeIs ?_);show wpAny _ _ (pure (s.heap.objs.size,[Value.ref l])) _ _ _;refine az ?_;show wpAny _ _ (Builtin.Dict.updateFrom "dict.__init__" s.heap.objs.size (.ref l) [] .none) _ _ _;unfold Builtin.Dict.updateFrom;refine ag (uR (T:="list") ⟨ol,k0 _ _ hl,hc⟩ ?_);rw[ai (by first |decide |rfl |simp)];refine ag (Ut (k0 _ _ hl) hc hdat hd hh λh1 tk1 hk1=>?_);rw[ai (show(none:Option Value).isNone=true from rfl)];refine ag (uV ?_);have hl1:h1.IsList l items:=⟨ol,hk1 _ _ (k0 _ _ hl),hc,n,hdat⟩;have n8:s.heap.objs.size<h1.objs.size:=by have e:(s.heap.push {cls:=.type "dict",data:=.dict #[]}).get? s.heap.objs.size=some {cls:=.type "dict",data:=.dict #[]}:=cF _ rfl;exact ba (hk1 _ _ e)
 refine ag (FR hl1 ?_);have k2:∀b o,h1.get? b=some o->(h1.push {cls:=.type "list_iterator",data:=.fields #[.ref l,.int 0 0]}).get? b=some o:=λb o e=>br _ e
 have hlt:l<s.heap.objs.size:=ba hl;have key:=Ip (prog:=prog) (w:=w) (A:=A.in1) (R:=wants (λr s₂=>r=.none/\Q (.ref s.heap.objs.size) s₂) E) (S:=s.heap.objs.size) (I:=h1.objs.size) (l:=l) (items:=items) (res:=Value.none) hh
  (bT (uT hlt n8)) (bT n8) (l9 hlt) prs 0 [] 0 0
  {s with heap:=h1.push {cls:=.type "list_iterator",data:=.fields #[.ref l,.int 0 0]},toks:=tk1} (by rw[hsz,pU]) (by rw[pR,pU];exact hln)
  (λj q e=>by obtain⟨b,u,e1,e2,e3⟩:=ht j q e;have hb:b<s.heap.objs.size:=e2.lt;exact⟨b,u,by rw[pU];exact e1,bT hb,bT (uT hb n8),e2.keeps λc o z=>k2 _ _ (hk1 _ _ (k0 _ _ z)),e3⟩)
  ⟨_,cF _ rfl,rfl,rfl⟩ (hl1.at λo e=>k2 _ _ e) ((hnew.at λo e=>hk1 _ _ e).at λo e=>k2 _ _ e)
  (λh' tk hd' k=>⟨rfl,h h' tk hd' λb o e=>k b o (bT (ba e)) (bT (uT (ba e) n8)) (k2 _ _ (hk1 _ _ (k0 _ _ e)))⟩)
 first
  |exact az ⟨pT sF _,key⟩
  |exact ag (az (az ⟨pT sF _,key⟩))
end
section
variable{X:Cx}
theorem Iu{pins:List (Addr×Obj)}{σ:St}{H:Hp}{s:Shared}(I:Inv X pins σ H s):∀{ps:List Addr}{kvs:List (Key×V)},Paired (λp kv=>a8 X.K H p [kV kv.1,kv.2]) ps kvs->∃prs:List (Key×Value),KV kvs prs/\prs.length=ps.length/\∀(j:Nat)(q:Key×Value),prs[j]? =some q->∃(b:Addr)(u:Value),ps[j]? =some b/\IsTup s.heap b #[u,q.2]/\kU q.1 u=true
 |_,_,.nil=>⟨[],.nil,rfl,λj q e=>by simp at e⟩
 |_,_,.cons (a:=p) (b:=kv) h t=>by
  obtain⟨prs,r,hl,hp⟩:=Iu I t;obtain⟨its,rv,ht,_⟩:=I.tuple h;obtain⟨u,y,ei,ru,ry⟩:=vals2 rv;subst ei;refine⟨(kv.1,y)::prs,.cons ⟨rfl,ry⟩ r,by rw[b6,b6,hl],λj q e=>?_⟩;cases j with
  |zero=>have e':(kv.1,y)=q:=cI e;subst e';exact⟨p,u,rfl,ht,nX (P:=X.prog) (w:=X.w) ru⟩
  |succ j=>obtain⟨b,u',e1,e2,e3⟩:=hp j q (by simpa using e);exact⟨b,u',by simpa using e1,e2,e3⟩
theorem Aj:∀{ps:List Addr}{us:List Value},Vals (ps.map V.ref) us->us=ps.map Value.ref
 |[],us,r=>by rw[pP]at r;cases r;rfl
 |p::ps,us,r=>by
  rw[bt]at r;cases r with
  |cons h t=>cases h;rw[bt,<-Aj t]
theorem Uw(hcalm:X.calm=true):g_ X (.type "dict") (λxs H Q=>∃(a:Addr)(ps:List Addr)(kvs:List (Key×V)),xs=[.ref a]/\aj X.K H a (ps.map V.ref)/\Paired (λp kv=>a8 X.K H p [kV kv.1,kv.2]) ps kvs/\ ∀p,H p=none->Q (.ref p) (upd H p (.dK (jm [] kvs)))):=by
 intro pins s σ H xs us Q I r q;obtain⟨a,ps,kvs,ex,hq,hp,q⟩:=q;subst ex;obtain⟨u,eu,rx⟩:=vals1 r;subst eu;cases rx;obtain⟨its,rv,pl,hz⟩:=I.list hq;have ei:=Aj rv;subst ei;rw[aK]at hz;obtain⟨prs,rel,hl,hpr⟩:=Iu I hp;obtain⟨o,n,ho,hc,hd,hdat⟩:=pl;refine Uv (prs:=prs) (I.ok.hd hcalm) ho hc hd hdat (by simp[hl]) (by rw[hl];exact hz) (λj q' e=>?_) λh' tk hd' k=>?_
 ·obtain⟨b,u,e1,e2,e3⟩:=hpr j q' e;exact⟨b,u,by simp[e1],e2,e3⟩
 ·have hm:(s.heap.objs.size==sysModules)=false:=m7.mpr (l9 I.big);have hlen:(jm [] kvs).length<=sizeLine:=by
   refine bE (Ai kvs []) ?_;rw[pR,pU,rel.length,hl];exact hz
  exact⟨.ref s.heap.objs.size,upd H s.heap.objs.size (.dK (jm [] kvs)),I.laid (t':=tk) k (aI _) (show ck X.prog X.w _ _ _ (.dK (jm [] kvs)) from ⟨hlen,hm,merged [] prs,KV.merge rel .nil,hd'⟩),rfl,q _ (I.hok.fresh (aI _))⟩
end
section
variable{X:Cx}{pins:List (Addr×Obj)}{σ:St}{H:Hp}{s:Shared}{h':Heap}
theorem Inv.Ak{t':Nat}{ch:List Addr}(I:Inv X pins σ H s)(k:∀b o,b ∉ ch->s.heap.get? b=some o->h'.get? b=some o)(hf:∀b∈ch,fm X pins H b):Inv X pins σ H {s with heap:=h',toks:=t'}:=by
 have mj:∀b u,H b=some u->b ∉ ch:=λb u e z=>by have q:=(hf b z).1;rw[q]at e;cases e
 refine I.step (g':=s.gens) (d':=s.drawn) (ch:=ch) (λb hb=>⟨(hf b hb).2.2.2.1,(hf b hb).2.1,(hf b hb).2.2.2.2.1,(hf b hb).2.2.2.2.2⟩) (λb o _ _ hc e _=>k b o hc e) (λb o _ _ hc e _=>⟨o.slots,k b o hc e⟩) (λ_ _ _ _ n=>n) (λb o hc e=>⟨o,k b o hc e⟩) (λ_ _ e=>e) (λ_ _ _ e=>e) (λb ps e=>⟨#[],by rw[e];simp⟩) (λm hm=>?_) (λb u e=>?_) I.bare
 ·obtain⟨o,es,ep,ho,r⟩:=hm;exact⟨o,es,ep,k _ o (λz=>(hf _ z).2.1 rfl) ho,r⟩
 ·refine(I.hok b u e).stay (λc v hc q=>k c v ?_ q) (λ_ q=>q) λ_ _ q=>q
  rcases hc with z |z
  ·rw[z];exact mj b u e
  ·exact mj c _ z
theorem Inv.Iv{t':Nat}{ch:List Addr}{T:Addr}{ob:HO}(I:Inv X pins σ H s)(k:∀b o,b ∉ ch->s.heap.get? b=some o->h'.get? b=some o)(hf:∀b∈ch,fm X pins H b)(hT:s.heap.objs.size<=T) (new:ck X.prog X.w (upd H T ob) h' T ob):Inv X pins σ (upd H T ob) {s with heap:=h',toks:=t'}:=by
 have hn:H T=none:=I.hok.fresh hT;have mj:∀b u,H b=some u->b ∉ ch:=λb u e z=>by have q:=(hf b z).1;rw[q]at e;cases e
 refine I.step (g':=s.gens) (d':=s.drawn) (ch:=ch) (λb hb=>⟨(hf b hb).2.2.2.1,(hf b hb).2.1,(hf b hb).2.2.2.2.1,(hf b hb).2.2.2.2.2⟩) (λb o _ _ hc e _=>k b o hc e) (λb o _ _ hc e _=>⟨o.slots,k b o hc e⟩) (λb o _ e n=>?_) (λb o hc e=>⟨o,k b o hc e⟩) (λb xs e=>?_) (λb o u e=>?_) (λb ps e=>⟨#[],?_⟩) (λm hm=>?_) (λb u e=>?_) I.bare
 ·rw[ay (bT (dM (ba e) hT))];exact n
 ·rw[ay (aJ e hn)];exact e
 ·rw[ay (aJ e hn)];exact e
 ·rw[ay (aJ e hn),e];simp
 ·obtain⟨o,es,ep,ho,r⟩:=hm;exact⟨o,es,ep,k _ o (λz=>(hf _ z).2.1 rfl) ho,r⟩
 ·by_cases hb:b=T
  ·subst hb;rw[aw]at e;cases e;exact new
  ·rw[ay hb]at e;refine(I.hok b u e).stay (λc v hc q=>k c v ?_ q) (λc q=>by rw[ay (aJ q hn)];exact q) λc xs q=>by rw[ay (aJ q hn)];exact q
   rcases hc with z |z
   ·rw[z];exact mj b u e
   ·exact mj c _ z
end
section
variable{X:Cx}
theorem Al{tg:Expr}{pins:List (Addr×Obj)}{σ:St}{H:Hp}{s:Shared}{R:It->Hp->Prop}{J:It}{tn:Nat->Heap->Prop}{tk:Nat}(I:Inv X pins σ H s)(o:Obj) (T:l7 X.prog X.w X.K tg J [s.heap.objs.size] s.heap.objs.size tn)(st:tn 0 (s.heap.push o))(q:R J H):zB X pins σ tg R (.ref s.heap.objs.size) {s with heap:=s.heap.push o,toks:=tk}:=by
 refine⟨s.heap.objs.size,[s.heap.objs.size],tn,J,H,rfl,I.kept λb ob e=>br _ e,T,st,λb hb=>?_,q⟩;have e:b=s.heap.objs.size:=by simpa using hb
 subst e;exact I.jh (aI _) (I.hok.fresh (aI _))
end
def sG(lo c:Int)(n:Nat):It:=⟨λi _=>i<n,λi H x H'=>H'=H/\x=.int (lo+(i:Nat)*c),λi _=>n<=i⟩
theorem Ux{P:Program}{w:World}{K:ax}{tg:Expr}(it:Addr)(lo c:Int)(n:Nat):l7 P w K tg (sG lo c n) [it] it (λi h=>IsRangeIter h it (lo+(i:Nat)*c) ((n:Int)-(i:Nat)) c) where
 mem:=by simp
 obj:=λi h st b hb=>by
  have e:b=it:=by simpa using hb
  subst e;exact⟨_,st,λv z=>nomatch z⟩
 keep:=λi h h' st k=>k it (by simp) _ st
 item:=by
  intro X hP hw hK hc i pins s σ H E I hf st hg;subst hP hw hK;obtain⟨f0,f1,f2,f3,f4,f5⟩:=hf it (by simp);have W:=Walks.range (prog:=X.prog) (w:=X.w) (I.ok.hd hc) it lo c n;refine W.item i s _ _ hg st λv h' tk hv st' kk=>?_
  obtain⟨t,rfl⟩:=hv;have I1:Inv X pins σ H {s with heap:=h',toks:=tk}:=I.turned (λb o hb e=>kk b o (by simpa using hb) e) f0 f1 f3 f4 f5;exact⟨_,rfl,rV (s:= {s with heap:=h',toks:=tk}) (n:="range_iterator") st' rfl rfl (by decide) ⟨.int (lo+(i:Nat)*c),H,I1,⟨t,rfl⟩,⟨rfl,rfl⟩,st',λb hb=>(hf b hb).1⟩⟩
 done:=by intro X hP hw hK hc i pins s σ H E I hf st hg;subst hP hw hK;obtain⟨f0,f1,f2,f3,f4,f5⟩:=hf it (by simp);exact wpAny_pyNext_range_end (I.ok.hd hc) st (by have:n<=i:=hg;omega) λh' eb=>⟨rfl,I.turned (t':=s.toks) (λb o hb e=>eb b o hb e) f0 f1 f3 f4 f5⟩
 self:=λA i s Q E st h=>wpAny_pyIter_rangeiter st h
def sH(i j c:Int)(n:Nat):Prop:=c≠0/\c.natAbs<1073741824/\Builtin.Range.small i j c=true/\Builtin.Range.rangeSize i j c=n
theorem sH.neg{i j:Int}(ha: -(2^62)<=i)(ha':i<2^62)(hb: -(2^62)<=j)(hb':j<2^62):sH i j (-1) (i-j).toNat:=⟨by decide,by decide,PySem.W.small_down ha ha' hb hb',PySem.W.rangeSize_downNat i j⟩
inductive Iw(R:(It->Hp->Prop))(vs:List V)(H1:Hp):Prop
 |mk (i j c:Int) (n:Nat):vs=[.int i,.int j,.int c]->sH i j c n->R (sG i c n) H1->Iw R vs H1
def Uy(ta:TA):TI:=λσ H R=>ta σ H λvs H1=>Iw R vs H1
section
variable{X:Cx}{tg:Expr}
theorem Uz{a b c:Expr}{ta:TA}{p pos:Pos}(hg:Gl X "range")(hm:X.mg "range"=none)(ha:PA X [a,b,c] ta) (hs:starEach [a,b,c] X.env=(false,eval a X.env)::starEach [b,c] X.env:=by rfl)(hpl:(backTo pos (starEach [b,c] X.env)).any (·.1)=false:=by rfl):PI X tg (.Call (.Name "range" p) [a,b,c] [] pos) (Uy ta):=by
 intro pins s σ H R I h;refine Call_ (qd I hg hm boot_range (y9 (aF (ha pos pins s σ H _ I h) λus s1 ⟨vs,H1,I1,r1,q1⟩=>?_) hs hpl));obtain⟨i,j,k,n,e,⟨c0,c1,c2,c3⟩,q⟩:=q1;subst e;cases r1 with
 |cons r rr=>
  cases rr with
  |cons r' rr=>
   cases rr with
   |cons r'' rr=>
    cases rr;obtain⟨t,rfl⟩:=r;obtain⟨t',rfl⟩:=r';obtain⟨t'',rfl⟩:=r'';refine call_range_3 c0 ?_ (.inl (PyProof.noPylong_small c1));refine wpAny_pyIter_range (IsRange.new ..) c2 ?_;have I2:Inv X pins σ H1 {s1 with heap:=s1.heap.push {cls:=.type "range",data:=.fields #[.int i t,.int j t',.int k t'']}}:=I1.kept (t':=s1.toks) λb o e=>br _ e
    refine Al (tk:=s1.toks) I2 _ (Ux _ i k n) ?_ q;have e1:i+((0:Nat):Int)*k=i:=by simp
    have e2:(n:Int)-((0:Nat):Int)=Builtin.Range.rangeSize i j k:=by rw[c3];simp
    show IsRangeIter _ _ (i+((0:Nat):Int)*k) ((n:Int)-((0:Nat):Int)) k;rw[e1,e2];exact cF _ rfl
end
theorem UA{lo c:Int}{n:Nat}{g:TG}{tb:TS}{D:Ends}{σ:St}{H:Hp}(Pv:Nat->St->Hp->Prop)(h0:Pv 0 σ H) (hs:∀i σ H,i<n->Pv i σ H->g (.int (lo+(i:Nat)*c)) σ H λσ2 H2=>tb {D with nx:=Pv (i+1),ct:=Pv (i+1),bk:=D.nx} σ2 H2)(hd:∀σ H,Pv n σ H->D.nx σ H):∃W:Nat->Nat->St->Hp->Prop,(∃m,W 0 m σ H)/\∀i m σ H,W i m σ H->((sG lo c n).stop i H/\D.nx σ H)\/((sG lo c n).go i H/\∃N:St->Hp->Prop,(∀σ' H',N σ' H'->∃m',m'<m/\W (i+1) m' σ' H')/\∀x H',(sG lo c n).gB i H x H'->g x σ H' λσ2 H2=>tb {D with nx:=N,ct:=N,bk:=D.nx} σ2 H2):=by
 refine⟨λi m σ H=>m=n-i/\i<=n/\Pv i σ H,⟨n,by simp,b9 _,h0⟩,?_⟩
 rintro i m σ H ⟨rfl,hi,p⟩
 by_cases hlt:i<n
 ·refine .inr ⟨hlt,Pv (i+1),λσ' H' p'=>⟨n-(i+1),by omega,rfl,hlt,p'⟩,λx H' y=>?_⟩;obtain⟨e,y⟩:=y;subst e y;exact hs i σ _ hlt p
 ·have e:i=n:=by omega
  subst e;exact .inl ⟨aI _,hd σ H p⟩
section
variable{X:Cx}{tg:Expr}
end
def Am(x:Str):It:=⟨λi _=>i<x.cps.size,λi H v H'=>H'=H/\∃c,x.cps[i]? =some c/\v=.str ⟨#[c]⟩,λi _=>x.cps.size<=i⟩
theorem Iy{P:Program}{w:World}{K:ax}{tg:Expr}(it:Addr)(x:Str)(t:Tok)(ty:String)(hty:ty="str_ascii_iterator" \/ty="str_iterator"):l7 P w K tg (Am x) [it] it (λi h=>h.IsStrIter it ty x t i) where
 mem:=by simp
 obj:=λi h st b hb=>by
  have e:b=it:=by simpa using hb
  subst e;obtain⟨o,e,c,d⟩:=st;exact⟨o,e,λv z=>by rw[d]at z;cases z⟩
 keep:=λi h h' st k=>let ⟨o,ho,r⟩:=st;⟨o,k it (by simp) o ho,r⟩
 item:=by
  intro X hP hw hK hc i pins s σ H E I hf st hg;subst hP hw hK;obtain⟨f0,f1,f2,f3,f4,f5⟩:=hf it (by simp);have W:Walks X.prog X.w X.A it [it] [it] x.cps.size (SignAt x) (λi h=>h.IsStrIter it ty x t i):=by
   rcases hty with e |e
   ·rw[e];exact Walks.strAscii (I.ok.hd hc) it x t
   ·rw[e];exact Walks.strWide (I.ok.hd hc) it x t
  have hno:["enumerate","zip","dict_itemiterator","dict_reverseitemiterator","odict_iterator","itertools.zip_longest","itertools.pairwise"].contains ty=false:=by
   rcases hty with e |e
   ·rw[e];decide
   ·rw[e];decide
  refine W.item i s _ _ hg st λv h' tk hv st' kk=>?_
  obtain⟨c,u,hcx,rfl⟩:=hv;have I1:Inv X pins σ H {s with heap:=h',toks:=tk}:=I.turned (λb o hb e=>kk b o (by simpa using hb) e) f0 f1 f3 f4 f5;obtain⟨oi,e,cc,dd⟩:=id st';exact⟨_,rfl,rV (s:= {s with heap:=h',toks:=tk}) e cc dd hno ⟨.str ⟨#[c]⟩,H,I1,⟨u,rfl⟩,⟨rfl,c,hcx,rfl⟩,st',λb hb=>(hf b hb).1⟩⟩
 done:=by
  intro X hP hw hK hc i pins s σ H E I hf st hg;subst hP hw hK;obtain⟨f0,f1,f2,f3,f4,f5⟩:=hf it (by simp);have hx:x.cps[i]? =none:=zc hg;rcases hty with e |e
  ·rw[e]at st;exact wpAny_pyNext_ascii_end (I.ok.hd hc) st hx λh' eb=>⟨rfl,I.turned (t':=s.toks) (λb o hb e=>eb b o hb e) f0 f1 f3 f4 f5⟩
  ·rw[e]at st;exact wpAny_pyNext_wide_end (I.ok.hd hc) st hx λh' eb=>⟨rfl,I.turned (t':=s.toks) (λb o hb e=>eb b o hb e) f0 f1 f3 f4 f5⟩
 self:=λA i s Q E st h=>by
  rcases hty with e |e
  ·rw[e]at st;exact wpAny_pyIter_striter_ascii st h
  ·rw[e]at st;exact wpAny_pyIter_striter_wide st h
inductive Iz(R:(It->Hp->Prop))(v:V)(H1:Hp):Prop
 |mk x:v=.str x->R (Am x) H1->Iz R v H1
def UB(te:TE):TI:=λσ H R=>te σ H λv H1=>Iz R v H1
theorem UC{X:Cx}{tg e:Expr}{te:TE}(he:PE X e te):PI X tg e (UB te):=by
 intro pins s σ H R I h;refine aF (he pins s σ H _ I h) λv s1 ⟨y,H1,I1,r1,x,ex,q⟩=>?_
 subst ex;obtain⟨t,rfl⟩:=r1;cases ha:x.cps.all (· <128)
 ·exact wpAny_pyIter_wide ha (Al (tk:=s1.toks) I1 _ (Iy _ x t "str_iterator" (.inr rfl)) ⟨_,cF _ rfl,rfl,rfl⟩ q)
 ·exact wpAny_pyIter_ascii ha (Al (tk:=s1.toks) I1 _ (Iy _ x t "str_ascii_iterator" (.inl rfl)) ⟨_,cF _ rfl,rfl,rfl⟩ q)
section
variable{prog:Program}{w:World}{A:Around}{E:Value->Shared->Prop}{s:Shared}
theorem UD{d:Addr}{o:Obj}{es:Array DictEntry}{ep:Nat}{Q:Value->Shared->Prop}(hd:(d==sysModules)=false)(ho:s.heap.get? d=some o)(hc:o.ExactDict)(hdat:o.data=.dict es ep) (hQ:Q (.ref s.heap.objs.size) {s with heap:=s.heap.push {cls:=.type "dict_keyiterator",data:=.fields #[.ref d,.int 0 0,.int es.size 0,.int ep 0]}}):wpAny (model prog w) A (pyIter (.ref d)) Q E s:=by
 have hT:s.TypeIs (.ref d) "dict":=⟨o,ho,hc.1⟩;refine wpAny_pyIter_slot hT F.slot_dict_iter (nh F.slot_dict_iter hT F.entry_dict_iter ?_ (F.args_dict_iter_1 _));unfold Builtin.«dict.__iter__»;refine ag ?_;unfold Builtin.Dict.dictSlotNone;refine ag (wpAny_notOrdered_dict hT ?_);show wpAny _ _ (pure (Value.ref d)) _ _ s;refine az ?_;show wpAny _ _ (Builtin.Dict.showsAll d>>=_) _ _ s;unfold Builtin.Dict.showsAll;rw[ah (by rw[hd];exact cY)];refine ag (az ?_);refine ag (FZ ho hdat ?_);refine ag (wpAny_dictEpoch ho hdat ?_);refine ag (jc (az ⟨_,rfl,"dict_keyiterator",_,⟨_,cF _ rfl,rfl⟩,zd.lookup,?_⟩));simpa[rawInt]using hQ
theorem UE{it d:Addr}{i n ep:Nat}{od:Obj}{es:Array DictEntry}{en:DictEntry}{Q:Option Value->Shared->Prop}(hit:s.heap.IsKeyIter it d i n ep)(hod:s.heap.get? d=some od)(hdd:od.data=.dict es ep) (hsz:es.size=n)(hx:es[i]? =some en)(hQ:∀h',h'.IsKeyIter it d (i+1) n ep->Heap.SameBut it s.heap h'->Q (some en.key) {s with heap:=h'}):wpAny (model prog w) A (pyNext (.ref it)) Q E s:=by
 obtain⟨o,ho,hc,hd⟩:=id hit;unfold pyNext;refine ag (F0 (uQ (name:=Str.ofString "__next__") hit.typeIs zd (nh zd hit.typeIs F.entry_dict_keyiterator_next ?_ (F.args_dict_keyiterator_next_1 _))))
 refine ag (az ?_);refine ag ?_;refine ag ?_
 first |refine ag (F1 hit.typeIs (az ?_)) |refine ag (F2 hit.typeIs (az ?_))
 refine ag (F3 ho hd ?_);have hown:Builtin.Dict_items.ownsTuple "dict_keyiterator"=false:=by decide
 simp only[hown,pQ,jY];show wpAny _ _ (if (Value.ref d==Value.none)=true then _ else _) _ _ s;rw[ah (show ¬((Value.ref d==Value.none)=true) from cY)];refine ag (az ?_);refine ag (FZ hod hdd ?_);rw[ah (by rw[hsz];simp)];refine ag (az ?_);refine ag (wpAny_dictEpoch hod hdd ?_);rw[ah (by simp)];refine az ?_;obtain⟨hlt',hen⟩:=ze.mp hx;simp only[show ¬((i:Int)<0) from by omega,jY,y_,jd hlt'];refine ag ?_
 first |refine ag (F1 hit.typeIs (az ?_)) |refine ag (F2 hit.typeIs (az ?_))
 refine ag (wpAny_isOneOf_keyiter hit.typeIs ?_);show wpAny _ _ (setField (.ref it) 1 (rawInt ((i:Int)+1))>>=_) _ _ s;refine ag (kT ho hd (by simp) ?_);have vP:(s.heap.update it (Obj.mapFields (·.setIfInBounds 1 (rawInt ((i:Int)+1))))).IsKeyIter it d (i+1) n ep:=
  ⟨_,ni _ ho (F4 (pV hd _)),(Obj.cls_mapFields ..).trans hc,by rw[pV hd];simp[rawInt]⟩
 refine ag (jb ?_);refine ag (wpAny_isOneOf_keyiter (s:= {s with heap:=s.heap.update it (Obj.mapFields (·.setIfInBounds 1 (rawInt ((i:Int)+1))))}) vP.typeIs ?_);show wpAny _ _ (pure es[i].key) _ _ _;rw[hen];exact az (az ⟨_,rfl,az (hQ _ vP (F5 ..))⟩)
theorem UG{it d:Addr}{i n ep:Nat}{od:Obj}{es:Array DictEntry}{Q:Option Value->Shared->Prop}(hh:A.handled=none)(hit:s.heap.IsKeyIter it d i n ep)(hod:s.heap.get? d=some od)(hdd:od.data=.dict es ep) (hsz:es.size=n)(hge:n<=i)(hQ:∀h',Heap.ExtBut it s.heap h'->Q none {s with heap:=h'}):wpAny (model prog w) A (pyNext (.ref it)) Q E s:=by
 obtain⟨o,ho,hc,hd⟩:=id hit;unfold pyNext;refine ag (F0 (uQ (name:=Str.ofString "__next__") hit.typeIs zd (nh zd hit.typeIs F.entry_dict_keyiterator_next ?_ (F.args_dict_keyiterator_next_1 _))))
 refine ag (az ?_);refine ag ?_;refine ag ?_
 first |refine ag (F1 hit.typeIs (az ?_)) |refine ag (F2 hit.typeIs (az ?_))
 refine ag (F3 ho hd ?_);have hown:Builtin.Dict_items.ownsTuple "dict_keyiterator"=false:=by decide
 simp only[hown,pQ,jY];show wpAny _ _ (if (Value.ref d==Value.none)=true then _ else _) _ _ s;rw[ah (show ¬((Value.ref d==Value.none)=true) from cY)];refine ag (az ?_);refine ag (FZ hod hdd ?_);rw[ah (by rw[hsz];simp)];refine ag (az ?_);refine ag (wpAny_dictEpoch hod hdd ?_);rw[ah (by simp)];refine az ?_;have UH:es.size<=i:=by rw[hsz];exact hge
 simp only[show ¬((i:Int)<0) from by omega,jY,y_,zc UH];refine ag ?_
 first |refine ag (F1 hit.typeIs (az ?_)) |refine ag (F2 hit.typeIs (az ?_))
 show wpAny _ _ (setField (.ref it) 0 .none>>=_) _ _ s;refine ag (kT ho hd (by simp) ?_);show wpAny _ _ (newExc (.type "StopIteration") []>>=_) _ _ _;refine ag ?_;simp only[newExc,newTuple];refine ag (jc ?_ (by size_fits));refine ag (m:=firstArgMember _ _) (wpAny_of_eq (a:=Value.none) (by first |rfl |(simp only[firstArgMember];rfl)) ?_);refine jc ?_ (by size_fits);simp only[raiseNew];refine ag (wpAny_handled ?_);rw[show A.in1.handled=none from hh];refine ag (az (wpAny_throw ?_));refine ag (F6 (T:="StopIteration") (b:=true) ⟨_,cF _ rfl,rfl⟩ isSubtype_stop ?_);exact az (hQ _ (((F5 ..).extBut.push _).push _))
end
section
variable{X:Cx}{pins:List (Addr×Obj)}{σ:St}{H:Hp}{s:Shared}{d:Addr}{o:Obj}
end
section
variable{P:Program}{w:World}{K:ax}{tg:Expr}{d:Addr}{o:Obj}{es:Array DictEntry}{ep:Nat}
end
section
variable{X:Cx}{tg e:Expr}{td:TE}{apos cpos:Pos}
end
def sI(K:ax)(a:Addr):It:=⟨λi H=>∃(xs:List V)(x:V),aj K H a xs/\xs[i]? =some x,λi H v H'=>∃T x,v=.ref T/\H T=none/\H'=upd H T (.tup [.int (i:Nat),x])/\∀xs,aj K H a xs->xs[i]? =some x,λi H=>∃xs:List V,aj K H a xs/\xs.length<=i⟩
theorem UI{P:Program}{w:World}{K:ax}{elts:List Expr}{kk:Nat}{tpos:Pos}(a e it:Addr):l7 P w K (.Tuple elts kk tpos) (sI K a) [e,it] e (λi h=>(∃old,IsEnum h e it ((i:Nat):Int) old)/\h.IsListIter it a i/\e≠it) where
 mem:=by simp
 obj:=λi h st b hb=>by
  obtain⟨⟨old,he⟩,⟨o,ho,hc,hd⟩,_⟩:=st;have e':b=e\/b=it:=by simpa using hb
  rcases e' with z |z
  ·rw[z];exact⟨_,he,λv q=>nomatch q⟩
  ·rw[z];exact⟨o,ho,λv q=>by rw[hd]at q;cases q⟩
 keep:=λi h h' st k=>let ⟨⟨old,he⟩,hi,hne⟩:=st;⟨⟨old,k e (by simp) _ he⟩,hi.at λo q=>k it (by simp) o q,hne⟩
 item:=by
  intro X hP hw hK hc i pins s σ H E I hf st hg;subst hP hw hK;obtain⟨⟨old,he⟩,hit,hne⟩:=st;obtain⟨xs,x,hq,hx⟩:=hg;obtain⟨its,rv,p,hz⟩:=I.list hq;obtain⟨u,hu,ru⟩:=rv.get hx;have hel:e<s.heap.objs.size:=ba he;have hil:it<s.heap.objs.size:=by obtain⟨_,q,_⟩:=hit;exact ba q
  refine wpAny_pyNext_enum_item he hit p.isList (x:=u) (by simpa using hu) hne λh' ho vP hT hsz hk=>?_
  refine⟨_,rfl,wpAny_letOwnedTupleGo_enum (s:= {s with heap:=h',toks:=s.toks+1}) ho λh'' he' sb=>?_⟩;have hT2:h''.get? s.heap.objs.size=some {cls:=.type "tuple",data:=.seq #[.int i s.toks,u]}:=(sb.2 _ (l9 hel)).trans hT;have new:ck X.prog X.w (upd H s.heap.objs.size (.tup [.int (i:Nat),x])) h'' s.heap.objs.size (.tup [.int (i:Nat),x]):=
   ⟨by show 2<=sizeLine;decide,[.int i s.toks,u],.cons ⟨_,rfl⟩ (.cons ru .nil),⟨_,hT2,rfl,_,rfl⟩⟩
  have I1:Inv X pins σ (upd H s.heap.objs.size (.tup [.int (i:Nat),x])) {s with heap:=h'',toks:=s.toks+1}:=
   I.Iv (ch:=[e,it]) (λb ob hb q=>(sb.2 b (λz=>hb (by simp[z]))).trans (hk b ob (λz=>hb (by simp[z])) (λz=>hb (by simp[z])) q)) hf (aI _) new
  refine⟨.ref s.heap.objs.size,_,I1,rfl,⟨_,x,rfl,I.hok.fresh (aI _),rfl,λys hy=>by rw[I.vj hy hq];exact hx⟩,⟨⟨u,?_⟩,vP.at λo q=>(sb.2 it (cu hne)).trans q,hne⟩,λb hb=>?_⟩
  ·have e1:((i+1:Nat):Int)=(i:Int)+1:=by omega
   rw[e1];exact he'
  ·have hb':b<s.heap.objs.size:=by
    have e':b=e\/b=it:=by simpa using hb
    rcases e' with z |z
    ·rw[z];exact hel
    ·rw[z];exact hil
   rw[ay (bT hb')];exact(hf b hb).1
 done:=by intro X hP hw hK hc i pins s σ H E I hf st hg;subst hP hw hK;obtain⟨⟨old,he⟩,hit,hne⟩:=st;obtain⟨xs,hq,hx⟩:=hg;obtain⟨its,rv,p,hz⟩:=I.list hq;obtain⟨f0,f1,f2,f3,f4,f5⟩:=hf it (by simp);have hl:=rv.length;exact wpAny_pyNext_enum_end (I.ok.hd hc) he hit p.isList (by simp;omega) λh' eb=>⟨rfl,I.turned (t':=s.toks) (λb o hb q=>eb b o hb q) f0 f1 f3 f4 f5⟩
 self:=λA i s Q E st h=>let ⟨⟨_,he⟩,_⟩:=st;wpAny_pyIter_enum he h
inductive IB(K:ax)(R:(It->Hp->Prop))(vs:List V)(H1:Hp):Prop
 |mk a xs:vs=[.ref a]->aj K H1 a xs->R (sI K a) H1->IB K R vs H1
def UJ(K:ax)(ta:TA):TI:=λσ H R=>ta σ H λvs H1=>IB K R vs H1
theorem An{X:Cx}{e:Expr}{ta:TA}{p pos tpos:Pos}{elts:List Expr}{kk:Nat}(hg:Gl X "enumerate")(hm:X.mg "enumerate"=none)(ha:PA X [e] ta)(hs:starEach [e] X.env=[(false,eval e X.env)]:=by rfl):PI X (.Tuple elts kk tpos) (.Call (.Name "enumerate" p) [e] [] pos) (UJ X.K ta):=by
 intro pins s σ H R I h;refine Call_ (qd I hg hm boot_enumerate (y9 (aF (ha pos pins s σ H _ I h) λus s1 ⟨vs,H1,I1,r1,q1⟩=>?_) hs rfl));obtain⟨a,xs,ex,hq,q⟩:=q1;subst ex;cases r1 with
 |cons r rr=>
  cases rr;cases r;obtain⟨its,rv,p',hz⟩:=I1.list hq;refine call_enumerate_list p'.isList λh' he hit hsz hk=>wpAny_pyIter_enum he ?_
  have I2:Inv X pins σ H1 {s1 with heap:=h'}:=I1.kept (t':=s1.toks) hk;refine⟨s1.heap.objs.size+1,[s1.heap.objs.size+1,s1.heap.objs.size],_,_,H1,rfl,I2,UI a (s1.heap.objs.size+1) s1.heap.objs.size,⟨⟨.none,he⟩,hit,Nat.succ_ne_self _⟩,λb hb=>?_,q⟩;have e':b=s1.heap.objs.size+1\/b=s1.heap.objs.size:=by simpa using hb
  have hle:s1.heap.objs.size<=b:=by
   rcases e' with z |z
   ·rw[z];exact zf _ _
   ·rw[z];exact aI _
  exact I1.jh hle (I1.hok.fresh hle)
theorem UK:bootBuiltins "zip"=some (.type "zip"):=by decide+kernel
def sJ(K:ax)(a b:Addr):It:=⟨λi H=>∃(xs ys:List V)(x y:V),aj K H a xs/\aj K H b ys/\xs[i]? =some x/\ys[i]? =some y,λi H v H'=>∃T x y,v=.ref T/\H T=none/\H'=upd H T (.tup [x,y])/\(∀xs,aj K H a xs->xs[i]? =some x)/\∀ys,aj K H b ys->ys[i]? =some y,λi H=>∃xs ys:List V,aj K H a xs/\aj K H b ys/\(xs.length<=i\/ys.length<=i)⟩
theorem UL{P:Program}{w:World}{K:ax}{elts:List Expr}{kk:Nat}{tpos:Pos}{a b z TI TO i1 i2:Addr}(D:ZipApart z TI TO i1 i2 a b):l7 P w K (.Tuple elts kk tpos) (sJ K a b) [z,TI,TO,i1,i2] z (λi h=>IsZip h z TI TO .none/\IsPair h TI (.ref i1) (.ref i2)/\(∃x y,IsPair h TO x y)/\h.IsListIter i1 a i/\h.IsListIter i2 b i) where
 mem:=by simp
 obj:=λi h st c hc=>by
  obtain⟨hz,hTI,⟨x,y,hTO⟩,⟨o1,e1,_,d1⟩,⟨o2,e2,_,d2⟩⟩:=st;have e':c=z\/c=TI\/c=TO\/c=i1\/c=i2:=by simpa using hc
  rcases e' with q |q |q |q |q
  ·rw[q];exact⟨_,hz,λv q=>nomatch q⟩
  ·rw[q];exact⟨_,hTI,λv q=>nomatch q⟩
  ·rw[q];exact⟨_,hTO,λv q=>nomatch q⟩
  ·rw[q];exact⟨o1,e1,λv q=>by rw[d1]at q;cases q⟩
  ·rw[q];exact⟨o2,e2,λv q=>by rw[d2]at q;cases q⟩
 keep:=λi h h' st k=>by obtain⟨hz,hTI,⟨x,y,hTO⟩,h1,h2⟩:=st;exact⟨k z (by simp) _ hz,k TI (by simp) _ hTI,⟨x,y,k TO (by simp) _ hTO⟩,h1.at λo q=>k i1 (by simp) o q,h2.at λo q=>k i2 (by simp) o q⟩
 item:=by
  intro X hP hw hK hc i pins s σ H E I hf st hg;subst hP hw hK;obtain⟨hz,hTI,⟨x0,y0,hTO⟩,h1,h2⟩:=st;obtain⟨xs,ys,x,y,qu,qv,hx,hy⟩:=hg;obtain⟨its,rv,p,_⟩:=I.list qu;obtain⟨its2,vQ,p2,_⟩:=I.list qv;obtain⟨u,hu,ru⟩:=rv.get hx;obtain⟨u2,hu2,ru2⟩:=vQ.get hy;have hzl:z<s.heap.objs.size:=ba hz;refine wpAny_pyNext_zip_item D hz hTI hTO h1 h2 p.isList p2.isList (x:=u) (y:=u2) (by simpa using hu) (by simpa using hu2) λh' z' TO' h1' h2' hT hsz hk=>?_
  refine⟨_,rfl,wpAny_letOwnedTupleGo_zip (s:= {s with heap:=h'}) z' λh'' z'' sb=>?_⟩;have hT2:h''.get? s.heap.objs.size=some {cls:=.type "tuple",data:=.seq #[u,u2]}:=(sb.2 _ (l9 hzl)).trans hT;have new:ck X.prog X.w (upd H s.heap.objs.size (.tup [x,y])) h'' s.heap.objs.size (.tup [x,y]):=
   ⟨by show 2<=sizeLine;decide,[u,u2],.cons ru (.cons ru2 .nil),⟨_,hT2,rfl,_,rfl⟩⟩
  have I1:Inv X pins σ (upd H s.heap.objs.size (.tup [x,y])) {s with heap:=h''}:=
   I.Iv (t':=s.toks) (ch:=[z,TI,TO,i1,i2]) (λc o hb q=>(sb.2 c (λq'=>hb (by simp[q']))).trans (hk c o (λq'=>hb (by simp[q'])) (λq'=>hb (by simp[q'])) (λq'=>hb (by simp[q'])) (λq'=>hb (by simp[q'])) q)) hf (aI _) new
  refine⟨.ref s.heap.objs.size,_,I1,rfl,⟨_,x,y,rfl,I.hok.fresh (aI _),rfl,λl hl=>by rw[I.vj hl qu];exact hx,λl hl=>by rw[I.vj hl qv];exact hy⟩,⟨z'',?_,⟨u,u2,?_⟩,?_,?_⟩,λc vR=>?_⟩
  ·exact(sb.2 _ D.TIz).trans (hk _ _ D.TIz D.TITO D.TIi1 D.TIi2 hTI)
  ·exact(sb.2 _ D.TOz).trans TO'
  ·exact h1'.at λo q=>(sb.2 _ D.i1z).trans q
  ·exact h2'.at λo q=>(sb.2 _ D.i2z).trans q
  ·have hlt:c<s.heap.objs.size:=by
    have e':c=z\/c=TI\/c=TO\/c=i1\/c=i2:=by simpa using vR
    rcases e' with q |q |q |q |q
    ·rw[q];exact hzl
    ·rw[q];exact ba hTI
    ·rw[q];exact ba hTO
    ·rw[q];obtain⟨_,e1,_⟩:=h1;exact ba e1
    ·rw[q];obtain⟨_,e2,_⟩:=h2;exact ba e2
   rw[ay (bT hlt)];exact(hf c vR).1
 done:=by
  intro X hP hw hK hc i pins s σ H E I hf st hg;subst hP hw hK;obtain⟨hz,hTI,⟨x0,y0,hTO⟩,h1,h2⟩:=st;obtain⟨xs,ys,qu,qv,hend⟩:=hg;obtain⟨its,rv,p,_⟩:=I.list qu;obtain⟨its2,vQ,p2,_⟩:=I.list qv;have l1:=rv.length;have l2:=vQ.length;have he:its.toArray[i]? =none\/its2.toArray[i]? =none:=by
   rcases hend with q |q
   ·exact .inl (by simp;omega)
   ·exact .inr (by simp;omega)
  exact wpAny_pyNext_zip_end (I.ok.hd hc) D hz hTI hTO h1 h2 p.isList p2.isList he λh' hk=>⟨rfl,I.Ak (t':=s.toks) (ch:=[z,TI,TO,i1,i2]) (λc o hb q=>hk c o (λq'=>hb (by simp[q'])) (λq'=>hb (by simp[q'])) (λq'=>hb (by simp[q'])) (λq'=>hb (by simp[q'])) q) hf⟩
 self:=λA i s Q E st h=>wpAny_pyIter_zip st.1 h
inductive IC(K:ax)(R:(It->Hp->Prop))(vs:List V)(H1:Hp):Prop
 |mk a b xs ys:vs=[.ref a,.ref b]->aj K H1 a xs->aj K H1 b ys->R (sJ K a b) H1->IC K R vs H1
def UM(K:ax)(ta:TA):TI:=λσ H R=>ta σ H λvs H1=>IC K R vs H1
theorem vS{X:Cx}{e e2:Expr}{ta:TA}{p pos tpos:Pos}{elts:List Expr}{kk:Nat}(hg:Gl X "zip")(hm:X.mg "zip"=none)(ha:PA X [e,e2] ta) (hs:starEach [e,e2] X.env=(false,eval e X.env)::starEach [e2] X.env:=by rfl)(hpl:(backTo pos (starEach [e2] X.env)).any (·.1)=false:=by rfl):PI X (.Tuple elts kk tpos) (.Call (.Name "zip" p) [e,e2] [] pos) (UM X.K ta):=by
 intro pins s σ H R I h;refine Call_ (qd I hg hm UK (y9 (aF (ha pos pins s σ H _ I h) λus s1 ⟨vs,H1,I1,r1,q1⟩=>?_) hs hpl));obtain⟨a,b,xs,ys,ex,qu,qv,q⟩:=q1;subst ex;cases r1 with
 |cons r rr=>
  cases rr with
  |cons r' rr=>
   cases rr;cases r;cases r';obtain⟨its,rv,p1,_⟩:=I1.list qu;obtain⟨its2,vQ,p2,_⟩:=I1.list qv;have la:a<s1.heap.objs.size:=p1.lt;have lb:b<s1.heap.objs.size:=p2.lt;refine call_zip_2 p1.isList p2.isList λh' hz hTI hTO h1 h2 hsz hk=>wpAny_pyIter_zip hz ?_
   have I2:Inv X pins σ H1 {s1 with heap:=h'}:=I1.kept (t':=s1.toks) hk;refine⟨s1.heap.objs.size+4,[s1.heap.objs.size+4,s1.heap.objs.size+2,s1.heap.objs.size+3,s1.heap.objs.size,s1.heap.objs.size+1],_,_,H1,rfl,I2,UL (PySem.W.ktu_apart s1.heap.objs.size a b la lb),⟨hz,hTI,⟨_,_,hTO⟩,h1,h2⟩,λc vR=>?_,q⟩;have e':c=s1.heap.objs.size+4\/c=s1.heap.objs.size+2\/c=s1.heap.objs.size+3\/c=s1.heap.objs.size\/c=s1.heap.objs.size+1:=by simpa using vR
   have hle:s1.heap.objs.size<=c:=by
    rcases e' with z |z |z |z |z
    ·rw[z];exact zf _ _
    ·rw[z];exact zf _ _
    ·rw[z];exact zf _ _
    ·rw[z];exact aI _
    ·rw[z];exact zf _ _
   exact I1.jh hle (I1.hok.fresh hle)
end L2
section
namespace Bits
open PySem PyProof.Rows
theorem Ao(m:Nat):∀n:Nat,(m^^^n)+2*(m&&& n)=m+n:=by
 induction m using Nat.strongRecOn with
 |_ m ih=>
  intro n;by_cases h0:m=0
  ·subst h0;simp
  ·have e:=ih (m/2) (Nat.div_lt_self (Nat.pos_of_ne_zero h0) (by decide)) (n/2);rw[<-Nat.xor_div_two,<-Nat.and_div_two]at e;have o1:=@Nat.xor_mod_two_eq_one m n;have a1:=@Nat.and_mod_two_eq_one m n;have p:(m^^^n)%2+2*((m&&& n)%2)=m%2+n%2:=by
    have x:=F7 (m^^^n);have y:=F7 (m&&& n);have z:=F7 m;have w:=F7 n;revert o1 a1 x y z w;generalize (m^^^n)%2=a;generalize (m&&& n)%2=b;generalize m%2=c;generalize n%2=d
    rintro o1 a1 (rfl |rfl) (rfl |rfl) (rfl |rfl) (rfl |rfl)<;>first |rfl |(revert o1 a1;decide)
   clear o1 a1 ih;omega
end Bits
end
section
namespace TL
open PySem PySem.Builtin PySem.Builtin.Str PySem.StrLaws
end TL
end
namespace L2
open PySem PySem.Spec PyProof.Rows
section
variable{X:Cx}{pins:List (Addr×Obj)}{σ:St}{H:Hp}{s:Shared}{Q:VK}
end
section
variable{X:Cx}
end
section
variable{X:Cx}{o e:Expr}{to te:TE}
end
section
variable{X:Cx}
end
end L2
namespace Att
open PySem PySem.W PySem.Calls PyProof.Rows
theorem UN{P:Params}{h:Heap}:∀(ns:List Int)(vs:List Value),WellAll P h vs (ns.map WData.int)->IntsAre vs ns:=by
 intro ns
 induction ns with
 |nil=>intro vs w;rw[pP]at w;cases w;exact .nil
 |cons n ns ih=>
  intro vs w;rw[bt]at w;cases w with
  |cons a b=>cases a;exact .cons _ _ (ih _ b)
section
variable{prog:Program}{w:World}{A:Around}{E:Value->Shared->Prop}{s:Shared}{K:Frag}
end
end Att
namespace L2
open PySem PySem.Spec PyProof.Rows
theorem ID:∀{vs:List Value}{ns:List Int},IntsAre vs ns->Vals (ns.map V.int) vs
 |_,_,.nil=>.nil
 |_,_,.cons n t h=>.cons ⟨t,rfl⟩ (ID h)
def UO(H:Hp):Prop:=∀b,H b=none\/∃o xs,H b=some (.j9 o (.lst xs))
abbrev IE{K:ax}{h:Heap}(_:K.In h):ax:=K
def jy(s:Stmt)(j:Nat):Stmt:=match s with
 | .ClassDef _ _ _ body _ _ _ _ _ _ _=>body.getD j (.Pass ⟨0,0,0,0⟩)
 |_=>.Pass ⟨0,0,0,0⟩
def iR(s:Stmt):Arguments:=match s with
 | .FunctionDef _ a _ _ _ _ _ _ _ _=>a
 |_=> {posonlyargs:=[],args:=[],vararg:=none,kwonlyargs:=[],kw_defaults:=[],kwarg:=none,defaults:=[]}
def gK(s:Stmt):List Stmt:=match s with
 | .FunctionDef _ _ b _ _ _ _ _ _ _=>b
 |_=>[]
def aC(s:Stmt):Scope:=match s with
 | .FunctionDef _ _ _ _ _ _ sc _ _ _=>sc
 |_=> {kind:=.function,names:=[],isGenerator:=false,isCoroutine:=false}
abbrev aR:jI:=λ_ _ _ _ _ _=>False
abbrev E0:XK:=λ_ _ _=>False
theorem aH{X:Cx}:jW aR X E0:=λ_ _ _ _ _ _ _ h=>h.elim
structure aM(K:ax)(x qual:Str)(st:Stmt)(f:Addr)(fd:FuncData):Prop where
 ex:∃(oc:Value)(od:Option Addr)(kV doc pm:Value)(an:Option Addr)(cdv ct:Value)(osl:Array (Option Value)),fd=fnOf x qual (iR st) (gK st) (aC st) .none kV doc pm an cdv ct/\K.lookup f=some ⟨oc,od,.func fd,osl⟩/\codeIn K cdv qual=true
 kp:keepIn K (.ref f)=true
section
variable{P:Program}{w:World}{K:ax}{mg:Str->Option Value}{base:Heap}
theorem aM.ok{x qual:Str}{st:Stmt}{f:Addr}{fd:FuncData}{N ps:List Str}{k:Nat}{sp:Sp}(F:aM K x qual st f fd)(S:aQ N ps (aC st))(len:∀vs H Q E,sp vs H Q E->vs.length=ps.length) (hbody:∀(cdv:Value)(A:Around)(outer:List Env)(s:Shared)(H:Hp)(vs:List V)(Q:VK)(E:XK),cA k (A.deeper (envOfC qual (aC st) s.heap.objs.size f cdv))->sp vs H Q E->∃t,eA (iM aR P w K mg base N qual (aC st) f cdv A outer s H E).g9 (gK st) t/\t {nx:=λ_ H'=>Q .au H',rt:=Q} (start N vs) H):aG P w K mg base aR (k+1) f fd ps sp:=by
 obtain⟨oc,od,kV,doc,pm,an,cdv,ct,osl,rfl,lk,hcd⟩:=F.ex;refine zN lk hcd S len λA outer s H vs Q E hr hsp=>?_
 obtain⟨t,h,q⟩:=hbody cdv A outer s H vs Q E hr hsp;exact⟨t,h.g9,q⟩
theorem aM.binds{x qual:Str}{st:Stmt}{f:Addr}{fd:FuncData}{ps:List Str}(F:aM K x qual st f fd) (h:∀(kV doc pm:Value)(an:Option Addr)(cdv ct:Value)(us:List Value),us.length=ps.length->bindArgs (fnOf x qual (iR st) (gK st) (aC st) .none kV doc pm an cdv ct) ⟨us,[]⟩=pure (ps.zip us)):Binds K fd ps []:=by
 obtain⟨oc,od,kV,doc,pm,an,cdv,ct,osl,rfl,lk,hcd⟩:=F.ex;exact .all (h kV doc pm an cdv ct)
theorem UP{x qual:Str}{st:Stmt}{f:Addr}{oc:Value}{od an:Option Addr}{osl:Array (Option Value)}{kV doc pm cdv ct:Value}(l:K.lookup f=some ⟨oc,od,.func (fnOf x qual (iR st) (gK st) (aC st) .none kV doc pm an cdv ct),osl⟩) (c:codeIn K cdv qual=true)(k:keepIn K (.ref f)=true):aM K x qual st f (fnOf x qual (iR st) (gK st) (aC st) .none kV doc pm an cdv ct):=⟨⟨oc,od,kV,doc,pm,an,cdv,ct,osl,rfl,l,c⟩,k⟩
end
theorem kh{A:Around}{k:Nat}(hr:cA k A):A.units+1<cLine:=pW (Nat.add_le_add_left (by decide:1<=64) _) hr.units
section
variable{X:Cx}
theorem pv(i:Nat){x:Str}{pos:Pos}(hN:X.N[i]? =some x:=by rfl)(hv:qc X.env.scope x:=by first |exact Or.inl rfl |exact Or.inr (Or.inl rfl) |exact Or.inr (Or.inr rfl))(hd:(x==("__debug__" :Str))=false:=by decide) (hcd:(x==("__classdict__" :Str))=false:=by decide):PE X (.Name x pos) (dS i):=Gm hN hv hd hcd
end
theorem aA{A B:Prop}(h:B):if false=true then A else B:=by rw[ah cY];exact h
theorem aD{A B:Prop}(h:A):if true=true then A else B:=by rw[ai rfl];exact h
theorem dP{c A B:Prop} [Decidable c](h1:c->A)(h2:¬c->B):if c then A else B:=by
 by_cases h:c
 ·rw[ai h];exact h1 h
 ·rw[ah h];exact h2 h
def ae(H H':Hp):Prop:=∀b o,H b=some o->H' b=some o
theorem ae.refl(H:Hp):ae H H:=λ_ _ h=>h
theorem ae.trans{H H1 H2:Hp}(a:ae H H1)(b:ae H1 H2):ae H H2:=λc o h=>b c o (a c o h)
theorem ae.free{H H':Hp}(e:ae H H'){l:Addr}(h:H' l=Option.none):H l=Option.none:=by
 cases q:H l with
 |none=>rfl
 |some o=>rw[e l o q]at h;cases h
theorem ae.seq{K:ax}{H H':Hp}{a:Addr}{xs:List V}(e:ae H H')(h:aj K H a xs):aj K H' a xs:=by
 rcases h with (h |⟨o,h⟩) |h
 ·exact .inl (.inl (e _ _ h))
 ·exact .inl (.inr ⟨o,e _ _ h⟩)
 ·exact .inr h
section
variable{κ:Type} [DecidableEq κ]
end
theorem ae.made{H H1:Hp}{x dx C:Addr}(nx:H x=Option.none)(nd:H dx=Option.none)(k:∀b o,(upd (upd H dx (.own x)) x (.ins C dx [])) b=some o->b≠x->H1 b=some o):ae H H1:=λb o e=>k b o (by rw[ay (aJ e nx),ay (aJ e nd)];exact e) (aJ e nx)
end L2
namespace L2
open PySem PySem.Spec PyProof.Rows
structure sM(h:Heap)(C a dx T:Addr)(n:Int):Prop where
 ob:∃vs sl,h.get? a=some ⟨.ref C,some dx,.fields vs,sl⟩/\ (vs[1]? =some .none\/(vs[1]? =some (.ref T)/\∃oT ts x3,h.get? T=some oT/\oT.data=.fields ts/\ts[3]? =some x3))
 dc:∃mA tk,h.Ns1 dx mA/\mA "line"=some (.int n tk)
 na:dx≠a
 nT:T≠a
 nd:T≠dx
def vT(h:Heap)(C a dx T:Addr):Prop:=∃vs sl,h.get? a=some ⟨.ref C,some dx,.fields vs,sl⟩/\vs[1]? =some (.ref T)
theorem sM.keep{h h':Heap}{C a dx T:Addr}{n:Int}(x:sM h C a dx T n)(k:∀b o,(b=a\/b=dx\/b=T)->h.get? b=some o->h'.get? b=some o):sM h' C a dx T n:=by
 obtain⟨⟨vs,sl,ha,r⟩,⟨mA,tk,⟨o,es,ep,e1,e2⟩,l⟩,na,nT,nd⟩:=x;refine⟨⟨vs,sl,k _ _ (.inl rfl) ha,?_⟩,⟨mA,tk,⟨o,es,ep,k _ _ (.inr (.inl rfl)) e1,e2⟩,l⟩,na,nT,nd⟩;rcases r with r |⟨r,oT,ts,x3,hT,hd,h3⟩
 ·exact .inl r
 ·exact .inr ⟨r,oT,ts,x3,k _ _ (.inr (.inr rfl)) hT,hd,h3⟩
theorem vT.keep{h h':Heap}{C a dx T:Addr}(x:vT h C a dx T)(k:∀o,h.get? a=some o->h'.get? a=some o):vT h' C a dx T:=let ⟨vs,sl,ha,r⟩:=x;⟨vs,sl,k _ ha,r⟩
structure jn(X:Cx)(C:Addr)(E:XK)(pins:List (Addr×Obj))(σ:St)(H:Hp)(a dx T:Addr)(n:Int)(s:Shared):Prop where
 inv:Inv X pins σ H s
 at_:sM s.heap C a dx T n
 fa:fm X pins H a
 fd:X.s₀.heap.get? dx=none/\dx≠X.env.locals
 hd:H dx=none
 pd:∀p∈X.pn++pins,p.1≠dx
 fT:fm X pins H T
 ew:E (.int n 0) none H
def XJ(X:Cx)(C:Addr)(E:XK)(e:Value)(s:Shared):Prop:=∃pins σ H a dx T n,e=.ref a/\jn X C E pins σ H a dx T n s
def n9(X:Cx)(C:Addr)(E:XK)(e:Value)(s:Shared):Prop:=∃pins σ H a dx T n,e=.ref a/\jn X C E pins σ H a dx T n s/\vT s.heap C a dx T
theorem n9.xi{X:Cx}{C:Addr}{E:XK}{e:Value}{s:Shared}(h:n9 X C E e s):XJ X C E e s:=let ⟨pins,σ,H,a,dx,T,n,h1,h2,_⟩:=h;⟨pins,σ,H,a,dx,T,n,h1,h2⟩
section
variable{X:Cx}{C:Addr}{E:XK}{pins:List (Addr×Obj)}{σ:St}{H:Hp}{a dx T:Addr}{n:Int}{s:Shared}
theorem fm.vU(I:Inv X pins σ H s){b:Addr}(f:fm X pins H b):b ∉ frs X.stack:=λz=>by
 rcases a6.mp (I.rS b z)with q |q
 ·exact f.2.1 q
 ·exact f.2.2.1 q
theorem Inv.slots{h1:Heap}(I:Inv X pins σ H s)(x:Heap.SlotsOnly (frs X.stack) s.heap h1):Inv X pins σ H {s with heap:=h1}:=by
 have IG:∀b o u,H b=some o->s.heap.get? b=some u->h1.get? b=some u:=λb o u hb hu=>by rw[x.2.1 b λz=>by rw[I.zq b z]at hb;cases hb];exact hu
 have hok:cw X.prog X.w H h1:=λb o hb=>(I.hok b o hb).stay (λc u hc hu=>by
  rcases hc with rfl |hc
  ·exact IG _ _ _ hb hu
  ·exact IG _ _ _ hc hu) (λ_ z=>z) λ_ _ z=>z
 refine I.call (h':=h1) (ch:=[]) (g':=s.gens) (t':=s.toks) (d':=s.drawn) ?_ hok I.bare (λb z=>absurd z (by simp));exact⟨λb o hb _ nf _=>by rw[x.2.1 b nf];exact hb,λb o hb _ _ _=>x.2.2 b o hb,λ_ _ _ z _=>z,λb o hb _=>let ⟨sl,e⟩:=x.2.2 b o hb;⟨_,e⟩,λ_ _ z=>z,λ_ _ _ z=>z,λ_ ps z=>⟨#[],by simpa using z⟩⟩
theorem jn.vU(Z:jn X C E pins σ H a dx T n s):dx ∉ frs X.stack:=λz=>by
 rcases a6.mp (Z.inv.rS dx z)with q |q
 ·exact Z.fd.2 q
 ·obtain⟨o,ho,_⟩:=(Z.inv.ok.fK.mem q).2;rw[Z.fd.1]at ho;cases ho
theorem jn.slots{h1:Heap}(Z:jn X C E pins σ H a dx T n s)(x:Heap.SlotsOnly (frs X.stack) s.heap h1):jn X C E pins σ H a dx T n {s with heap:=h1}:=⟨Z.inv.slots x,Z.at_.keep λb o hb e=>by
  have nb:b ∉ frs X.stack:=by
   rcases hb with rfl |rfl |rfl
   ·exact Z.fa.vU Z.inv
   ·exact Z.vU
   ·exact Z.fT.vU Z.inv
  show h1.get? b=some o;rw[x.2.1 b nb];exact e,Z.fa,Z.fd,Z.hd,Z.pd,Z.fT,Z.ew⟩
theorem IH{h:Heap}{b:Addr}{o:Obj}{vs:Array Value}{i:Nat}{x:Value}(e:h.get? b=some o)(d:o.data=.fields vs):(h.update b (Obj.mapFields (·.setIfInBounds i x))).get? b=some (o.mapFields (·.setIfInBounds i x))/\(o.mapFields (·.setIfInBounds i x)).data=.fields (vs.setIfInBounds i x):=⟨ni _ e (F4 (pV d _)),pV d _⟩
theorem jn.entry{oT:Obj}{ts:Array Value}{i:Nat}{x x3:Value}(Z:jn X C E pins σ H a dx T n s)(hT:s.heap.get? T=some oT)(hd:oT.data=.fields ts)(h3:ts[3]? =some x3):jn X C E pins σ H a dx T n {s with heap:=s.heap.update T (Obj.mapFields (·.setIfInBounds i x))}:=by
 have oth:∀b o,b≠T->s.heap.get? b=some o->(s.heap.update T (Obj.mapFields (·.setIfInBounds i x))).get? b=some o:=λb o hb e=>(iA _ _ (cu hb)).trans e
 obtain⟨u1,u2⟩:=IH (i:=i) (x:=x) hT hd;refine⟨Z.inv.Ak (t':=s.toks) (ch:=[T]) (λb o hb e=>oth b o (λq=>hb (by simp[q])) e) (λb hb=>by rw[rK.mp hb];exact Z.fT),?_,Z.fa,Z.fd,Z.hd,Z.pd,Z.fT,Z.ew⟩;obtain⟨⟨vs,sl,ha,r⟩,⟨mA,tk,⟨o,es,ep,e1,e2⟩,l⟩,na,nT,nd⟩:=Z.at_;refine⟨⟨vs,sl,oth _ _ (cu nT) ha,?_⟩,⟨mA,tk,⟨o,es,ep,oth _ _ (cu nd) e1,e2⟩,l⟩,na,nT,nd⟩;rcases r with r |⟨r,_⟩
 ·exact .inl r
 ·refine .inr ⟨r,_,_,?_,u1,u2,?_⟩
  ·exact if i=3 then x else x3
  ·have hs:3<ts.size:=(ze.mp h3).1;by_cases q:i=3
   ·subst q;rw[ai rfl];simp[hs]
   ·rw[ah q,Array.getElem?_setIfInBounds_ne q];exact h3
theorem II{A':Value->Shared->Prop}{head:Value}{hadNext:Bool}{L:Addr}(hst:X.stack=X.env::X.outer)(hf:X.env.frame=some L)(Z:jn X C E pins σ H a dx T n s):wpAny (model X.prog X.w) X.A (do let fo<-frameOf X.env;let pl<-entryPlaceOf L hadNext;let en<-EntryCells.newEntry head fo .none (rawInt L) .none pl;setField (.ref a) 1 en)
   (λ_ s'=>n9 X C E (.ref a) s') A' s:=by
 have fr:X.A.frames=some (X.env::X.outer):=by rw[<-hst];exact Z.inv.ok.frames
 have fl:=Z.inv.stack;rw[hst]at fl;refine ag (wpAny_frameOf_fun fr fl hf λh1 so=>?_);have so':Heap.SlotsOnly (frs X.stack) s.heap h1:=by rw[hst];exact so
 have Z1:=Z.slots so';refine ag (wpAny_entryPlaceOf λpl hpl=>?_);unfold EntryCells.newEntry newFields;refine ag (jc ?_ (hpl.sizeOk5 _ _ _ _ _));obtain⟨⟨vs,sl,ha,r⟩,⟨mA,tk,⟨o,es,ep,e1,e2⟩,l⟩,na,nT,nd⟩:=Z1.at_;have hv1:1<vs.size:=by rcases r with r |⟨r,_⟩<;>exact(ze.mp r).1
 have new:∀b ob,h1.get? b=some ob->b≠h1.objs.size:=λb ob e=>bT (ba e)
 refine kT (br _ ha) rfl hv1 ?_;obtain⟨u1,u2⟩:=IH (i:=1) (x:=.ref h1.objs.size) (br {cls:=.type "traceback",dict:=none,data:=.fields ([head,.ref L,.none,rawInt L,.none]++(if pl.isEmpty then List.replicate 6 Value.none else pl)).toArray} ha) rfl;have I2:=Z1.inv.kept (t':=s.toks) (h':=h1.push {cls:=.type "traceback",dict:=none,data:=.fields ([head,.ref L,.none,rawInt L,.none]++(if pl.isEmpty then List.replicate 6 Value.none else pl)).toArray}) λb u e=>br _ e
 have fN:fm X pins H h1.objs.size:=Z1.inv.jh (aI _) (Z1.inv.hok.fresh (aI _));have oth:∀b ob,b≠a->(h1.push {cls:=.type "traceback",dict:=none,data:=.fields ([head,.ref L,.none,rawInt L,.none]++(if pl.isEmpty then List.replicate 6 Value.none else pl)).toArray}).get? b=some ob->
   ((h1.push {cls:=.type "traceback",dict:=none,data:=.fields ([head,.ref L,.none,rawInt L,.none]++(if pl.isEmpty then List.replicate 6 Value.none else pl)).toArray}).update a (Obj.mapFields (·.setIfInBounds 1 (.ref h1.objs.size)))).get? b=some ob:=λb ob hb e=>
  (iA _ _ (cu hb)).trans e
 refine⟨pins,σ,H,a,dx,h1.objs.size,n,rfl,⟨I2.Ak (t':=s.toks) (ch:=[a]) (λb ob hb e=>oth b ob (λq=>hb (by simp[q])) e) (λb hb=>by rw[rK.mp hb];exact Z.fa),?_,Z.fa,Z.fd,Z.hd,Z.pd,fN,Z.ew⟩,?_⟩
 ·refine⟨⟨_,_,u1,.inr ⟨by simp[hv1],_,_,rawInt L,oth _ _ (cu (new _ _ ha)) (cF h1 rfl),rfl,?_⟩⟩,⟨mA,tk,⟨o,es,ep,oth _ _ na (br _ e1),e2⟩,l⟩,na,cu (new _ _ ha),cu (new _ _ e1)⟩;simp
 ·exact⟨_,_,u1,by simp[hv1]⟩
theorem Ap{A':Value->Shared->Prop}{e:Value}{L:Addr}(hst:X.stack=X.env::X.outer)(hf:X.env.frame=some L)(h:XJ X C E e s):wpAny (model X.prog X.w) X.A (noteFrame e X.env) (λ_ s'=>n9 X C E e s') A' s:=by
 obtain⟨pins,σ,H,a,dx,T,n,rfl,Z⟩:=h;obtain⟨vs,sl,ha,r⟩:=Z.at_.ob;unfold noteFrame;simp only[hf];rcases r with r |⟨r,oT,ts,x3,hT,hd,h3⟩
 ·refine ag (pN ha rfl r ?_);rw[ah (by decide)];exact II hst hf Z
 ·refine ag (pN ha rfl r ?_);rw[ai (by simp)];refine ag (pN hT hd h3 ?_);by_cases q:(x3==rawInt L)=true
  ·rw[ai q];exact az ⟨pins,σ,H,a,dx,T,n,rfl,Z,vs,sl,ha,r⟩
  ·rw[ah q];refine ag (kT hT hd (ze.mp h3).1 ?_);exact II hst hf (Z.entry hT hd h3)
theorem vV{A':Value->Shared->Prop}{e:Value}{fo:Option Addr}(h:n9 X C E e s):wpAny (model X.prog X.w) X.A (setFlight e fo) (λ_ s'=>n9 X C E e s') A' s:=by
 obtain⟨pins,σ,H,a,dx,T,n,rfl,Z,tb⟩:=h;obtain⟨vs,sl,ha,r⟩:=Z.at_.ob;obtain⟨vs',sl',ha',r'⟩:=id tb;rw[ha]at ha';cases ha';rcases r with r |⟨r,oT,ts,x3,hT,hd,h3⟩
 ·rw[r]at r';cases r'
 ·unfold setFlight;refine ag (pN ha rfl r ?_);rw[ai (by simp)];refine kT hT hd (ze.mp h3).1 ?_;refine⟨pins,σ,H,a,dx,T,n,rfl,Z.entry hT hd h3,tb.keep λo e=>(iA _ _ Z.at_.nT).trans e⟩
abbrev XI(X:Cx)(C:Addr)(E:XK):Value->Shared->Prop:=XJ X.g9 C E
theorem IJ{L:Addr}(hst:X.stack=X.env::X.outer)(hf:X.env.frame=some L)(hx:X.xe=XI X C E):PassesOwn (model X.prog X.w) X.A X.env X.xe:=by
 intro e s h;rw[hx]at h ⊢;refine dq (Ap (X:=X.g9) (A':=λ_ _=>False) hst hf h) (λ_ s' h'=>?_) λ_ _ z=>z.elim
 obtain⟨pins,σ,H,a,dx,T,n,rfl,Z,vs,sl,ha,r⟩:=id h';refine ag (pN ha rfl r ?_);rw[ah (by simp)];exact dq (vV (X:=X.g9) (A':=λ_ _=>False) h') (λ_ _ z=>z.xi) λ_ _ z=>z.elim
end
end L2
namespace L2
open PySem PySem.Spec PyProof.Rows
def fu(P:Program)(w:World)(C:Addr):jI:=λouter H s E e s'=>∃(H':Hp)(a dx T:Addr)(n:Int),e=.ref a/\s'.os=s.os/\AllBare s'.gens/\Un (frs outer) [] H H' s.heap s'.heap/\cw P w H' s'.heap/\ sM s'.heap C a dx T n/\s.heap.objs.size<=a/\s.heap.objs.size<=T/\s.heap.get? dx=none/\H' dx=none/\H' a=none/\H' T=none/\E (.int n 0) none H'
section
variable{X:Cx}{C:Addr}{E:XK}
theorem Inv.IK{pins:List (Addr×Obj)}{σ:St}{H:Hp}{s:Shared}{b:Addr}(I:Inv X pins σ H s)(hx:X.ex=[])(h:s.heap.get? b=none):X.s₀.heap.get? b=none/\b≠X.env.locals:=by
 constructor
 ·cases q:X.s₀.heap.get? b with
  |none=>rfl
  |some o=>obtain⟨o',e⟩:=I.base.there b o q (by rw[hx];simp);rw[h]at e;cases e
 ·rintro rfl
  obtain⟨m,⟨o,_,_,e,_⟩,_⟩:=I.loc;rw[h]at e;cases e
theorem gL(hx:X.xe=XI X C E)(he:X.ex=[]):jW (fu X.prog X.w C) X E:=by intro pins σ H s e s' I h;rw[hx];obtain⟨H',a,dx,T,n,rfl,h1,h2,h3,h4,h5,h6,h7,h8,hd,h9,h10,h11⟩:=h;have I':=I.zw h1 h3 h4 h2 (λb hb=>absurd hb (by simp));exact⟨pins,σ,H',a,dx,T,n,rfl,I'.fi _,h5,I.jh h6 h9,I.IK he h8,hd,(λp z q=>by have w:=(I.pin p z).1;rw[q,h8]at w;cases w),I.jh h7 h10,h11⟩
theorem eA.wide{F:Value->Shared->Prop}{st:List Stmt}{t:TS}(h:eA (X.fi F) st t)(hF:∀e s,F e s->X.xe e s):eA X st t:=λpins s σ H D I q=>dq (h pins s σ H D (I.fi F) q) (λf s' z=>z.iK) λe s' z=>hF e s' z
end
section
variable{P:Program}{w:World}{K:ax}{mg:Str->Option Value}{base:Heap}{C:Addr}
theorem UQ{N:List Str}{qual:Str}{scope:Scope}{f:Addr}{cdv:Value}{A:Around}{outer:List Env}{s s':Shared}{H:Hp}{E:XK}{e:Value} (h:XI (iM (fu P w C) P w K mg base N qual scope f cdv A outer s H E) C E e s'):(iM (fu P w C) P w K mg base N qual scope f cdv A outer s H E).xe e s':=by
 show wpAny (model P w) _ (leaving _ e) _ _ s';unfold leaving;refine ag (dq (Ap (X:=(iM (fu P w C) P w K mg base N qual scope f cdv A outer s H E).g9) (A':=λ_ _=>False) rfl rfl h) (λ_ s1 h1=>?_) λ_ _ z=>z.elim);refine dq (vV (X:=(iM (fu P w C) P w K mg base N qual scope f cdv A outer s H E).g9) (A':=λ_ _=>False) h1) (λ_ s2 h2=>?_) λ_ _ z=>z.elim
 obtain⟨pins,σ,H',a,dx,T,n,rfl,Z⟩:=h2.xi;have sz:∀{b},fm (iM (fu P w C) P w K mg base N qual scope f cdv A outer s H E).g9 pins H' b->s.heap.objs.size<=b:=λz=>z.2.2.2.1.resolve_left (by intro q;cases q)
 exact⟨H',a,dx,T,n,rfl,Z.inv.os,Z.inv.bare,Z.inv.base,Z.inv.hok,Z.at_,sz Z.fa,sz Z.fT,Z.fd.1,Z.hd,Z.fa.1,Z.fT.1,Z.ew⟩
theorem aM.lD{x qual:Str}{st:Stmt}{f:Addr}{fd:FuncData}{N ps:List Str}{k:Nat}{sp:Sp}(F:aM K x qual st f fd)(S:aQ N ps (aC st))(len:∀vs H Q E,sp vs H Q E->vs.length=ps.length) (hbody:∀(cdv:Value)(A:Around)(outer:List Env)(s:Shared)(H:Hp)(vs:List V)(Q:VK)(E:XK),cA k (A.deeper (envOfC qual (aC st) s.heap.objs.size f cdv))->sp vs H Q E->∃t,eA ((iM (fu P w C) P w K mg base N qual (aC st) f cdv A outer s H E).fi (XI (iM (fu P w C) P w K mg base N qual (aC st) f cdv A outer s H E) C E)) (gK st) t/\ t {nx:=λ_ H'=>Q .au H',rt:=Q} (start N vs) H):aG P w K mg base (fu P w C) (k+1) f fd ps sp:=by
 obtain⟨oc,od,kV,doc,pm,an,cdv,ct,osl,rfl,lk,hcd⟩:=F.ex;refine zN lk hcd S len λA outer s H vs Q E hr hsp=>?_
 obtain⟨t,h,q⟩:=hbody cdv A outer s H vs Q E hr hsp;exact⟨t,h.wide λe s' z=>UQ z,q⟩
end
section
variable{X:Cx}{pins:List (Addr×Obj)}{σ:St}{H:Hp}{s:Shared}
def qw(H:Hp)(a:Addr):Hp:=λb=>if b=a then none else H b
theorem ki{H:Hp}{a b:Addr}(h:b≠a):qw H a b=H b:=ah h
theorem vW{H:Hp}{a:Addr}:qw H a a=none:=ai rfl
def IL:HO->Bool
 | .ext _=>true
 | .xd _=>true
 |_=>false
theorem Inv.drop{a:Addr}{o:HO}(I:Inv X pins σ H s)(ha:H a=some o)(l:IL o=true):Inv X pins σ (qw H a) s:=by
 have ne:∀b u,H b=some u->IL u=false->b≠a:=λb u e q z=>by subst z;rw[ha]at e;cases e;rw[l]at q;cases q
 have au:∀b,H b=none->qw H a b=none:=λb e=>by
  by_cases q:b=a
  ·rw[q];exact vW
  ·rw[ki q];exact e
 have u:=I.base;refine⟨I.ok,I.os,I.bare,⟨u.keep,u.slot,λb o e n hx=>au b (u.free b o e n hx),u.there,λb xs e=>?_,λb o' u' e=>?_,λb ps e=>?_⟩,I.loc,I.cell,au _ I.free,λx c e=>au _ (I.fg x c e),λp hp=>?_,λb u' e=>?_,I.len⟩
 ·have z:=u.tups b xs e;rw[ki (ne b _ z rfl)];exact z
 ·have z:=u.jf b o' u' e;rw[ki (ne b _ z rfl)];exact z
 ·obtain⟨m,z⟩:=u.jC b ps e;exact⟨m,by rw[ki (ne b _ z rfl)];exact z⟩
 ·obtain⟨h1,h2,h3⟩:=I.pin p hp;exact⟨h1,au _ h2,h3⟩
 ·have nb:b≠a:=λq=>by rw[q,vW]at e;cases e
  rw[ki nb]at e;refine(I.hok b u' e).stay (λ_ _ _ z=>z) (λc z=>?_) λc xs z=>?_
  ·rw[ki (ne c _ z rfl)];exact z
  ·rw[ki (ne c _ z rfl)];exact z
end
def kj(C t a:Addr):Heap->Prop:=λh=>h.get? a=some ⟨.ref C,none,.fields #[.ref t,.none,.none,.none,.bool false,.none], #[]⟩
def mz(C t dx a:Addr):Heap->Prop:=λh=>h.get? a=some ⟨.ref C,some dx,.fields #[.ref t,.none,.none,.none,.bool false,.none], #[]⟩
structure XC(K:ax)(C N fI:Addr):Prop where
 cls:∃nm q bs sn sub ab col dd k0 k1 k2 k3 k5,K.lookup C=some (excClassObj nm q C N bs [.type "Exception",.type "BaseException",.type "object"] true sn sub ab col dd k0 k1 k2 k3 k5 "Exception.__new__")
 ok:PySem.W.nsOkIn K N=true
 init:nsIn K N "__init__"=some (some (.ref fI))
 sa:nsIn K N "__setattr__"=some none
 ln:nsIn K N "line"=some none
 ga:nsIn K N "__getattribute__"=some none
 gt:nsIn K N "__getattr__"=some none
 fn:isFn K (.ref fI)=true
 kp:keepIn K (.ref C)=true
theorem XC.ns{K:ax}{C N fI:Addr}{h:Heap}(c:XC K C N fI)(X:K.In h):h.Ns N (h.nsMap N):=.of_isNs (PySem.W.isNs_of_in X c.ok)
theorem XC.au{K:ax}{C N fI:Addr}{h:Heap}(c:XC K C N fI)(X:K.In h){x:Str}(e:nsIn K N x=some none):h.nsMap N x=none:=PySem.W.ns_none_of X (c.ns X) e
section
variable{prog:Program}{w:World}{A:Around}{E:Value->Shared->Prop}{h:Heap}{g:Array GenState}{d:Drawn}{t:Nat}{os:OsState}
variable{nm q:Str}{C N:Addr}{bs:List Value}{sn:List Str}{sub:List Value}{ab:Bool}{col:Option Bool}{dd:Option Addr}{k0 k1 k2 k3 k5:Option Value}
noncomputable def jo(h:Heap)(C:Addr)(vs:List Value):Heap:=(h.push {cls:=.type "tuple",data:=.seq vs.toArray}).push {cls:=.ref C,data:=.fields #[.ref h.objs.size,.none,.none,.none,.bool false,.none]}
theorem vX{C:Addr}{vs:List Value}{b:Addr}{o:Obj}(e:h.get? b=some o):(jo h C vs).get? b=some o:=br _ (br _ e)
theorem IM{C:Addr}{vs:List Value}:(jo h C vs).get? (h.objs.size+1)=some ⟨.ref C,none,.fields #[.ref h.objs.size,.none,.none,.none,.bool false,.none], #[]⟩:=by
 have:=cF (h.push {cls:=.type "tuple",data:=.seq vs.toArray}) (o:= {cls:=.ref C,data:=.fields #[.ref h.objs.size,.none,.none,.none,.bool false,.none]}) rfl
 rwa [eO]at this
theorem UR{mN:Str->Option Value}{vs:List Value}{fI:Addr}{oI:Obj}{Q:Fin->Shared->Prop} (cC:h.get? C=some (excClassObj nm q C N bs [.type "Exception",.type "BaseException",.type "object"] true sn sub ab col dd k0 k1 k2 k3 k5 "Exception.__new__"))(cn:h.Ns N mN)(ci:mN "__init__"=some (.ref fI)) (cf:h.get? fI=some oI)(cfc:oI.cls=.type "function")(cz:vs.length<=sizeLine) (k:wpAny (model prog w) A (call (.ref fI) (.ref (h.objs.size+1)::vs)) (λr s'=>r=.none/\Q (.done (.ret (.ref (h.objs.size+1)))) s') E ⟨jo h C vs,g,d,t,os⟩):wpAny (model prog w) A (Builtin.«type.__call__» ⟨.ref C::vs,[]⟩) Q E ⟨h,g,d,t,os⟩:=by
 have FE:=F.excBase_Exception
 repeat (first |(with_reducible refine jZ cC ?_) |(with_reducible refine wpAny_madeBy_exc cC ?_) |wp_step)
 refine codeAny_call_builtin_code (RC _ FE.quiet) (wpAny_check_new_sub FE cC ?_);refine codeAny_exc_new_sub FE cC ?_ cz;show wpAny _ _ _ _ _ ⟨jo h C vs,g,d,t,os⟩;have cC1:(jo h C vs).get? C=_:=vX cC;have cf1:(jo h C vs).get? fI=_:=vX cf;have cn1:(jo h C vs).Ns N mN:=let ⟨o,es,ep,e,r⟩:=cn;⟨o,es,ep,vX e,r⟩
 have ce:=IM (h:=h) (C:=C) (vs:=vs);have cc:(Value.ref C::[Value.type "Exception",.type "BaseException",.type "object"]).contains (.ref C)=true:=by simp
 unfold isInstance
 repeat (first |(with_reducible refine jZ ce ?_) |(with_reducible refine RD cC1 ?_;rw[cc]) |wp_step)
 show wpAny _ _ (typeLookup (.ref C) _) _ _ _;refine uW cC1 cn1 FE.mroIs FE.init.lookup ?_;rw[ci];refine jb (ag ?_);unfold bindSpecial;refine ag (uR (T:="function") ⟨_,cf1,cfc⟩ ?_);rw[ai (by decide)];refine az (ag (dq k (λr s' hr=>?_) λ_ _ x=>x));obtain⟨rfl,hQ⟩:=hr
 wp_walk
 exact hQ
theorem US{mN:Str->Option Value}{vs:List Value}{fI:Addr}{oI:Obj}{Q:Value->Shared->Prop} (cC:h.get? C=some (excClassObj nm q C N bs [.type "Exception",.type "BaseException",.type "object"] true sn sub ab col dd k0 k1 k2 k3 k5 "Exception.__new__"))(cn:h.Ns N mN)(ci:mN "__init__"=some (.ref fI)) (cf:h.get? fI=some oI)(cfc:oI.cls=.type "function")(cz:vs.length<=sizeLine) (k:wpAny (model prog w) (A.under (.builtin "type.__call__" ⟨.ref C::vs,[]⟩)) (call (.ref fI) (.ref (h.objs.size+1)::vs)) (λr s'=>r=.none/\Q (.ref (h.objs.size+1)) s') E ⟨jo h C vs,g,d,t,os⟩):wpAny (model prog w) A (call (.ref C) vs) Q E ⟨h,g,d,t,os⟩:=by
 have f1:=tc_lookup;have f2:=tc_bind (.ref C);have cT:(⟨h,g,d,t,os⟩:Shared).TypeIs (.ref C) "type":=⟨_,cC,rfl⟩;refine rC (codeAny_of_tree ?_);show wpAny _ _ (callAny (.ref C) _) _ _ _
 repeat (any_goals (first |assumption |(with_reducible refine jZ cC ?_) |wp_step))
 refine⟨rfl,?_⟩;exact codeAny_call_builtin_at (RC _ (by decide+kernel)) entry_typeCall (wpAny_check_type_call_sub cC (UR cC cn ci cf cfc cz k))
end
end L2
namespace L2
open PySem PySem.Spec PyProof.Rows
open Builtin Builtin.ObjectAttr
theorem IP:typeLookup (.type "Exception") "line"=pure none:=by rw[typeLookup_type,RE];kernel_rfl
section
variable{prog:Program}{w:World}{A:Around}{E:Value->Shared->Prop}{h:Heap}{g:Array GenState}{d:Drawn}{t:Nat}{os:OsState}
variable{nm q:Str}{C N x:Addr}{bs:List Value}{sn:List Str}{sub:List Value}{ab:Bool}{col:Option Bool}{dd:Option Addr}{k0 k1 k2 k3 k5:Option Value} {mN:Str->Option Value}{name:Str}{v:Value}{vs:Array Value}{sl:Array (Option Value)}
theorem UT{tk:Tok}{Q:Fin->Shared->Prop} (cC:h.get? C=some (excClassObj nm q C N bs [.type "Exception",.type "BaseException",.type "object"] true sn sub ab col dd k0 k1 k2 k3 k5 "Exception.__new__"))(cn:h.Ns N mN)(ca:mN name=none) (cB:typeLookup (.type "Exception") name=pure none)(cx:h.get? x=some ⟨.ref C,none,.fields vs,sl⟩) (k:∀h' tk',h'.get? x=some ⟨.ref C,some h.objs.size,.fields vs,sl⟩->h'.Ns1 h.objs.size (λy=>if y=name then some v else none)->(∀b o,b≠x->h.get? b=some o->h'.get? b=some o)->Q (.done (.ret .none)) ⟨h',g,d,tk',os⟩):wpAny (model prog w) A (Builtin.«object.__setattr__» ⟨[.ref x,.str name tk,v],[]⟩) Q E ⟨h,g,d,t,os⟩:=by
 have SE:=F.store_Exception;have sp:=SE.passes (.ref x);obtain⟨o,eo⟩:∃o:Obj,o=⟨.ref C,none,.fields vs,sl⟩:=⟨_,rfl⟩;rw[<-eo]at cx;have oc:o.cls=.ref C:=by rw[eo]
 have od:o.dict=none:=by rw[eo]
 have ot:o.data=.fields vs:=by rw[eo]
 unfold Builtin.«object.__setattr__»
 repeat (first |rw[refuse_eq] |(rw[refuseLoop_ref,sp]) |(with_reducible refine jZ cx ?_;rw[oc]) |(with_reducible refine wpAny_mroOf_exc cC ?_) |(with_reducible refine uW cC cn SE.mro cB ?_;rw[ca]) |wp_step)
 rw[od,ah (by simp[typeHasDict])];split
 ·rename_i z
  cases z
 split
 ·rename_i c z
  rw[ot]at z;cases z
 have x1:(h.push {cls:=.type "dict",data:=.dict #[]}).get? x=some o:=br _ cx;have xs:x≠h.objs.size:=bT (ba cx);refine ag (wpAny_alloc' (ag (wpAny_update' x1 (az ?_))));have gd:((h.push {cls:=.type "dict",data:=.dict #[]}).update x λo=> {cls:=o.cls,dict:=some h.objs.size,data:=o.data,slots:=o.slots}).get? h.objs.size=some {cls:=.type "dict",data:=.dict #[]}:=
  (Heap.get?_update_ne _ _ _ _ xs.symm).trans (Heap.get?_push_at rfl rfl)
 have nd:((h.push {cls:=.type "dict",data:=.dict #[]}).update x λo=> {cls:=o.cls,dict:=some h.objs.size,data:=o.data,slots:=o.slots}).Ns h.objs.size (λ_=>none):=
  ⟨_, #[],_,gd,rfl,λe he=>absurd he (by simp),λ_=>rfl⟩
 show wpAny _ _ (storeInDict h.objs.size (.str name tk) name v) _ _ _;unfold storeInDict newKeyGuard;refine ag (az (ag (wpAny_nsSet1 (Heap.Ns1.of_empty nd) λh' hn' hs=>?_)));obtain⟨oD,esD,epD,zI,zJ,zK⟩:=hn'.count (Within.cons name v Within.nil);refine ag (wpAny_lookBehind zI (by rw[zJ];exact pastItsLine_dict (bE zK (by rw[b6,pR,bg];omega))) ?_)
 wp_walk
 refine k h' _ ((hs.2 x xs).trans (by rw[eo]at x1;exact ni _ x1 rfl)) hn' λb ob hb e=>?_
 exact(hs.2 b (bT (ba e))).trans ((Heap.get?_update_ne _ _ _ _ hb).trans (br _ e))
theorem UU{tk:Tok}{R:Result->Shared->Prop}{sa owner:String}(SE:StoreFacts "Exception" [.type "Exception",.type "BaseException",.type "object"] sa owner) (cC:h.get? C=some (excClassObj nm q C N bs [.type "Exception",.type "BaseException",.type "object"] true sn sub ab col dd k0 k1 k2 k3 k5 "Exception.__new__"))(cn:h.Ns N mN)(ca:mN name=none) (cB:typeLookup (.type "Exception") name=pure none)(cx:h.get? x=some ⟨.ref C,none,.fields vs,sl⟩) (k:∀h' tk',h'.get? x=some ⟨.ref C,some h.objs.size,.fields vs,sl⟩->h'.Ns1 h.objs.size (λy=>if y=name then some v else none)->(∀b o,b≠x->h.get? b=some o->h'.get? b=some o)->R (.ok (.ret .none)) ⟨h',g,d,tk',os⟩):codeAny (model prog w) A (.call (.builtin sa) ⟨[.ref x,.str name tk,v],[]⟩) R ⟨h,g,d,t,os⟩:=RF SE.slot.plain SE.entry (wpAny_check_sa SE cC cx rfl (UT cC cn ca cB cx k))
theorem UW{Q:Unit->Shared->Prop}{sa owner:String}(SE:StoreFacts "Exception" [.type "Exception",.type "BaseException",.type "object"] sa owner) (cC:h.get? C=some (excClassObj nm q C N bs [.type "Exception",.type "BaseException",.type "object"] true sn sub ab col dd k0 k1 k2 k3 k5 "Exception.__new__"))(cn:h.Ns N mN)(cs:mN "__setattr__"=none)(ca:mN name=none) (cB:typeLookup (.type "Exception") name=pure none)(cx:h.get? x=some ⟨.ref C,none,.fields vs,sl⟩) (k:∀h' tk',h'.get? x=some ⟨.ref C,some h.objs.size,.fields vs,sl⟩->h'.Ns1 h.objs.size (λy=>if y=name then some v else none)->(∀b o,b≠x->h.get? b=some o->h'.get? b=some o)->Q () ⟨h',g,d,tk',os⟩):wpAny (model prog w) A (setAttr (.ref x) name v) Q E ⟨h,g,d,t,os⟩:=by
 have f3:=SE.slot.bind (.ref x);obtain⟨o,eo⟩:∃o:Obj,o=⟨.ref C,none,.fields vs,sl⟩:=⟨_,rfl⟩;have cy:=cx;rw[<-eo]at cx;have oc:o.cls=.ref C:=by rw[eo]
 unfold setAttr callSpecial? specialOf
 repeat (any_goals (first |assumption |(with_reducible refine jZ cx ?_;rw[oc]) |(with_reducible refine uW cC cn SE.mro SE.slot.lookup ?_;rw[cs]) |wp_step))
 refine UU SE cC cn ca cB cy λh' tk' a1 a2 a3=>?_
 repeat (any_goals (first |assumption |wp_step))
 exact k h' tk' a1 a2 a3
theorem UX{tk:Tok}{mA:Str->Option Value}{dx:Addr}{Q:Fin->Shared->Prop} (cC:h.get? C=some (excClassObj nm q C N bs [.type "Exception",.type "BaseException",.type "object"] true sn sub ab col dd k0 k1 k2 k3 k5 "Exception.__new__"))(cn:h.Ns N mN)(ca:mN name=none) (cB:typeLookup (.type "Exception") name=pure none)(cx:h.get? x=some ⟨.ref C,some dx,.fields vs,sl⟩)(cd:h.Ns1 dx mA)(cv:mA name=some v) (k:Q (.done (.ret v)) ⟨h,g,d,t,os⟩):wpAny (model prog w) A (Builtin.«object.__getattribute__» ⟨[.ref x,.str name tk],[]⟩) Q E ⟨h,g,d,t,os⟩:=by
 have SE:=F.store_Exception;obtain⟨o,eo⟩:∃o:Obj,o=⟨.ref C,some dx,.fields vs,sl⟩:=⟨_,rfl⟩;rw[<-eo]at cx;have oc:o.cls=.ref C:=by rw[eo]
 have od:o.dict=some dx:=by rw[eo]
 have ot:o.data=.fields vs:=by rw[eo]
 unfold Builtin.«object.__getattribute__»
 repeat (first |(with_reducible refine jZ cx ?_;rw[oc]) |(with_reducible refine uW cC cn SE.mro cB ?_;rw[ca]) |wp_step)
 split
 ·rename_i c z
  rw[ot]at z;cases z
 unfold instanceDict
 repeat (first |(with_reducible refine jZ cx ?_;rw[oc]) |(with_reducible refine jZ cC ?_) |wp_step)
 rw[od]
 repeat (first |(with_reducible refine wpAny_nsGet cd.ns ?_;rw[cv]) |wp_step)
 exact k
theorem UY{M:Model}{nameV:Value}{o:Obj}{Q:Unit->Shared->Prop} (cC:h.get? C=some (excClassObj nm q C N bs [.type "Exception",.type "BaseException",.type "object"] true sn sub ab col dd k0 k1 k2 k3 k5 "Exception.__new__"))(cx:h.get? x=some o)(cc:o.cls=.ref C)(k:Q () ⟨h,g,d,t,os⟩):wpAny M A (checkBuiltinCall "BaseException.__getattribute__" ⟨[.ref x,nameV],[]⟩) Q E ⟨h,g,d,t,os⟩:=by
 have g1:builtinKind "BaseException.__getattribute__"=some .slot:=by decide+kernel
 have g2:splitId "BaseException.__getattribute__"=some ("BaseException","__getattribute__"):=by decide+kernel
 have g3:(Value.ref C::[Value.type "Exception",.type "BaseException",.type "object"]).contains (.type "BaseException")=true:=by simp
 have g4:=F.args_bexc_ga (.ref x) nameV;simp only[checkBuiltinCall,g1,g2];refine ag ?_
 ·unfold isInstance
  repeat (first |(with_reducible refine jZ cx ?_;rw[cc]) |(with_reducible refine RD cC ?_;rw[g3]) |wp_step)
  exact k
theorem UZ{tk:Tok}{mA:Str->Option Value}{dx:Addr}{R:Result->Shared->Prop} (cC:h.get? C=some (excClassObj nm q C N bs [.type "Exception",.type "BaseException",.type "object"] true sn sub ab col dd k0 k1 k2 k3 k5 "Exception.__new__"))(cn:h.Ns N mN)(ca:mN name=none) (cB:typeLookup (.type "Exception") name=pure none)(cx:h.get? x=some ⟨.ref C,some dx,.fields vs,sl⟩)(cd:h.Ns1 dx mA)(cv:mA name=some v) (k:R (.ok (.ret v)) ⟨h,g,d,t,os⟩):codeAny (model prog w) A (.call (.builtin "BaseException.__getattribute__") ⟨[.ref x,.str name tk],[]⟩) R ⟨h,g,d,t,os⟩:=RF F.attrBase_Exception.ga.plain F.entry_bexc_ga (UY cC cx rfl (UX cC cn ca cB cx cd cv k))
theorem U0{mA:Str->Option Value}{dx:Addr}{expr:Bool}{Q:Value->Shared->Prop} (cC:h.get? C=some (excClassObj nm q C N bs [.type "Exception",.type "BaseException",.type "object"] true sn sub ab col dd k0 k1 k2 k3 k5 "Exception.__new__"))(cn:h.Ns N mN)(cg:mN "__getattribute__"=none)(ct:mN "__getattr__"=none)(ca:mN name=none) (cB:typeLookup (.type "Exception") name=pure none)(cx:h.get? x=some ⟨.ref C,some dx,.fields vs,sl⟩)(cd:h.Ns1 dx mA)(cv:mA name=some v)(ch:handedOut v=pure v) (k:Q v ⟨h,g,d,t+1,os⟩):wpAny (model prog w) A (getAttr (.ref x) name expr) Q E ⟨h,g,d,t,os⟩:=by
 have AB:=F.attrBase_Exception;have f3:=AB.ga.bind (.ref x);have e0:(expr&&onTheHeap (Value.builtin "BaseException.__getattribute__"))=false:=by cases expr<;>rfl
 have e2:(Value.builtin "BaseException.__getattribute__"==Value.builtin "object.__getattribute__")=false:=by decide+kernel
 have e1:(onTheHeap (Value.ref C)&&Value.builtin "BaseException.__getattribute__"==Value.builtin "object.__getattribute__")=false:=by rw[e2];rfl
 obtain⟨o,eo⟩:∃o:Obj,o=⟨.ref C,some dx,.fields vs,sl⟩:=⟨_,rfl⟩;have cy:=cx;rw[<-eo]at cx;have oc:o.cls=.ref C:=by rw[eo]
 unfold getAttr getAttrBy
 repeat (any_goals (first |assumption |(with_reducible refine jZ cx ?_;rw[oc]) |(with_reducible refine uW cC cn AB.mro AB.ga.lookup ?_;rw[cg]) |(with_reducible refine uW cC cn AB.mro AB.noGetattr ?_;rw[ct]) |wp_step))
 refine UZ cC cn ca cB cy cd cv ?_
 repeat (any_goals (first |assumption |wp_step))
end
end L2
namespace L2
open PySem PySem.Spec PyProof.Rows
inductive IQ(C:Addr)(D:Ends)(σ:St)(y:V)(x:V)(H2:Hp):Prop
 |mk a t n:x=.ref a->y=.int n->H2 a=some (.ext (kj C t a))->(∀dx,H2 dx=none->dx≠a->D.nx σ (upd (upd H2 dx (.xd [("line",.int n)])) a (.ext (mz C t dx a))))->IQ C D σ y x H2
def U1(C:Addr)(ta tv:TE):TS:=λD σ H=>tv σ H λy H1=>ta σ H1 λx H2=>IQ C D σ y x H2
theorem U2{C t dx a:Addr}{P:Program}{w:World}{H:Hp}{h:Heap}(e:mz C t dx a h):ck P w H h a (.ext (mz C t dx a)):=⟨e,⟨_,e⟩,λh1 h2 z k=>k _ z⟩
theorem U3{C t a:Addr}{P:Program}{w:World}{H:Hp}{h:Heap}(e:kj C t a h):ck P w H h a (.ext (kj C t a)):=⟨e,⟨_,e⟩,λh1 h2 z k=>k _ z⟩
section
variable{X:Cx}{o e value arg:Expr}{pos pos' cpos np:Pos}{ta tv:TE}{C N fI:Addr}{x:Str}{E:XK}
theorem U4(c:XC X.K C N fI)(ha:PE X o ta)(hv:PE X value tv)(hs:swapsWith value (some (.Attribute o "line" pos')) pos.line X.env=pure false):PS X (.Assign [.Attribute o "line" pos'] value pos) (U1 C ta tv):=by
 intro pins s σ H D I h;refine plainObj_wpAny_Assign_Attribute (aF (hv pins s σ H _ I h) λu s1 ⟨y,H1,I1,ry,q⟩=>aF (ha pins s1 σ H1 _ I1 q) λov s2 ⟨z,H2,I2,rx,a,t,n,ex,ey,ea,q2⟩=>?_) hs;subst ex ey;obtain rfl:ov=Value.ref a:=rx;obtain⟨tk,rfl⟩:∃tk,u=Value.int n tk:=ry;obtain⟨nm,qn,bs,sn,sub,ab,col,dd,k0,k1,k2,k3,k5,lc⟩:=c.cls;have hC:=I2.bR _ _ lc;obtain⟨xa,_,_⟩:=I2.hok a _ ea;obtain⟨hp,g,d,tk2,os⟩:=s2;refine UW F.store_Exception hC (c.ns I2.bR) (c.au I2.bR c.sa) (c.au I2.bR c.ln) IP xa λh' tk' a1 a2 a3=>?_
 have fr:H2 hp.objs.size=none:=I2.hok.fresh (aI _);have na:hp.objs.size≠a:=l9 (ba xa);have an:∀b,H2 b=none->b≠a:=λb z q=>by rw[q,ea]at z;cases z
 have dn:∀b ob,hp.get? b=some ob->b≠hp.objs.size:=λb ob z=>bT (ba z)
 refine⟨σ,_,I2.un (t':=tk') (h':=h') ⟨λb ob eb n _ _=>a3 b ob (an b n) eb,λb ob eb n _ _=>⟨ob.slots,a3 b ob (an b n) eb⟩,λb ob eb n _=>?_,λb ob eb _=>?_,λb xs z=>?_,λb o' u' z=>?_,λb ps z=>⟨#[],?_⟩⟩ ?_,q2 hp.objs.size fr na⟩
 ·rw[ay (an b n),ay (dn b ob eb)];exact n
 ·by_cases q:b=a
  ·exact⟨_,by rw[q];exact a1⟩
  ·exact⟨ob,a3 b ob q eb⟩
 ·rw[ay (bp z ea (by intro y;cases y)),ay (aJ z fr)];exact z
 ·rw[ay (bp z ea (by intro y;cases y)),ay (aJ z fr)];exact z
 ·rw[ay (bp z ea (by intro y;cases y)),ay (aJ z fr)];simpa using z
 ·intro b u eb;by_cases q:b=a
  ·subst q;rw[aw]at eb;cases eb;exact U2 a1
  ·rw[ay q]at eb;by_cases q':b=hp.objs.size
   ·subst q';rw[aw]at eb;cases eb;refine⟨_,a2,λf=>?_⟩;show ff (List.lookup f [(("line" :Str),V.int n)]) _;by_cases z:f="line"
    ·subst z;rw[ai rfl];show ff (some (V.int n)) _;exact⟨tk,rfl⟩
    ·rw[ah z];have e0:List.lookup f [(("line" :Str),V.int n)]=none:=by
      rw[ny,show(f==("line" :Str))=false from m7.mpr z];rfl
     rw[e0];exact True.intro
   ·rw[ay q']at eb;refine(I2.hok b u eb).stay (λcc v hc z=>a3 cc v ?_ z) (λcc z=>?_) λcc xs z=>?_
    ·rcases hc with rfl |hc
     ·exact q
     ·exact bp hc ea (by intro y;cases y)
    ·rw[ay (bp z ea (by intro y;cases y)),ay (aJ z fr)];exact z
    ·rw[ay (bp z ea (by intro y;cases y)),ay (aJ z fr)];exact z
end
theorem U5{K:ax}{h:Heap}{D:Addr}{m:Str->Option Value}{y:Str}{v:Value}(KX:K.In h)(G:h.Ns D m)(z:nsIn K D y=some (some v)):m y=some v:=by
 obtain⟨ob,es,ep,e1,e2,_,e4⟩:=G;unfold nsIn at z;split at z
 ·rename_i q
  have q2:=KX _ _ q;rw[e1]at q2;cases q2;cases e2;split at z
  ·rename_i en he
   cases z;rw[<-e4];unfold nsFind findBy;rw[<-Array.find?_toList,he];rfl
  ·split at z<;>cases z
 ·cases z
inductive sN(C:Addr)(vs:List V)(H:Hp)(Q:VK)(e0:XK):Prop
 |mk (a t:Addr) (n:Int):vs=[.ref a,.int n]->H a=some (.ext (kj C t a))->(∀dx,H dx=none->dx≠a->Q .au (upd (upd H dx (.xd [("line",.int n)])) a (.ext (mz C t dx a))))->sN C vs H Q e0
section
variable{X:Cx}{o e value arg:Expr}{pos pos' cpos np:Pos}{ta tv:TE}{C N fI:Addr}{x:Str}{E:XK}{fd:FuncData}{k:Nat}
theorem U6{pins:List (Addr×Obj)}{σ:St}{H:Hp}{s:Shared}{n:Int}{u:Value}{E':Value->Shared->Prop}{Q:Value->Shared->Prop}(c:XC X.K C N fI)(F:aG X.prog X.w X.K X.mg X.base aR k fI fd ["self","line"] (sN C))(hb:Binds X.K fd ["self","line"] []) (hr:cA (k+1) X.A)(hx:X.ex=[])(I:Inv X pins σ H s)(ru:RelV (.int n) u) (h:∀a dx T t s',jn X C (λ_ _ _=>True) pins σ H a dx T n s'->s'.heap.get? a=some ⟨.ref C,some dx,.fields #[.ref t,.none,.none,.none,.bool false,.none], #[]⟩->Q (.ref a) s'):wpAny (model X.prog X.w) X.A (call (.ref C) [u]) Q E' s:=by
 obtain⟨nm,qn,bs,sn,sub,ab,col,dd,k0,k1,k2,k3,k5,lc⟩:=c.cls;have hC:=I.bR _ _ lc;obtain⟨hp,g,d,tk,os⟩:=s;have hfn:∃oI,hp.get? fI=some oI/\oI.cls=.type "function":=by have z:PySem.W.typeIn X.K (.ref fI)=some (.type "function"):=jX.mp c.fn;have z':Option.map (λo:Obj=>o.cls) (X.K.lookup fI)=some (.type "function"):=z;obtain⟨oI,q1,q2⟩:=cK.mp z';exact⟨oI,I.bR _ _ q1,q2⟩
 obtain⟨oI,hI,hIc⟩:=hfn;have hi:hp.nsMap N "__init__"=some (.ref fI):=U5 I.bR (c.ns I.bR) c.init;refine US hC (c.ns I.bR) hi hI hIc (by rw[bg];show 1<=16777216;decide) ?_;have I2:Inv X pins σ (upd H (hp.objs.size+1) (.ext (kj C hp.objs.size (hp.objs.size+1)))) ⟨jo hp C [u],g,d,tk,os⟩:=
  I.laid (t':=tk) (h':=jo hp C [u]) (λb o e=>vX e) (l_ _) (U3 IM)
 have hsp:sN C [.ref (hp.objs.size+1),.int n] (upd H (hp.objs.size+1) (.ext (kj C hp.objs.size (hp.objs.size+1)))) (λv H'=>v=.au/\∃dx,upd H (hp.objs.size+1) (.ext (kj C hp.objs.size (hp.objs.size+1))) dx=none/\dx≠hp.objs.size+1/\
   H'=upd (upd (upd H (hp.objs.size+1) (.ext (kj C hp.objs.size (hp.objs.size+1)))) dx (.xd [("line",.int n)])) (hp.objs.size+1) (.ext (mz C hp.objs.size dx (hp.objs.size+1)))) E0:=
  ⟨_,_,_,rfl,aw,λdx h1 h2=>⟨rfl,dx,h1,h2,rfl⟩⟩
 refine rC (ng (F.run _ X.stack _ _ ⟨[.ref (hp.objs.size+1),u],[]⟩ [.ref (hp.objs.size+1),u] [.ref (hp.objs.size+1),.int n] _ _ (hr.make C [u] []) (I2.vB.make C [u] []) (hb _ [.ref (hp.objs.size+1),u] I2.bR rfl) (.cons rfl (.cons ru .nil)) hsp) λr s' hq=>?_);cases r with
 |error e=>exact False.elim hq
 |ok fl=>
  cases fl with
  |next=>exact False.elim hq
  |brk=>exact False.elim hq
  |cont=>exact False.elim hq
  |ret v'=>
   obtain⟨v,H',o1,o2,o3,o4,rv,ev,dx,nd,sO,rfl⟩:=hq;subst ev;have I3:=I2.zw o1 o3 o4 o2 (λb hb=>absurd hb (by simp));have x1:mz C hp.objs.size dx (hp.objs.size+1) s'.heap:=(I3.hok _ _ aw).1;have hdx:upd (upd (upd H (hp.objs.size+1) (.ext (kj C hp.objs.size (hp.objs.size+1)))) dx (.xd [("line",.int n)])) (hp.objs.size+1) (.ext (mz C hp.objs.size dx (hp.objs.size+1))) dx=some (.xd [("line",.int n)]):=by rw[ay sO,aw]
   obtain⟨mA,n1,n2⟩:=I3.hok _ _ hdx;have n3:∃tk,mA "line"=some (.int n tk):=by
    have z:=n2 "line";have e0:List.lookup ("line" :Str) [(("line" :Str),V.int n)]=some (V.int n):=by rw[ny,beq_self_eq_true]
    rw[e0]at z;obtain⟨u',eu,ru'⟩:=z.some_of;obtain⟨tk',rfl⟩:∃tk',u'=Value.int n tk':=ru';exact⟨tk',eu⟩
   obtain⟨tk',n3⟩:=n3;have I4:=(I3.drop aw rfl).drop (a:=dx) (o:=.xd [("line",.int n)]) (by rw[ki sO];exact hdx) rfl;have eH:qw (qw (upd (upd (upd H (hp.objs.size+1) (.ext (kj C hp.objs.size (hp.objs.size+1)))) dx (.xd [("line",.int n)])) (hp.objs.size+1) (.ext (mz C hp.objs.size dx (hp.objs.size+1)))) (hp.objs.size+1)) dx=H:=by
    funext b;by_cases q:b=dx
    ·subst q;rw[vW];rw[ay sO]at nd;exact nd.symm
    ·rw[ki q];by_cases q':b=hp.objs.size+1
     ·subst q';rw[vW];exact(I.hok.fresh (l_ _)).symm
     ·rw[ki q',ay q',ay q,ay q']
   rw[eH]at I4;have nod:(jo hp C [u]).get? dx=none:=by
    cases q:(jo hp C [u]).get? dx with
    |none=>rfl
    |some ob=>have z:=o3.free dx ob q nd (by simp);rw[hdx]at z;cases z
   obtain rfl:v'=Value.none:=rv;refine⟨rfl,h (hp.objs.size+1) dx s'.heap.objs.size hp.objs.size s' ⟨I4,⟨⟨_,_,x1,.inl rfl⟩,⟨mA,tk',n1,n3⟩,sO,l9 (ba x1),l9 (let ⟨ob,_,_,z,_⟩:=n1;ba z)⟩,I.jh (l_ _) (I.hok.fresh (l_ _)),I2.IK hx nod,(by rw[ay sO]at nd;exact nd),(λp z q=>by have w:=(I2.pin p z).1;rw[q]at w;exact absurd (w.symm.trans nod) (by simp)),I4.jh (aI _) (I4.hok.fresh (aI _)),True.intro⟩ x1⟩
def U7(E:XK)(ta:TE):TS:=λ_ σ H=>ke ta kc σ H λvs H1=>∃n,vs=[.int n]/\E (.int n 0) none H1
theorem mB(c:XC X.K C N fI)(F:aG X.prog X.w X.K X.mg X.base aR k fI fd ["self","line"] (sN C))(hb:Binds X.K fd ["self","line"] [])(hr:cA (k+1) X.A)(hex:X.ex=[])(hc:X.calm=true)(hx:X.xe=XI X C E) (hg:Gl X x)(hm:X.mg x=some (.ref C))(ha:PE X arg ta)(hs:starEach [arg] X.env=[(false,eval arg X.env)]:=by rfl)(hdb:(x==("__debug__" :Str))=false:=by decide):PS X (.Raise (some (.Call (.Name x np) [arg] [] cpos)) none pos) (U7 E ta):=by
 intro pins s σ H D I h;rw[arm_exec_Raise];show wpAny _ _ (do standAt pos;raiseStmt X.env (some (do let v<-eval (.Call (.Name x np) [arg] [] cpos) X.env;standAt pos;pure v)) none) _ _ s;refine ag (uM ?_);unfold raiseStmt;show wpAny _ _ ((do let v<-eval (.Call (.Name x np) [arg] [] cpos) X.env;standAt pos;pure v)>>=_) _ _ s;refine ag (ag (dq (Q:=λ(v:Value)(s':Shared)=>∃(a t dx:Addr),v=.ref a/\X.K.In s'.heap/\s'.heap.get? a=some ⟨.ref C,some dx,.fields #[.ref t,.none,.none,.none,.bool false,.none], #[]⟩/\XI X C E (.ref a) s') (E:=X.xe) ?_ (λv s' hv=>ag (uM (az ?_))) λ_ _ z=>z))
 ·refine pL (nJ I hg hm ?_ hdb);refine callWith_K (h₀:=X.base) I.ok.mod.j_ c.kp (aF (Q:=AP X pins σ λvs H1=>∃n,vs=[.int n]/\E (.int n 0) none H1) (aa ha af hs cpos pins s σ H _ I ?_) λus s1 ⟨vs,H1,I1,r,n,ev,q⟩=>⟨I1.bR,?_⟩) hs rfl
  ·exact h
  ·subst ev;obtain⟨u,rfl,ru⟩:=vals1 r;refine U6 c F hb hr hex I1 ru λa dx T t s2 Z ga=>?_
   exact⟨a,t,dx,rfl,Z.inv.bR,ga,pins,σ,H1,a,dx,T,n,rfl,Z.inv.fi _,Z.at_,Z.fa,Z.fd,Z.hd,Z.pd,Z.fT,q⟩
 ·obtain⟨a,t,dx,rfl,j_,ga,q⟩:=hv;obtain⟨nm,qn,bs,sn,sub,ab,col,dd,k0,k1,k2,k3,k5,lc⟩:=c.cls;have hC:=j_ _ _ lc;have g3:(Value.ref C::[Value.type "Exception",.type "BaseException",.type "object"]).contains (.type "BaseException")=true:=by simp
  obtain⟨hp,g,d,tk,os⟩:=s'
  repeat (first |(with_reducible refine jZ ga ?_) |(with_reducible refine jZ hC ?_) |(with_reducible refine RD hC ?_;rw[g3]) |wp_step)
  refine wpAny_raiseNew_none (I.ok.hd hc) ?_;rw[hx];exact q
end
end L2
namespace L2
open PySem PySem.Spec PyProof.Rows
def qx(C dx a:Addr):Heap->Prop:=λh=>∃vs sl,h.get? a=some ⟨.ref C,some dx,.fields vs,sl⟩
inductive n_(dx:Addr)(n:Int)(h:Heap):Prop
 |mk mA tk:h.Ns1 dx mA->mA "line"=some (.int n tk)->n_ dx n h
theorem U8{C dx a:Addr}{P:Program}{w:World}{H:Hp}{h:Heap}(e:qx C dx a h):ck P w H h a (.ext (qx C dx a)):=⟨e,(let ⟨_,_,z⟩:=e;⟨_,z⟩),λh1 h2 ⟨vs,sl,z⟩ k=>⟨vs,sl,k _ z⟩⟩
theorem U9{dx:Addr}{n:Int}{P:Program}{w:World}{H:Hp}{h:Heap}(e:n_ dx n h):ck P w H h dx (.ext (n_ dx n)):=⟨e,(let ⟨_,_,⟨o,_,_,z,_⟩,_⟩:=e;⟨o,z⟩),λh1 h2 ⟨mA,tk,⟨o,es,ep,z,r⟩,l⟩ k=>⟨mA,tk,⟨o,es,ep,k _ z,r⟩,l⟩⟩
inductive IT(C:Addr)(Q:VK)(x:V)(H1:Hp):Prop
 |mk a dx n:x=.ref a->H1 a=some (.ext (qx C dx a))->H1 dx=some (.ext (n_ dx n))->Q (.int n) H1->IT C Q x H1
def U_(C:Addr)(ta:TE):TE:=λσ H Q=>ta σ H λx H1=>IT C Q x H1
section
variable{X:Cx}{e:Expr}{pos:Pos}{ta:TE}{C N fI:Addr}
theorem Va(c:XC X.K C N fI)(he:PE X e ta)(hb:attributeBase e "line" X.env (eval e X.env)=eval e X.env):PE X (.Attribute e "line" pos) (U_ C ta):=by intro pins s σ H Q I h;refine G7 hb (aF (he pins s σ H _ I h) λu s1 ⟨x,H1,I1,rx,a,dx,n,ex,ea,ed,q⟩=>?_);subst ex;obtain rfl:u=Value.ref a:=rx;obtain⟨nm,qn,bs,sn,sub,ab,col,dd,k0,k1,k2,k3,k5,lc⟩:=c.cls;have hC:=I1.bR _ _ lc;obtain⟨⟨vs,sl,xa⟩,_,_⟩:=I1.hok a _ ea;obtain⟨⟨mA,tk',n1,n3⟩,_,_⟩:=I1.hok dx _ ed;obtain⟨hp,g,d,tk,os⟩:=s1;refine U0 hC (c.ns I1.bR) (c.au I1.bR c.ga) (c.au I1.bR c.gt) (c.au I1.bR c.ln) IP xa n1 n3 (PySem.W.handedOut_of rfl) ?_;exact⟨.int n,H1,I1.tok _,⟨tk',rfl⟩,q⟩
end
theorem Inv.IU{X:Cx}{pins:List (Addr×Obj)}{σ:St}{H:Hp}{s:Shared}{a:Addr}{o:HO}(I:Inv X pins σ H s)(h0:X.s₀.heap.get? a=none)(hn:H a=none)(hL:a≠X.env.locals)(hx:X.ex=[]) (hc:∀x c,X.env.cells.lookup x=some c->c≠a)(hp:∀p∈X.pn++pins,p.1≠a)(ob:ck X.prog X.w (upd H a o) s.heap a o):Inv X pins σ (upd H a o) s:=by
 have u:=I.base;have ne:∀b u,H b=some u->b≠a:=λb u e=>aJ e hn
 refine⟨I.ok,I.os,I.bare,⟨u.keep,u.slot,λb ob e n hb=>?_,u.there,λb xs e=>?_,λb o' u' e=>?_,λb ps e=>?_⟩,I.loc,I.cell,?_,λx c e=>?_,λp z=>?_,λb u' e=>?_,I.len⟩
 ·rw[ay λq=>by rw[q,h0]at e;cases e];exact u.free b ob e n hb
 ·have z:=u.tups b xs e;rw[ay (ne b _ z)];exact z
 ·have z:=u.jf b o' u' e;rw[ay (ne b _ z)];exact z
 ·obtain⟨m,z⟩:=u.jC b ps e;exact⟨m,by rw[ay (ne b _ z)];exact z⟩
 ·rw[ay (cu hL)];exact I.free
 ·rw[ay (hc x c e)];exact I.fg x c e
 ·obtain⟨h1,h2,h3⟩:=I.pin p z;exact⟨h1,by rw[ay (hp p z)];exact h2,h3⟩
 ·by_cases q:b=a
  ·subst q;rw[aw]at e;cases e;exact ob
  ·rw[ay q]at e;exact(I.hok b u' e).stay (λ_ _ _ z=>z) (λc z=>by rw[ay (ne c _ z)];exact z) λc xs z=>by rw[ay (ne c _ z)];exact z
abbrev Cx.pin(X:Cx)(P:List (Addr×Obj)):Cx:= {X with pn:=P}
abbrev Cx.in(X:Cx)(P:List (Addr×Obj))(e:Value):Cx:= {X with pn:=P,A:=X.A.mark (some e),calm:=false,xe:=λ_ _=>False}
theorem Inv.Vb{X:Cx}{pins:List (Addr×Obj)}{σ:St}{H:Hp}{s:Shared}(I:Inv X pins σ H s):Inv (X.pin (X.pn++pins)) [] σ H s:=⟨⟨I.ok.mod,I.ok.kind,I.ok.glob,I.ok.blt,I.ok.above,I.ok.inj,I.ok.has,I.ok.kZ,I.ok.hd,I.ok.frames,I.ok.stk,I.ok.mh,I.ok.bs,I.ok.iG,I.ok.k7,I.ok.k9,I.ok.fK,I.ok.jD⟩,I.os,I.bare,I.base,I.loc,I.cell,I.free,I.fg,λp hp=>I.pin p (by simpa using hp),I.hok,I.len⟩
theorem Inv.vY{X:Cx}{pins pins':List (Addr×Obj)}{σ:St}{H:Hp}{s:Shared}(I:Inv (X.pin (X.pn++pins)) pins' σ H s):Inv X pins σ H s:=⟨⟨I.ok.mod,I.ok.kind,I.ok.glob,I.ok.blt,I.ok.above,I.ok.inj,I.ok.has,I.ok.kZ,I.ok.hd,I.ok.frames,I.ok.stk,I.ok.mh,I.ok.bs,I.ok.iG,I.ok.k7,I.ok.k9,I.ok.fK,I.ok.jD⟩,I.os,I.bare,I.base,I.loc,I.cell,I.free,I.fg,λp hp=>I.pin p (fc _ hp),I.hok,I.len⟩
theorem Inv.Vc{X:Cx}{P pins':List (Addr×Obj)}{σ:St}{H:Hp}{s:Shared}(e:Value)(I:Inv (X.pin P).g9 pins' σ H s):Inv (X.in P e) [] σ H s:=⟨⟨I.ok.mod,I.ok.kind,I.ok.glob,I.ok.blt,I.ok.above,I.ok.inj,I.ok.has,I.ok.kZ,(λz=>nomatch z),I.ok.frames,I.ok.stk,I.ok.mh,I.ok.bs,I.ok.iG,I.ok.k7,I.ok.k9,I.ok.fK,I.ok.jD⟩,I.os,I.bare,I.base,I.loc,I.cell,I.free,I.fg,λp hp=>I.pin p (fc _ (by simpa using hp)),I.hok,I.len⟩
theorem Inv.out{X:Cx}{pins:List (Addr×Obj)}{e:Value}{σ:St}{H:Hp}{s:Shared}{h':Heap}{m':Str->Option Value}{t':Nat}(c:X.calm=true->X.A.handled=none)(I:Inv (X.in (X.pn++pins) e) [] σ H s)(hn:h'.Ns X.env.locals m')(hs:Heap.SameBut X.env.locals s.heap h'):Inv X pins (List.replicate X.N.length none) H {s with heap:=h',toks:=t'}:=by
 have oth:∀b ob,b≠X.env.locals->s.heap.get? b=some ob->h'.get? b=some ob:=λb ob hb z=>(hs.2 b hb).trans z
 have neL:∀b ob,X.s₀.heap.get? b=some ob->b≠X.env.locals:=λb ob z=>bT (dM (ba z) I.ok.above)
 have u:=I.base;refine⟨⟨I.ok.mod,I.ok.kind,I.ok.glob,I.ok.blt,I.ok.above,I.ok.inj,I.ok.has,I.ok.kZ,c,I.ok.frames,I.ok.stk,I.ok.mh,I.ok.bs,I.ok.iG,I.ok.k7,I.ok.k9,I.ok.fK,I.ok.jD⟩,I.os,I.bare,⟨λb ob z n hb hx=>oth b ob (neL b ob z) (u.keep b ob z n hb hx),λb ob z n hb hx=>?_,u.free,λb ob z hx=>?_,u.tups,u.jf,u.jC⟩,
  ⟨m',hn,λi x v e1 e2=>?_⟩,λx c' z=>?_,I.free,I.fg,λp hp=>?_,λb w' z=>?_,by simp⟩
 ·obtain⟨sl,q⟩:=u.slot b ob z n hb hx;exact⟨sl,oth b _ (neL b ob z) q⟩
 ·obtain⟨o',q⟩:=u.there b ob z hx;exact⟨o',oth b _ (neL b ob z) q⟩
 ·rw[pM]at e2;split at e2<;>cases e2
 ·obtain⟨v,q⟩:=I.cell x c' z;exact⟨v,q.sameBut hs (I.mi x c' z)⟩
 ·obtain⟨h1,h2,h3,h4⟩:=I.pin p (by simpa using hp);exact⟨oth _ _ h3 h1,h2,h3,h4⟩
 ·have nl:∀c' u',H c'=some u'->c'≠X.env.locals:=λc' u' q=>aJ q I.free
  refine(I.hok b w' z).stay (λc' v hc q=>oth c' v ?_ q) (λ_ q=>q) λ_ _ q=>q
  rcases hc with rfl |hc
  ·exact nl _ _ z
  ·exact nl _ _ hc
def Vd(C:Addr)(E:XK)(len i:Nat)(tb th:TS):TS:=λD σ H=>tb D σ H/\∀n H' a dx,E (.int n 0) none H'->H' a=none->H' dx=none->dx≠a->th {nx:=λ_ _=>False,rt:=D.rt} ((List.replicate len none).set i (some (.ref a))) (upd (upd H' dx (.ext (n_ dx n))) a (.ext (qx C dx a)))
theorem Ve{X:Cx}{C N fI L:Addr}{E:XK}{i:Nat}{x nm:Str}{np hpos pos:Pos}{body suite:List Stmt}{b0:Stmt}{tb th:TS}(c:XC X.K C N fI)(hst:X.stack=X.env::X.outer)(hf:X.env.frame=some L)(hN:X.N.Nodup)(hi:X.N[i]? =some nm) (hl:X.env.scope.names.lookup nm=some .local)(hex:X.ex=[])(hg:Gl X x)(hm:X.mg x=some (.ref C))(hb:∀P,eA ((X.pin P).fi (XI (X.pin P) C E)) body tb)(hh:∀P e,eA (X.in P e) (b0::suite) th)(hdb:(x==("__debug__" :Str))=false:=by decide):PS X (.Try body [.ExceptHandler (some (.Name x np)) (some nm) (b0::suite) hpos] [] [] pos) (Vd C E X.N.length i tb th):=by
 intro pins s σ H D I ⟨h1,h2⟩;have back:∀{f s1},SP ((X.pin (X.pn++pins)).fi (XI (X.pin (X.pn++pins)) C E)) [] D f s1->SP X pins D f s1:=λ{f s1} z=>by
  cases f with
  |next=>obtain⟨σ',H',J,q⟩:=z;exact⟨σ',H',J.iK.vY,q⟩
  |brk=>obtain⟨σ',H',J,q⟩:=z;exact⟨σ',H',J.iK.vY,q⟩
  |cont=>obtain⟨σ',H',J,q⟩:=z;exact⟨σ',H',J.iK.vY,q⟩
  |ret u=>obtain⟨v,σ',H',J,q⟩:=z;exact⟨v,σ',H',J.iK.vY,q⟩
 refine wpAny_Try_except (dq (hb _ [] s σ H D (I.Vb.fi _) h1) (λf s1 z=>?_) λe s1 z=>?_)
 ·cases f with
  |next=>exact az (back z)
  |brk=>exact back z
  |cont=>exact back z
  |ret u=>exact back z
 ·refine dq (Ap (X:=(X.pin (X.pn++pins)).g9) (A':=λ_ _=>False) hst hf z) (λ_ s2 z2=>?_) λ_ _ q=>q.elim
  refine dq (vV (X:=(X.pin (X.pn++pins)).g9) (A':=λ_ _=>False) z2) (λ_ s3 z3=>?_) λ_ _ q=>q.elim
  obtain⟨p',σ',H',a,dx,T,n,rfl,Z,tb⟩:=z3;have J:=Z.inv.Vc (.ref a);obtain⟨nm',qn,bs,sn,sub,ab,col,dd,k0,k1,k2,k3,k5,lc⟩:=c.cls;have hC:=J.bR _ _ lc;obtain⟨vs,sl,xa,_⟩:=Z.at_.ob;refine wpAny_handleBy_cons (codeAny_handlers_test (nJ (X:=X.in (X.pn++pins) (.ref a)) J hg hm ?_ hdb)) (by intro q;cases q);obtain⟨hp,g,d,tk,os⟩:=s3;refine wpAny_excMatches_sub_self hC xa rfl (by decide) (codeAny_handlers_suite_as ?_);have Zm:n9 (X.in (X.pn++pins) (.ref a)) C E (.ref a) ⟨hp,g,d,tk,os⟩:=⟨[],σ',H',a,dx,T,n,rfl,⟨J,Z.at_,⟨Z.fa.1,Z.fa.2.1,Z.fa.2.2.1,Z.fa.2.2.2.1,Z.fa.2.2.2.2.1,λp hp=>Z.fa.2.2.2.2.2 p (fc _ (by simpa using hp))⟩,Z.fd,Z.hd,(λp hp=>Z.pd p (fc _ (by simpa using hp))),
   ⟨Z.fT.1,Z.fT.2.1,Z.fT.2.2.1,Z.fT.2.2.2.1,Z.fT.2.2.2.2.1,λp hp=>Z.fT.2.2.2.2.2 p (fc _ (by simpa using hp))⟩,Z.ew⟩,tb⟩
  refine dq (vV (X:=X.in (X.pn++pins) (.ref a)) (A':=λ_ _=>False) Zm) (λ_ s4 z4=>?_) λ_ _ q=>q.elim
  obtain⟨p5,σ5,H5,a5,mC,T5,n5,e5,Z5,_⟩:=z4;cases e5;obtain⟨vs5,sl5,xa5,_⟩:=Z5.at_.ob;obtain⟨mA,tk5,n1,n3⟩:=Z5.at_.dc;have nd5:∀b ob v,s4.heap.get? b=some ob->ob.data=.cell v->b≠mC:=λb ob v z q z'=>by obtain⟨o,es,ep,z2,z3,_⟩:=n1;rw[z',z2]at z;cases z;rw[z3]at q;cases q
  have sz:X.s₀.heap.get? a=none:=Heap.get?_none_of_le (Z5.fa.2.2.2.1.resolve_left (by show a ∉ X.ex;rw[hex];simp));have sL:a≠X.env.locals:=Z5.fa.2.1;have J1:=Z5.inv.IU (a:=mC) (o:=.ext (n_ mC n5)) Z5.fd.1 Z5.hd Z5.fd.2 hex (λy c' z=>let ⟨v,ob,z1,z2⟩:=Z5.inv.cell y c' z;nd5 c' ob v z1 z2) Z5.pd (U9 ⟨mA,tk5,n1,n3⟩);have J2:=J1.IU (a:=a) (o:=.ext (qx C mC a)) sz (by rw[ay (cu Z5.at_.na)];exact Z5.fa.1) sL hex (λy c' z=>Z5.fa.2.2.2.2.1 y c' z) Z5.fa.2.2.2.2.2 (U8 ⟨vs5,sl5,xa5⟩);have J3:Inv (X.in (X.pn++pins) (.ref a)) [] (List.replicate X.N.length none) (upd (upd H5 mC (.ext (n_ mC n5))) a (.ext (qx C mC a))) s4:=(J2.zt (pins':=[]) (λp hp=>by cases hp)).weak (by rw[rE];exact J2.len.symm) λj v q=>by rw[pM]at q;split at q<;>cases q
  refine zv (X:=X.in (X.pn++pins) (.ref a)) (v:=.ref a) J3 hN hi (.inl hl) rfl (λs5 J4=>?_) (.inr hl);refine dq (hh _ _ [] s5 _ _ _ J4 (h2 n5 H5 a mC Z5.ew Z5.fa.1 Z5.hd Z5.at_.na)) (λf s6 z6=>?_) λ_ _ q=>q.elim
  cases f with
  |next=>obtain⟨_,_,_,q⟩:=z6;exact q.elim
  |brk=>obtain⟨_,_,_,q⟩:=z6;exact False.elim q
  |cont=>obtain⟨_,_,_,q⟩:=z6;exact False.elim q
  |ret u=>
   obtain⟨v,σ6,H6,J6,rv,q⟩:=z6;obtain⟨m6,hn6,_⟩:=id J6.loc;have kd:X.env.kindOf nm=some .local:=hl;refine wpAny_nameGoes kd hn6 (by rw[J6.ok.kind];rfl) λh' m' hn' hs'=>?_
   exact⟨v,_,H6,J6.out I.ok.hd hn' hs',rv,q⟩
end L2
namespace L2
open PySem PySem.Spec PyProof.Rows
section
variable{X:Cx}{a b:Expr}{ta tb:TE}{pos p:Pos}
theorem Vf:cj X (binaryOp .FloorDiv) (rI (λ_ j=>0<j/\j<=9223372036854775808) λi j=>.int (i/j)):=rX λi j _ _ _ _ _ hc q=>by have h1:(0:Int)<j:=hc.1;have h2:j<=9223372036854775808:=hc.2;refine floordiv_int (by omega) (by rw[FT i (by omega)];exact q) (.inl (PyProof.noPylong_of_log2 ?_));have h3:j.natAbs<2^9000:=pW (show j.natAbs<=9223372036854775808 by omega) (by decide+kernel);exact(Nat.log2_lt (by omega)).mpr h3
inductive IV(i:Nat)(K:ax)(spT:Addr->List V->Hp->VK->Prop)(t:TA)(σ:St)(H:Hp)(Q:VK):Prop
 |mk f:σ[i]? =some (some (.ref f))->keepIn K (.ref f)=true->(t σ H λvs H1=>spT f vs H1 Q)->IV i K spT t σ H Q
theorem vZ{i:Nat}{x:Str}{e:Expr}{es:List Expr}{t:TA}{spT:Addr->List V->Hp->VK->Prop} (hF:∀f vs H Q,spT f vs H Q->∃k fd ps sp,aG X.prog X.w X.K X.mg X.base aR k f fd ps sp/\cA k X.A/\Binds X.K fd ps []/\sp vs H Q E0) (hN:X.N[i]? =some x)(hv:qc X.env.scope x)(ha:PA X (e::es) t)(he:starEach (e::es) X.env=(false,eval e X.env)::starEach es X.env:=by rfl)(hpl:(backTo pos (starEach es X.env)).any (·.1)=false:=by rfl) (hd:(x==("__debug__" :Str))=false:=by decide)(hcd:(x==("__classdict__" :Str))=false:=by decide):PE X (.Call (.Name x p) (e::es) [] pos) (IV i X.K spT t):=by
 intro pins s σ H Q I ⟨f,hi,hk,h⟩;refine pL (aF (Gm (pos:=p) hN hv hd hcd pins s σ H (λv H1=>v=.ref f/\H1=H) I ⟨_,hi,rfl,rfl⟩) λu s1 ⟨v,H1,I1,r,ev,eH⟩=>?_);subst ev eH;obtain rfl:u=Value.ref f:=r;refine callWith_K (h₀:=X.base) I1.ok.mod.j_ hk (aF (ha pos pins s1 σ _ _ I1 h) λus s2 ⟨vs,H2,I2,r,q⟩=>⟨I2.bR,?_⟩) he hpl;obtain⟨k,fd,ps,sp,F,hr,hb,hs⟩:=hF f vs H2 Q q;exact vC F hr hb .nil aH I2 r (by rw[gk];exact hs)
end
def kw(w:List Nat):List Key:=w.map λ(c:Nat)=>Sum.inl (c:Int)
def iw(w:List Nat):List V:=w.map λ(c:Nat)=>V.int (c:Int)
theorem qy(w:List Nat):(kw w).map kV=iw w:=by unfold kw iw;rw[eQ];rfl
theorem Aq{a b:List Nat}(h:kw a=kw b):a=b:=by unfold kw at h;exact List.map_inj_right (λ(x y:Nat) e=>by simpa[Int.ofNat_inj]using e)|>.mp h
theorem v9{a b:List Nat}(h:iw a=iw b):a=b:=by unfold iw at h;exact List.map_inj_right (λ(x y:Nat) e=>by simpa[Int.ofNat_inj]using e)|>.mp h
theorem bG(w:List Nat):(iw w).length=w.length:=aK _
structure y2(P:Program)(w:World)(K:ax)(D:Addr)(xs:List (List Key×Addr×Value)):Prop where
 at_:∀h:Heap,K.In h->h.DictOfH (tupleKind (bX P w)) D xs
 ns:(D==sysModules)=false
section
variable{X:Cx}{a b:Expr}{ta tb:TE}{pos p:Pos}{D:Addr}{xs:List (List Key×Addr×Value)}
inductive IW(D:Addr)(xs:List (List Key×Addr×Value))(Q:VK)(y:V)(x:V)(H2:Hp):Prop
 |mk b k:x=.ref D->y=.ref b->H2 b=some (.tup (k.map kV))->Q (.bl (atKey xs k).isSome) H2->IW D xs Q y x H2
def Vg(D:Addr)(xs:List (List Key×Addr×Value))(ty td:TE):TE:=λσ H Q=>ty σ H λy H1=>td σ H1 λx H2=>IW D xs Q y x H2
theorem Vh(T:y2 X.prog X.w X.K D xs)(hu:X.A.units+1<cLine)(hi:PE X a ta)(ho:PE X b tb):PC X .In a b (Vg D xs ta tb):=by
 intro pins s σ H Q I h;refine aF (hi pins s σ H _ I h) λu s1 ⟨y,H1,I1,ry,q⟩=>aF (ho pins s1 σ H1 _ I1 q) λv s2 ⟨x,H2,I2,rx,c,k,ex,ey,eb,q2⟩=>?_
 subst ex ey;obtain rfl:v=Value.ref D:=rx;obtain rfl:u=Value.ref c:=ry;refine wpAny_in_heap (uU hu) (nY I2.hok eb) T.ns (T.at_ _ I2.bR) ?_;exact⟨.bl _,H2,I2.tok _,rfl,q2⟩
inductive IX(D:Addr)(xs:List (List Key×Addr×Value))(Q:VK)(x:V)(y:V)(H2:Hp):Prop
 |mk b k q f:x=.ref D->y=.ref b->H2 b=some (.tup (k.map kV))->atKey xs k=some (q,.ref f)->Q (.ref f) H2->IX D xs Q x y H2
def Vi(D:Addr)(xs:List (List Key×Addr×Value))(td ty:TE):TE:=λσ H Q=>td σ H λx H1=>ty σ H1 λy H2=>IX D xs Q x y H2
theorem Vj(T:y2 X.prog X.w X.K D xs)(hu:X.A.units+1<cLine)(ho:PE X a ta)(hi:PE X b tb)(hs:Af b):PE X (.Subscript a b pos) (Vi D xs ta tb):=by intro pins s σ H Q I h;refine Ie (T:="dict") F.slot_dict_getitem.lookup hs (aF (ho pins s σ H _ I h) λu s1 ⟨x,H1,I1,rx,q⟩=>aF (hi pins s1 σ H1 _ I1 q) λv s2 ⟨y,H2,I2,ry,c,k,qa,f,ex,ey,eb,ek,q2⟩=>?_);subst ex ey;obtain rfl:u=Value.ref D:=rx;obtain rfl:v=Value.ref c:=ry;have dd:=T.at_ _ I2.bR;refine⟨Heap.DictOfH.typeIs dd,wpAny_getItem_heap (uU hu) (nY I2.hok eb) dd ek ?_⟩;exact⟨.ref f,H2,I2.tok _,rfl,q2⟩
end
def iT(H:Hp)(ps:List Addr)(ws:List (List Nat)):Prop:=Paired (λp w=>H p=some (.tup (iw w))) ps ws
def iD(w:List Nat):List PyData:=w.map λ(c:Nat)=>PyData.int (c:Int)
theorem v_{K:ax}{H:Hp}:∀w:List Nat,jJ K H (iw w) (iD w)
 |[]=>.nil
 |c::r=>.cons (.int _) (v_ r)
theorem lE{K:ax}{H:Hp}{p:Addr}{w:List Nat}(h:H p=some (.tup (iw w))):Dp K H (.ref p) (.tuple (iD w)):=.tup (a8.of h) (v_ w)
theorem Ar:∀a b:List Nat,PyData.eqvAll (iD a) (iD b)=decide (a=b)
 |[],[]=>rfl
 |[],_::_=>rfl
 |_::_,[]=>rfl
 |x::a,y::b=>by
  show(((x:Int)==(y:Int))&&PyData.eqvAll (iD a) (iD b))=_;rw[Ar a b];by_cases h1:x=y
  ·subst h1;simp
  ·have h2:¬(x:Int)=(y:Int):=λe=>h1 (Int.ofNat_inj.mp e)
   simp[h1,h2]
theorem qz(a b:List Nat):PyData.eqv (.tuple (iD a)) (.tuple (iD b))=decide (a=b):=Ar a b
theorem rq:∀w:List Nat,PyData.canLayAll0 (iD w)=true
 |[]=>rfl
 |_::r=>rq r
theorem sP:∀w:List Nat,PyData.depthAll (iD w)<=1
 |[]=>by decide
 |c::r=>by have:=sP r;show max (PyData.depth (.int (c:Int))) (PyData.depthAll (iD r))<=1;have e:PyData.depth (.int (c:Int))<=1:=F8 (show PyData.depth (.int (c:Int))<2 by unfold PyData.depth;omega);omega
theorem wc(w:List Nat):SeqAt.shaped (.tuple (iD w))=true:=by unfold SeqAt.shaped;rw[fe];refine⟨rq w,bx ?_⟩;have:=sP w;show PyData.depthAll _+1<=64;omega
section
variable{X:Cx}
def sQ(H:Hp)(w:List Nat):Value->Bool
 | .ref p=>match H p with
  |some (.tup xs)=>decide (xs=iw w)
  |_=>false
 |_=>false
theorem IY{H:Hp}{w:List Nat}:∀{ps:List Addr}{ws:List (List Nat)},iT H ps ws->(ps.map Value.ref).any (sQ H w)=ws.contains w
 |_,_,.nil=>rfl
 |p::ps,v::ws,.cons h r=>by
  rw[bt,rG,IY r,List.contains_cons]
  congr 1
  show(match H p with |some (.tup xs)=>decide (xs=iw w) |_=>false)=(w==v);rw[show H p=some (.tup (iw v)) from h];by_cases e:v=w
  ·subst e;simp
  ·have n1:¬iw v=iw w:=λz=>e (v9 z)
   have n2:(w==v)=false:=by rw[m7];exact λz=>e z.symm
   rw[n2];exact a9 n1
inductive IZ(K:ax)(x:V)(y:V)(H:Hp)(Q:VK):Prop
 |mk p l ps w ws:x=.ref p->y=.ref l->H p=some (.tup (iw w))->aj K H l (ps.map V.ref)->iT H ps ws->Q (.bl (ws.contains w)) H->IZ K x y H Q
theorem Vk(hu:X.A.units+64<cLine):cj X (compareOp .In) (IZ X.K):=by
 intro pins s σ H x y v u Q I rx ry h;obtain⟨p,l,ps,w,ws,rfl,rfl,hp,hl,hw,q⟩:=h;obtain rfl:v=Value.ref p:=rx;obtain rfl:u=Value.ref l:=ry;obtain⟨its,r,pl,hz⟩:=I.list hl;obtain rfl:=Aj r;refine SeqAt.in_listAt (sQ H w) pl.isList (λy hy=>?_) ⟨.bl _,H,I,rfl,?_⟩
 ·obtain⟨b,hb,rfl⟩:=d_.mp (by simpa using hy);have all:∀{qs:List Addr}{vs:List (List Nat)},iT H qs vs->b∈qs->∃z,H b=some (.tup (iw z)):=by
   intro qs vs t
   induction t with
   |nil=>intro z;cases z
   |cons h0 _ ih=>
    intro z;rcases a6.mp z with e |e
    ·exact⟨_,by rw[e];exact h0⟩
    ·exact ih e
  obtain⟨z,ez⟩:=all hw hb;obtain⟨as,r1⟩:=Dp.reads I _ (.ref b) (.ref b) (lE ez) rfl;obtain⟨bs,r2⟩:=Dp.reads I _ (.ref p) (.ref p) (lE hp) rfl;have e1:sQ H w (.ref b)=decide (z=w):=by
   show(match H b with |some (.tup xs)=>decide (xs=iw w) |_=>false)=_;rw[ez];by_cases e:z=w
   ·subst e;simp
   ·rw[a9 e];exact a9 λy=>e (v9 y)
  rw[e1,<-qz];have hd:=sP z;refine SeqAt.eqAt_reads _ _ _ s _ _ _ _ r1 r2 (rq z) (rq w) ?_;show X.A.units+1+min (PyData.depthAll _+1) _<cLine;omega
 ·rw[show(ps.map Value.ref).toArray.any (sQ H w)=(ps.map Value.ref).any (sQ H w) by simp,IY hw];exact q
end
def jL(K:ax)(H:Hp)(a:Addr)(ns:List Int):Prop:=ns.length<=100000/\(Rd H a (.lst (ns.map V.int))\/∃vs:List Value,K.lookup a=some {cls:=.type "list",data:=.seq vs.toArray}/\Vals (ns.map V.int) vs)
section
variable{X:Cx}
inductive I0(K:ax)(x:V)(y:V)(H:Hp)(Q:VK):Prop
 |mk l b ns zs:x=.ref l->y=.ref b->jL K H l ns->H b=some (.lst zs)->zs.length<=10->(∀p,H p=none->Q (.ref p) (upd H p (.lst (ns.map V.int++zs))))->I0 K x y H Q
theorem Vl:cj X (binaryOp .Add) (I0 X.K):=by
 intro pins s σ H x y v u Q I rx ry h;obtain⟨l,b,ns,zs,rfl,rfl,⟨hn,hT⟩,hB,hz,q⟩:=h;cases rx;cases ry;have raw:∃(its:List Value)(n:Nat),Vals (ns.map V.int) its/\s.heap.get? l=some {cls:=.type "list",data:=.seq its.toArray n}:=by
  rcases hT with hT |⟨vs,e,r⟩
  ·obtain⟨_,its,n,r,e⟩:=hT.ok I.hok;exact⟨its,n,r,e⟩
  ·exact⟨vs,_,r,I.bR _ _ e⟩
 obtain⟨its,n,r,e⟩:=raw;obtain⟨z2,its2,n2,r2,hl2,e2⟩:=I.mx hB;have l1:=r.length;rw[aK]at l1;have l2:=r2.length;refine PySem.P.add_list e e2 ?_ (by rw[cJ,cJ,bg];omega);have ea:its.toArray++its2.toArray=(its++its2).toArray:=by simp
 rw[ea];exact⟨.ref _,_,I.HG (t':=s.toks) (r.append r2) (by rw[bo,aK,bg];omega),rfl,q _ I.fresh⟩
end
section
variable{X:Cx}{CX:jI}{k:Nat}{f C:Addr}{fd:FuncData}{ps ks:List Str}{sp:Sp}{E:XK}{x:Str}{p pos:Pos}{e:Expr}{es:List Expr}{kws:List Keyword}{t tk:TA}{g:List Value->List Value->List Value}{gV:List V->List V->List V}
def Vm(C:Addr)(sp:Sp)(gV:List V->List V->List V)(E:XK)(t tk:TA):TE:=λσ H Q=>t σ H λvs H1=>tk σ H1 λzs H2=>∀x dx,H2 x=none->H2 dx=none->dx≠x->sp (gV (.ref x::vs) zs) (upd (upd H2 dx (.own x)) x (.ins C dx [])) (λv H3=>v=.au/\Q (.ref x) H3) E
theorem Vn{pins:List (Addr×Obj)}{σ:St}{H:Hp}{s:Shared}{Q:VK}{us ws:List Value}{vs zs:List V}(M:Mk X.K C f)(F:aG X.prog X.w X.K X.mg X.base CX k f fd ps sp)(hr:cA (k+1) X.A)(hb:nU X.K fd ps ks g gV) (hx:jW CX X E)(I:Inv X pins σ H s)(r:Vals vs us)(rz:Vals zs ws) (h:∀x dx,H x=none->H dx=none->dx≠x->sp (gV (.ref x::vs) zs) (upd (upd H dx (.own x)) x (.ins C dx [])) (λv H2=>v=.au/\Q (.ref x) H2) E):wpAny (model X.prog X.w) X.A (call (.ref C) us (ks.zip ws)) (EP X pins σ Q) X.xe s:=by
 have hq:=h (s.heap.objs.size+1) s.heap.objs.size (I.hok.fresh (l_ _)) (I.hok.fresh (aI _)) (bT (uN _));have I2:=Inv.made (C:=C) I;have r2:Vals (gV (V.ref (s.heap.objs.size+1)::vs) zs) (g (Value.ref (s.heap.objs.size+1)::us) ws):=hb.rel (.cons rfl r) rz;have hl:(g (Value.ref (s.heap.objs.size+1)::us) ws).length=ps.length:=by rw[<-r2.length];exact F.len _ _ _ _ hq
 refine rC (G4 (f:=f) I.bR M.makes M.init (jX.mp M.fn) (ng (F.run _ X.stack _ _ ⟨Value.ref (s.heap.objs.size+1)::us,ks.zip ws⟩ _ _ _ E (hr.make C us (ks.zip ws)) (I2.vB.make C us (ks.zip ws)) (hb.to _ (Value.ref (s.heap.objs.size+1)::us) ws I2.bR hl) r2 hq) λr s' hq'=>?_))
 cases r with
 |error e=>exact hx pins σ _ _ e s' I2 hq'
 |ok fl=>
  cases fl with
  |ret u=>obtain⟨v,H',I3,rv,ev,q3⟩:=I2.after hq';subst ev;exact⟨rv,⟨V.ref (s.heap.objs.size+1),H',I3,rfl,q3⟩⟩
  |next=>exact False.elim hq'
  |brk=>exact False.elim hq'
  |cont=>exact False.elim hq'
theorem lG(M:Mk X.K C f)(F:aG X.prog X.w X.K X.mg X.base CX k f fd ps sp)(hr:cA (k+1) X.A)(hg:Gl X x)(hm:X.mg x=some (.ref C))(hb:nU X.K fd ps ks g gV)(hx:jW CX X E) (ha:PA X (e::es) t)(hkw:PK X kws tk)(hall:(backToKw pos (keywordEach kws X.env)).all (·.1.isSome)=true:=by rfl)(hks:(backToKw pos (keywordEach kws X.env)).filterMap (·.1)=ks:=by rfl) (hdb:(x==("__debug__" :Str))=false:=by decide)(he:starEach (e::es) X.env=(false,eval e X.env)::starEach es X.env:=by rfl) (hpl:((backTo pos (starEach (e::es) X.env)).any (·.1)||(backToKw pos (keywordEach kws X.env)).any (·.1.isNone))=false:=by rfl):PE X (.Call (.Name x p) (e::es) kws pos) (Vm C sp gV E t tk):=by
 intro pins s σ H Q I h;refine pL (nJ I hg hm ?_ hdb);refine PySem.W.callWith_KW (h₀:=X.base) I.ok.mod.j_ M.kp hall (aF (ha pos pins s σ H _ I h) λus s1 ⟨vs,H1,I1,r,q⟩=>?_) hpl he;refine aF (hkw pos pins s1 σ H1 _ I1 q) λws s2 ⟨zs,H2,I2,rz,q2⟩=>⟨I2.bR,?_⟩
 rw[hks];exact Vn M F hr hb hx I2 r rz q2
end
end L2
namespace L2
open PySem PySem.Spec PyProof.Rows
def oa(J:It)(H:Hp)(xs:List V):Prop:=(∀i(h:i<xs.length),J.go i H/\∀x H',J.gB i H x H'->H'=H/\x=xs[i])/\J.stop xs.length H
theorem qA{K:ax}{H:Hp}{a:Addr}{xs:List V}(h:a8 K H a xs):oa (qk K a) H xs:=⟨λi hi=>⟨⟨xs,xs[i],h,by simp[hi]⟩,λx H' ⟨e,y⟩=>⟨e,by have:=y xs h;rw[aN hi]at this;exact(cI this).symm⟩⟩,⟨xs,h,aI _⟩⟩
theorem qB{K:ax}{H:Hp}{a:Addr}{xs:List V}(h:aj K H a xs):oa (qj K a) H xs:=⟨λi hi=>⟨⟨xs,xs[i],h,by simp[hi]⟩,λx H' ⟨e,y⟩=>⟨e,by have:=y xs h;rw[aN hi]at this;exact(cI this).symm⟩⟩,⟨xs,h,aI _⟩⟩
theorem I_{lo:Int}{n:Nat}{H:Hp}:oa (nK lo n) H ((List.range n).map λ(i:Nat)=>V.int (lo+i)):=by
 refine⟨λi hi=>?_,?_⟩
 ·have hn:i<n:=by simpa using hi
  exact⟨hn,λx H' ⟨e,y⟩=>⟨e,by rw[y];simp⟩⟩
 ·show n<=_;simp
theorem ae.oe{K:ax}{H H':Hp}{a:Addr}{xs:List V}(e:ae H H')(h:a8 K H a xs):a8 K H' a xs:=by
 rcases h with (h |⟨o,h⟩) |h
 ·exact .inl (.inl (e _ _ h))
 ·exact .inl (.inr ⟨o,e _ _ h⟩)
 ·exact .inr h
theorem ae.new{H:Hp}{D:Addr}{o:HO}(h:H D=none):ae H (upd H D o):=λb u e=>by rw[ay (aJ e h)];exact e
theorem ae.upd{H H':Hp}{D:Addr}{o:HO}(s:ae H H')(h:H D=none):ae H (upd H' D o):=λb u e=>by rw[ay (aJ e h)];exact s b u e
theorem Paired.app{α β:Type}{F:α->β->Prop}:∀{a c:List α}{b d:List β},Paired F a b->Paired F c d->Paired F (a++c) (b++d)
 |_,_,_,_,.nil,s=>s
 |_,_,_,_,.cons r t,s=>.cons r (Paired.app t s)
theorem Ja{J:It}{xs:List V}{j:Nat}{te:TE}{vs:List Nat}{σ:St}{H1:Hp}{Q:Hp->Prop}{D:Addr}(R:V->V->Hp->Prop)(hD:H1 D=none)(hn:xs.length<=sizeLine) (hR:∀x y H H',R x y H->(∀b o,b≠D->H b=some o->H' b=some o)->R x y H') (hJ:∀H,ae H1 H->oa J H xs)(hw:∀x,be ((be σ vs).set j (some x)) vs=be σ vs) (hs:∀(i:Nat) x H,xs[i]? =some x->ae H1 H->(∃acc,H D=some (.lst acc))->∀Q':VK,(∀y H4,ae H H4->R x y H4->Q' y H4)->te ((be σ vs).set j (some x)) H Q') (hd:∀ys H,ae H1 H->H D=some (.lst ys)->Paired (λx y=>R x y H) xs ys->Q H):∃W:Nat->Nat->Hp->Prop,(∃m,W 0 m (upd H1 D (.lst [])))/\∀i m H,W i m H->(J.stop i H/\Q H)\/(J.go i H/\∃Nx:Hp->Prop,(∀H',Nx H'->∃m',m'<m/\W (i+1) m' H')/\∀x H',J.gB i H x H'->c6 j x (be σ vs) H' λσ2 H2=>be σ2 vs=be σ vs/\vJ σ2 H2 λb H3=>if b=true then te σ2 H3 λy H4=>∃acc,H4 D=some (.lst acc)/\acc.length<sizeLine/\Nx (upd H4 D (.lst (acc++[y])))else Nx H3):=by
 let Pv:Nat->Hp->Prop:=λi H=>∃ys,H D=some (.lst ys)/\ae H1 H/\Paired (λx y=>R x y H) (xs.take i) ys
 refine⟨λi m H=>m=xs.length-i/\i<=xs.length/\Pv i H,⟨_,rfl,b9 _,[],aw,ae.new hD,by rw[List.take_zero];exact .nil⟩,?_⟩
 rintro i m H ⟨rfl,hi,ys,hy,sm,pr⟩
 by_cases hlt:i<xs.length
 ·obtain⟨go,yl⟩:=(hJ H sm).1 i hlt;refine .inr ⟨go,Pv (i+1),λH' p=>⟨xs.length-(i+1),by omega,rfl,hlt,p⟩,λx H' y=>?_⟩;obtain⟨rfl,rfl⟩:=yl x H' y;refine⟨hw _,?_⟩;refine aD (B:=Pv (i+1) H') ?_;refine hs i _ _ (aN hlt) sm ⟨ys,hy⟩ _ λz H4 s4 r4=>?_
  have hl:ys.length=i:=by rw[<-bC pr,uP];omega
  have k4:∀b o,b≠D->H4 b=some o->(upd H4 D (.lst (ys++[z]))) b=some o:=λb o hb e=>by rw[ay hb];exact e
  refine⟨ys,s4 _ _ hy,by omega,ys++[z],aw,(sm.trans s4).upd hD,?_⟩;rw[iB,aN hlt];refine Paired.app (Paired.c8 pr λa b r=>hR _ _ _ _ (hR _ _ _ _ r λc o _ e=>s4 c o e) k4) (.cons (hR _ _ _ _ r4 k4) .nil)
 ·have e:i=xs.length:=by omega
  subst e;rw[j0]at pr;exact .inl ⟨(hJ H sm).2,hd ys H sm hy pr⟩
theorem lH{J:It}{xs:List V}{j:Nat}{te:TE}{vs:List Nat}{σ:St}{H1:Hp}{Q:Hp->Prop}{D:Addr}(f:V->V)(hD:H1 D=none)(hn:xs.length<=sizeLine) (hJ:∀H,ae H1 H->oa J H xs)(hw:∀x,be ((be σ vs).set j (some x)) vs=be σ vs) (hs:∀(i:Nat) x H,xs[i]? =some x->ae H1 H->∀Q':VK,(∀H4,ae H H4->Q' (f x) H4)->te ((be σ vs).set j (some x)) H Q') (hd:∀H,ae H1 H->H D=some (.lst (xs.map f))->Q H):∃W:Nat->Nat->Hp->Prop,(∃m,W 0 m (upd H1 D (.lst [])))/\∀i m H,W i m H->(J.stop i H/\Q H)\/(J.go i H/\∃Nx:Hp->Prop,(∀H',Nx H'->∃m',m'<m/\W (i+1) m' H')/\∀x H',J.gB i H x H'->c6 j x (be σ vs) H' λσ2 H2=>be σ2 vs=be σ vs/\vJ σ2 H2 λb H3=>if b=true then te σ2 H3 λy H4=>∃acc,H4 D=some (.lst acc)/\acc.length<sizeLine/\Nx (upd H4 D (.lst (acc++[y])))else Nx H3):=by
 refine Ja (λx y _=>y=f x) hD hn (λ_ _ _ _ r _=>r) hJ hw (λi x H e s _ Q' k=>hs i x H e s Q' λH4 s4=>k _ _ s4 rfl) λys H s e pr=>hd H s ?_
 have:ys=xs.map f:=by
  clear hd e hn hJ hs
  induction pr with
  |nil=>rfl
  |cons r _ ih=>rw[bt,<-ih,r]
 rw[<-this];exact e
theorem dW{t u:TS}{D:Ends}{σ:St}{H:Hp}(h:t {D with nx:=u D} σ H):Gx t u D σ H:=h
theorem we{tc:TT}{t u:TS}{D:Ends}{σ:St}{H:Hp}(h:tc σ H λb H1=>if b=true then t D σ H1 else u D σ H1):Gz tc t u D σ H:=h
theorem Jb{c:Bool}{t u:TS}{D:Ends}{σ:St}{H:Hp}(R:St->Hp->Prop)(hA:c=true->(∀σ' H',R σ' H'->D.nx σ' H')->t D σ H)(hB:c=false->(∀σ' H',R σ' H'->D.nx σ' H')->u D σ H) (k:∀σ' H',R σ' H'->D.nx σ' H'):if c=true then t D σ H else u D σ H:=by
 cases c with
 |true=>exact aD (hA rfl k)
 |false=>exact aA (hB rfl k)
theorem jL.same{K:ax}{H H':Hp}{a:Addr}{ns:List Int}(s:ae H H')(h:jL K H a ns):jL K H' a ns:=by
 obtain⟨h1,h2⟩:=h;refine⟨h1,?_⟩;rcases h2 with (h |⟨o,h⟩) |h
 ·exact .inl (.inl (s _ _ h))
 ·exact .inl (.inr ⟨o,s _ _ h⟩)
 ·exact .inr h
end L2
open Sz43 (Ins ascii bits usesOf knows targets reckon givesOf repeated insOf varsOf folded digit letter isName natOf numberOf wrap sent)
namespace My
open PySem
def aV(z:Int):Prop:= -9223372036854775808<=z/\z<9223372036854775808
theorem mD(z:Int):wrap z=(z+9223372036854775808)%18446744073709551616-9223372036854775808:=rfl
theorem qC(z:Int):bits z=(z%18446744073709551616).toNat:=rfl
theorem mE(z:Int):aV (wrap z):=by unfold aV;rw[mD];omega
theorem As{z:Int}(h:aV z):wrap z=z:=by unfold aV at h;rw[mD];omega
theorem sR{b:Nat}(h:b<2^64)(i:Nat):((18446744073709551615:Nat)-b).testBit i=(decide (i<64)&& !b.testBit i):=by
 have e:(18446744073709551615:Nat)-b=2^64-(b+1):=by
  have:(2:Nat)^64=18446744073709551616:=by decide
  omega
 rw[e];exact Nat.testBit_two_pow_sub_succ h i
theorem Vo{b i:Nat}(h:b<2^64)(hi:¬i<64):b.testBit i=false:=Nat.testBit_lt_two_pow (dM h (Nat.pow_le_pow_right (by decide) (by omega)))
theorem Jc{u b:Nat}(hu:u<2^64)(hb:b<2^64):(u&&& ((18446744073709551615:Nat)-b))+(u&&& b)=u:=by
 have h:=Bits.Ao (u&&& ((18446744073709551615:Nat)-b)) (u&&& b);have e1:(u&&& ((18446744073709551615:Nat)-b))^^^(u&&& b)=u:=by
  apply pX;intro i;rw[uX,jB,jB,sR hb];by_cases hi:i<64
  ·cases u.testBit i<;>cases b.testBit i<;>simp[hi]
  ·rw[Vo hu hi];simp
 have e2:(u&&& ((18446744073709551615:Nat)-b))&&& (u&&& b)=0:=by apply pX;intro i;rw[jB,jB,jB,sR hb];cases u.testBit i<;>cases b.testBit i<;>simp
 rw[e1,e2]at h;omega
theorem Jd{a b:Nat}(ha:a<2^64)(hb:b<2^64):((18446744073709551615:Nat)-a)&&& ((18446744073709551615:Nat)-b)=(18446744073709551615:Nat)-(a|||b):=by
 apply pX;intro i;rw[jB,sR ha,sR hb,sR (zg ha hb),rL];by_cases hi:i<64
 ·cases a.testBit i<;>cases b.testBit i<;>simp[hi]
 ·simp[hi]
theorem Vp(u v:Nat):(u^^^v)+(u&&& v)=u|||v:=by
 have h:=Bits.Ao (u^^^v) (u&&& v);have e1:(u^^^v)^^^(u&&& v)=u|||v:=by apply pX;intro i;rw[uX,uX,jB,rL];cases u.testBit i<;>cases v.testBit i<;>rfl
 have e2:(u^^^v)&&& (u&&& v)=0:=by apply pX;intro i;rw[jB,uX,jB];cases u.testBit i<;>cases v.testBit i<;>simp
 rw[e1,e2]at h;omega
theorem Vq(u v:Nat):(u^^^v)|||(u&&& v)=u|||v:=by apply pX;intro i;rw[rL,uX,jB,rL];cases u.testBit i<;>cases v.testBit i<;>rfl
theorem sS:(2:Nat)^64=18446744073709551616:=by decide
theorem mF:(2:Nat)^63=9223372036854775808:=by decide
theorem qD(x:Int):bits x<2^64:=by rw[qC,sS];omega
theorem wg{x:Int}(h:aV x)(p:0<=x):bits x=x.toNat:=by unfold aV at h;rw[qC];omega
theorem bits_neg{x:Int}(h:aV x)(p:¬0<=x):bits x=(18446744073709551615:Nat)-(Builtin.bitNot x).toNat/\(Builtin.bitNot x).toNat<2^63:=by unfold aV at h;rw[qC,mF];unfold Builtin.bitNot;constructor<;>omega
theorem FK{x y:Int}(hx:aV x)(hy:aV y):wrap ((bits x&&& bits y:Nat):Int)=Builtin.bitAnd x y:=by
 have l63:∀{n:Nat},n<2^63->n<2^64:=λh=>by rw[mF]at h;rw[sS];omega
 have i64:∀{n:Nat},n<2^63->aV (n:Int):=λh=>by rw[mF]at h;unfold aV;omega
 unfold Builtin.bitAnd;by_cases px:0<=x<;>by_cases py:0<=y
 ·rw[bx px,bx py];show wrap _=((x.toNat&&& y.toNat:Nat):Int);rw[wg hx px,wg hy py];refine As (i64 (Nat.and_lt_two_pow _ ?_));unfold aV at hy;rw[mF];omega
 ·rw[bx px,a9 py];show wrap _=x-((x.toNat&&& (Builtin.bitNot y).toNat:Nat):Int);obtain⟨b1,b2⟩:=bits_neg hy py;have ux:x.toNat<2^63:=by unfold aV at hx;rw[mF];omega
  have e:=Jc (u:=x.toNat) (l63 ux) (l63 b2);rw[wg hx px,b1];rw[As (i64 (pW RG ux))];omega
 ·rw[a9 px,bx py];show wrap _=y-((y.toNat&&& (Builtin.bitNot x).toNat:Nat):Int);obtain⟨b1,b2⟩:=bits_neg hx px;have uy:y.toNat<2^63:=by unfold aV at hy;rw[mF];omega
  have e:=Jc (u:=y.toNat) (l63 uy) (l63 b2);rw[wg hy py,b1,Nat.and_comm];rw[As (i64 (pW RG uy))];omega
 ·rw[a9 px,a9 py];show wrap _=Builtin.bitNot ((((Builtin.bitNot x).toNat|||(Builtin.bitNot y).toNat:Nat)):Int);obtain⟨a1,a2⟩:=bits_neg hx px;obtain⟨b1,b2⟩:=bits_neg hy py;rw[a1,b1,Jd (l63 a2) (l63 b2)];have o:=zg a2 b2;rw[mF]at o;rw[mD];unfold Builtin.bitNot at o ⊢;omega
theorem Je{x:Int}(h:aV x):aV (Builtin.bitNot x):=by unfold aV at h ⊢;unfold Builtin.bitNot;omega
theorem Jf{x:Int}(h:aV x):bits (Builtin.bitNot x)=(18446744073709551615:Nat)-bits x:=by unfold aV at h;rw[qC,qC];unfold Builtin.bitNot;omega
theorem Rm{x y:Int}(hx:aV x)(hy:aV y):wrap ((bits x|||bits y:Nat):Int)=Builtin.bitOr x y:=by unfold Builtin.bitOr;rw[<-FK (Je hx) (Je hy),Jf hx,Jf hy,Jd (qD x) (qD y)];have o:=zg (qD x) (qD y);rw[sS]at o;rw[mD,mD];unfold Builtin.bitNot;omega
theorem abY{x y:Int}(hx:aV x)(hy:aV y):wrap ((bits x^^^bits y:Nat):Int)=Builtin.bitXor x y:=by
 unfold Builtin.bitXor;rw[<-Rm hx hy,<-FK hx hy];have s:=Vp (bits x) (bits y);have o:=zg (qD x) (qD y);have k:(bits x^^^bits y)<2^63->(bits x&&& bits y)<2^63->(bits x|||bits y)<2^63:=λh1 h2=>by
  have:=zg h1 h2
  rwa [Vq]at this
 rw[mF]at k;rw[sS]at o;rw[mD,mD,mD];generalize (bits x^^^bits y)=a at*;generalize (bits x&&& bits y)=b at*;generalize (bits x|||bits y)=c at*;omega
theorem Jg(z:Int):(bits z%64:Nat)=(z%64).toNat:=by rw[qC];omega
def ab(y:Int):Int:=if y<0 then-y else y
theorem Vr(y z:Int)(hz:z≠0):Int.tdiv y z=if (decide (y<0)=decide (z<0))then ab y/ab z else-(ab y/ab z):=by
 unfold ab;by_cases hy:y<0<;>by_cases hw:z<0
 ·rw[ai (by simp[hy,hw]),ai hy,ai hw,<-F9 (by omega),Int.neg_tdiv,Int.tdiv_neg,zh]
 ·rw[ah (by simp[hy,hw]),ai hy,ah hw,<-F9 (by omega),Int.neg_tdiv,zh]
 ·rw[ah (by simp[hy,hw]),ah hy,ai hw,<-F9 (by omega),Int.tdiv_neg,zh]
 ·rw[ai (by simp[hy,hw]),ah hy,ah hw,<-F9 (by omega)]
theorem Jh(y z:Int):Int.tmod y z=if y<0 then-(ab y%ab z)else ab y%ab z:=by
 unfold ab;by_cases hy:y<0<;>by_cases hw:z<0
 ·rw[ai hy,ai hy,ai hw,<-F_ (by omega),Int.neg_tmod,Int.tmod_neg,zh]
 ·rw[ai hy,ai hy,ah hw,<-F_ (by omega),Int.neg_tmod,zh]
 ·rw[ah hy,ah hy,ai hw,<-F_ (by omega),Int.tmod_neg]
 ·rw[ah hy,ah hy,ah hw,<-F_ (by omega)]
theorem Vs(f:Int->Int)(y z:Int)(h:wrap=f):reckon 5 y z=f ((bits y&&& bits z:Nat):Int):=by unfold reckon;rw[h];generalize ((bits y&&& bits z:Nat):Int)=q;rfl
theorem Ji(y z:Int):reckon 5 y z=wrap ((bits y&&& bits z:Nat):Int):=Vs _ y z rfl
theorem Vt(f:Int->Int)(y z:Int)(h:wrap=f):reckon 6 y z=f ((bits y|||bits z:Nat):Int):=by unfold reckon;rw[h];generalize ((bits y|||bits z:Nat):Int)=q;rfl
theorem Jj(y z:Int):reckon 6 y z=wrap ((bits y|||bits z:Nat):Int):=Vt _ y z rfl
theorem Vu(f:Int->Int)(y z:Int)(h:wrap=f):reckon 7 y z=f ((bits y^^^bits z:Nat):Int):=by unfold reckon;rw[h];generalize ((bits y^^^bits z:Nat):Int)=q;rfl
theorem Jk(y z:Int):reckon 7 y z=wrap ((bits y^^^bits z:Nat):Int):=Vu _ y z rfl
end My
namespace My
open PySem L2
noncomputable def top(i:Nat):Stmt:=PySem.Challenge.pw_sameruns_s02_bt_better.main.body.getD i (.Pass ⟨0,0,0,0⟩)
abbrev Jl:Stmt:=top 1
abbrev Au:Stmt:=top 2
abbrev Av:Stmt:=top 3
abbrev Jm:Stmt:=top 5
abbrev Jn:Stmt:=top 6
abbrev Aw:Stmt:=top 7
abbrev Jo:Stmt:=top 8
abbrev Ax:Stmt:=top 9
abbrev Jp:Stmt:=top 10
abbrev Jq:Stmt:=top 14
abbrev Jr:Stmt:=top 15
abbrev Ay:Stmt:=top 17
abbrev Js:Stmt:=top 18
abbrev Jt:Stmt:=top 20
abbrev Ju:Stmt:=top 21
abbrev Jv:Stmt:=top 22
abbrev sT:Stmt:=top 23
abbrev Jw:Stmt:=top 28
abbrev Jx:Stmt:=top 29
abbrev Jy:Stmt:=top 30
abbrev Jz:Stmt:=top 31
abbrev JA:Stmt:=top 32
abbrev JB:Stmt:=top 33
abbrev JC:Stmt:=top 34
abbrev JD:Stmt:=top 35
abbrev JE:Stmt:=top 36
abbrev JF:Stmt:=top 37
abbrev JG:Stmt:=top 38
abbrev JH:Stmt:=top 39
abbrev JI:Stmt:=top 40
abbrev JJ:Stmt:=top 42
abbrev JK:Stmt:=top 43
abbrev Az:Stmt:=top 45
abbrev JL:Stmt:=top 46
abbrev JM:Stmt:=top 47
abbrev AA:Stmt:=top 48
abbrev JN:Stmt:=top 50
abbrev JO:Stmt:=top 51
abbrev JP:Stmt:=top 52
abbrev AD:Stmt:=top 53
abbrev AE:Stmt:=top 67
abbrev JQ:Stmt:=top 68
abbrev JR:Stmt:=top 69
abbrev JS:Stmt:=top 70
abbrev JT:Stmt:=top 71
abbrev wj:Stmt:=top 72
abbrev AF:Stmt:=top 73
abbrev AG:Stmt:=top 75
abbrev JU:Stmt:=top 76
abbrev wk:Stmt:=top 77
abbrev JV:Stmt:=top 78
abbrev JW:Stmt:=top 79
abbrev JX:Stmt:=top 80
abbrev JY:Stmt:=top 83
abbrev JZ:Stmt:=top 84
abbrev J0:Stmt:=top 85
abbrev AH:Stmt:=top 86
abbrev J5:Stmt:=top 87
abbrev AI:Stmt:=top 88
abbrev AJ:Stmt:=top 89
abbrev J7:Stmt:=top 90
abbrev AK:Stmt:=top 91
abbrev J8:Stmt:=top 92
abbrev J9:Stmt:=top 93
abbrev J_:Stmt:=top 99
abbrev Ka:Stmt:=top 105
abbrev wm:Stmt:=jy (top 12) 0
abbrev Kc:Stmt:=jy (top 13) 0
abbrev Ke:Stmt:=jy (top 97) 0
abbrev Kf:Stmt:=jy (top 98) 0
abbrev Kg:Stmt:=jy (top 98) 1
abbrev Kh:Stmt:=jy (top 98) 2
abbrev Ki:Stmt:=jy (top 98) 3
abbrev Kj:Stmt:=jy (top 98) 4
abbrev Kk:Stmt:=jy (top 98) 5
abbrev Kl:Stmt:=jy (top 98) 6
abbrev Km:Stmt:=jy (top 98) 7
abbrev Kn:Stmt:=jy (top 98) 8
set_option genInjectivity false in
set_option genSizeOf false in
structure Ad where
 (AL AM AN AO AQ wu wx AR AS AU AV AW AX AY AZ A0 kl A1 og oh oj om oq ou ow ox oy oz oA oC A2 A3 A4 wy wz A5 A6 A7 A8 A9 A_ Ba Bb Bc Bd Be Bf Bg Bh oE Bi Bj Bk Bl Bm Bn km Bo Bp kn Bq ko Br Bs Bt sU Bu Bv Bw Bx Bz BA BB BC BD BE BF BG iU lI jq eX Vv oF sV wA Ko wB wC wD wF wG wH wI wJ wK wL wM wN:Addr)
 (BH BI BJ BK BL BM BN BO BP BQ BR BS BU BV BW BX BZ B0 B1 B2 B3 B4 B5 B6 B7 B8 B9 B_ Ca Cb Cc Cd Ce Cf Cg Ci Cj Ck Cm Cn Co Cp Cq Cr Cs Ct Cu Cv Cw oG Cy Cz CA CB CC CD CF CG CH CI CJ CK CL CM CN CO lJ CP CQ CS CT CU CV CW CY CZ C0 C1:FuncData)
noncomputable def oH(t:Ad):List (List Key×Addr×Value):=[([Sum.inl 43],t.wB,.ref t.og),([Sum.inl 45],t.wC,.ref t.oh),([Sum.inl 42],t.wD,.ref t.oj),([Sum.inl 47],t.wF,.ref t.om),([Sum.inl 37],t.wG,.ref t.oq),([Sum.inl 38],t.wH,.ref t.ou),([Sum.inl 124],t.wI,.ref t.ow),([Sum.inl 94],t.wJ,.ref t.ox),([Sum.inl 60,Sum.inl 60],t.wK,.ref t.oy),([Sum.inl 62,Sum.inl 62],t.wL,.ref t.oz),([Sum.inl 60],t.wM,.ref t.oA),([Sum.inl 61,Sum.inl 61],t.wN,.ref t.oC)]
structure Txt(K:ax)(mg:Str->Option Value)(t:Ad):Prop where
 oJ:aM K "ways_from" "ways_from" Jl t.AL t.BH
 sW:mg "ways_from"=some (.ref t.AL)
 wO:aM K "agreed" "agreed" Au t.AM t.BI
 Kp:mg "agreed"=some (.ref t.AM)
 sX:aM K "brought_along" "brought_along" Av t.AN t.BJ
 C2:mg "brought_along"=some (.ref t.AN)
 wQ:aM K "thing_of" "thing_of" Jm t.AO t.BK
 Kq:mg "thing_of"=some (.ref t.AO)
 sY:aM K "is_copy_to_itself" "is_copy_to_itself" Jn t.AQ t.BL
 C3:mg "is_copy_to_itself"=some (.ref t.AQ)
 wR:aM K "holds_behind" "holds_behind" Aw t.wu t.BM
 Ks:mg "holds_behind"=some (.ref t.wu)
 wU:aM K "holds_ways" "holds_ways" Jo t.wx t.BN
 Kt:mg "holds_ways"=some (.ref t.wx)
 wV:aM K "holds_before" "holds_before" Ax t.AR t.BO
 Ku:mg "holds_before"=some (.ref t.AR)
 wW:aM K "root_of" "root_of" Jp t.AS t.BP
 Kv:mg "root_of"=some (.ref t.AS)
 sZ:aM K "with_place" "with_place" Jq t.AU t.BQ
 C4:mg "with_place"=some (.ref t.AU)
 wX:aM K "with_used" "with_used" Jr t.AV t.BR
 Kw:mg "with_used"=some (.ref t.AV)
 mG:aM K "closed_up" "closed_up" Ay t.AW t.BS
 qE:mg "closed_up"=some (.ref t.AW)
 wY:aM K "led_anew" "led_anew" Js t.AX t.BU
 Kx:mg "led_anew"=some (.ref t.AX)
 wZ:aM K "behind_gotos" "behind_gotos" Jt t.AY t.BV
 Ky:mg "behind_gotos"=some (.ref t.AY)
 w6:aM K "led_behind_gotos" "led_behind_gotos" Ju t.AZ t.BW
 Kz:mg "led_behind_gotos"=some (.ref t.AZ)
 w8:aM K "places_led_to" "places_led_to" Jv t.A0 t.BX
 KA:mg "places_led_to"=some (.ref t.A0)
 w9:aM K "better_by_ways" "better_by_ways" sT t.kl t.BZ
 KC:mg "better_by_ways"=some (.ref t.kl)
 mH:aM K "wrapped" "wrapped" Jw t.A1 t.B0
 qF:mg "wrapped"=some (.ref t.A1)
 C5:aM K "plus" "plus" Jx t.og t.B1
 Vw:mg "plus"=some (.ref t.og)
 C6:aM K "minus" "minus" Jy t.oh t.B2
 Vx:mg "minus"=some (.ref t.oh)
 C7:aM K "times" "times" Jz t.oj t.B3
 Vy:mg "times"=some (.ref t.oj)
 C8:aM K "divided" "divided" JA t.om t.B4
 Vz:mg "divided"=some (.ref t.om)
 C9:aM K "rest" "rest" JB t.oq t.B5
 VA:mg "rest"=some (.ref t.oq)
 C_:aM K "both_bits" "both_bits" JC t.ou t.B6
 VB:mg "both_bits"=some (.ref t.ou)
 Dc:aM K "either_bits" "either_bits" JD t.ow t.B7
 VC:mg "either_bits"=some (.ref t.ow)
 Dd:aM K "differing_bits" "differing_bits" JE t.ox t.B8
 VD:mg "differing_bits"=some (.ref t.ox)
 De:aM K "shifted_up" "shifted_up" JF t.oy t.B9
 VE:mg "shifted_up"=some (.ref t.oy)
 Df:aM K "shifted_down" "shifted_down" JG t.oz t.B_
 VF:mg "shifted_down"=some (.ref t.oz)
 Dg:aM K "is_less" "is_less" JH t.oA t.Ca
 VG:mg "is_less"=some (.ref t.oA)
 Dh:aM K "is_same" "is_same" JI t.oC t.Cb
 VH:mg "is_same"=some (.ref t.oC)
 w_:aM K "is_operator" "is_operator" JJ t.A2 t.Cc
 KD:mg "is_operator"=some (.ref t.A2)
 xb:aM K "reckoned" "reckoned" JK t.A3 t.Cd
 KE:mg "reckoned"=some (.ref t.A3)
 s_:aM K "given_number" "given_number" Az t.A4 t.Ce
 Di:mg "given_number"=some (.ref t.A4)
 xf:aM K "known_behind" "known_behind" JL t.wy t.Cf
 KG:mg "known_behind"=some (.ref t.wy)
 xg:aM K "known_ways" "known_ways" JM t.wz t.Cg
 KH:mg "known_ways"=some (.ref t.wz)
 xh:aM K "known_before" "known_before" AA t.A5 t.Ci
 KI:mg "known_before"=some (.ref t.A5)
 qG:aM K "bit_of" "bit_of" JN t.A6 t.Cj
 xj:mg "bit_of"=some (.ref t.A6)
 xk:aM K "bits_used" "bits_used" JO t.A7 t.Ck
 KJ:mg "bits_used"=some (.ref t.A7)
 xl:aM K "needed_at" "needed_at" JP t.A8 t.Cm
 KN:mg "needed_at"=some (.ref t.A8)
 xm:aM K "needed_before" "needed_before" AD t.A9 t.Cn
 KO:mg "needed_before"=some (.ref t.A9)
 dX:aM K "spelled" "spelled" AE t.A_ t.Co
 eZ:mg "spelled"=some (.ref t.A_)
 xn:aM K "lines_of" "lines_of" JQ t.Ba t.Cp
 KP:mg "lines_of"=some (.ref t.Ba)
 tf:aM K "is_letter" "is_letter" JR t.Bb t.Cq
 Dj:mg "is_letter"=some (.ref t.Bb)
 tj:aM K "is_digit" "is_digit" JS t.Bc t.Cr
 Dk:mg "is_digit"=some (.ref t.Bc)
 xo:aM K "is_name_sign" "is_name_sign" JT t.Bd t.Cs
 KQ:mg "is_name_sign"=some (.ref t.Bd)
 qH:aM K "is_name" "is_name" wj t.Be t.Ct
 xp:mg "is_name"=some (.ref t.Be)
 xq:aM K "number_of" "number_of" AF t.Bf t.Cu
 KR:mg "number_of"=some (.ref t.Bf)
 xr:aM K "words_of" "words_of" AG t.Bg t.Cv
 KS:mg "words_of"=some (.ref t.Bg)
 xt:aM K "words_given" "words_given" JU t.Bh t.Cw
 KU:mg "words_given"=some (.ref t.Bh)
 xu:aM K "labels_of" "labels_of" wk t.oE t.oG
 KW:mg "labels_of"=some (.ref t.oE)
 xw:aM K "lines_told" "lines_told" JV t.Bi t.Cy
 KY:mg "lines_told"=some (.ref t.Bi)
 xx:aM K "line_told" "line_told" JW t.Bj t.Cz
 KZ:mg "line_told"=some (.ref t.Bj)
 qI:aM K "told" "told" JX t.Bk t.CA
 xy:mg "told"=some (.ref t.Bk)
 xA:aM K "if_by_known" "if_by_known" JY t.Bl t.CB
 K1:mg "if_by_known"=some (.ref t.Bl)
 xB:aM K "giving_by_known" "giving_by_known" JZ t.Bm t.CC
 K2:mg "giving_by_known"=some (.ref t.Bm)
 xC:aM K "by_known" "by_known" J0 t.Bn t.CD
 K3:mg "by_known"=some (.ref t.Bn)
 xD:aM K "better_by_known" "better_by_known" AH t.km t.CF
 K4:mg "better_by_known"=some (.ref t.km)
 xE:aM K "giving_by_held" "giving_by_held" J5 t.Bo t.CG
 K7:mg "giving_by_held"=some (.ref t.Bo)
 xF:aM K "by_held" "by_held" AI t.Bp t.CH
 K8:mg "by_held"=some (.ref t.Bp)
 xG:aM K "better_by_held" "better_by_held" AJ t.kn t.CI
 K9:mg "better_by_held"=some (.ref t.kn)
 xH:aM K "by_needed" "by_needed" J7 t.Bq t.CJ
 K_:mg "by_needed"=some (.ref t.Bq)
 xI:aM K "better_by_needed" "better_by_needed" AK t.ko t.CK
 La:mg "better_by_needed"=some (.ref t.ko)
 xJ:aM K "better_once" "better_once" J8 t.Br t.CL
 Lb:mg "better_once"=some (.ref t.Br)
 xK:aM K "made_better" "made_better" J9 t.Bs t.CM
 Lc:mg "made_better"=some (.ref t.Bs)
 xM:aM K "read_program" "read_program" J_ t.Bt t.CN
 Ld:mg "read_program"=some (.ref t.Bt)
 Dl:aM K "bt_better" "bt_better" Ka t.sU t.CO
 Le:mg "bt_better"=some (.ref t.sU)
 Dm:aM K "__init__" "Program.__init__" Kc t.Bv t.CP
 Dq:aM K "__init__" "WrongLine.__init__" Ke t.Bw t.CQ
 Dr:aM K "__init__" "Reading.__init__" Kf t.Bx t.CS
 Ds:aM K "take_line" "Reading.take_line" Kg t.Bz t.CT
 Lf:jV K t.eX "take_line" t.Bz
 Dt:aM K "take_label" "Reading.take_label" Kh t.BA t.CU
 Lg:jV K t.eX "take_label" t.BA
 Du:aM K "take_instruction" "Reading.take_instruction" Ki t.BB t.CV
 Lh:jV K t.eX "take_instruction" t.BB
 Dv:aM K "instruction_of" "Reading.instruction_of" Kj t.BC t.CW
 Li:jV K t.eX "instruction_of" t.BC
 Dw:aM K "giving_of" "Reading.giving_of" Kk t.BD t.CY
 Lj:jV K t.eX "giving_of" t.BD
 Dx:aM K "variable_of" "Reading.variable_of" Kl t.BE t.CZ
 oK:jV K t.eX "variable_of" t.BE
 Dy:aM K "jump_to" "Reading.jump_to" Km t.BF t.C0
 Dz:jV K t.eX "jump_to" t.BF
 DA:aM K "find_places" "Reading.find_places" Kn t.BG t.C1
 Lk:jV K t.eX "find_places" t.BG
 mI:∃(oc:Value)(od:Option Addr)(kV doc pm:Value)(an:Option Addr)(cdv ct:Value)(osl:Array (Option Value)),t.lJ=fnOf "__init__" "Instruction.__init__" (iR wm) (gK wm) (aC wm) (.ref t.Ko) kV doc pm an cdv ct/\K.lookup t.Bu=some ⟨oc,od,.func t.lJ,osl⟩/\codeIn K cdv "Instruction.__init__"=true
 oM:∃(o:Obj)(n:Nat),K.lookup t.Ko=some o/\o.data=.seq #[.none,.none,.none,.none] n
 ic:mg "Instruction"=some (.ref t.iU)
 cS:jj K t.iU
 ie:Mk K t.iU t.Bu
 bH:eE K t.iU "kind"
 fO:eE K t.iU "used"
 cO:eE K t.iU "given"
 xN:eE K t.iU "number"
 mJ:eE K t.iU "operator"
 fv:eE K t.iU "place"
 DB:mg "Program"=some (.ref t.lI)
 fz:jj K t.lI
 DC:Mk K t.lI t.Bv
 kr:eE K t.lI "instructions"
 lK:eE K t.lI "names"
 ku:mg "WrongLine"=some (.ref t.jq)
 Ll:mg "Reading"=some (.ref t.eX)
 bB:jj K t.eX
 Lm:Mk K t.eX t.Bx
 iV:eE K t.eX "line"
 qJ:eE K t.eX "instructions"
 lL:eE K t.eX "variables"
 qK:eE K t.eX "labels"
 xO:eE K t.eX "jumps"
 xc:XC K t.jq t.Vv t.Bw
 Lo:∃tk,mg "ALL_NUMBERS"=some (.int (18446744073709551616) tk)
 tm:∃tk,mg "NUMBERS_BELOW_ZERO"=some (.int (9223372036854775808) tk)
 DD:∃tk,mg "SHIFT_BITS"=some (.int (63) tk)
 DE:mg "OPERATORS"=some (.ref t.oF)
 tw:∃tk,mg "NEWLINE"=some (.int (10) tk)
 Lp:∃tk,mg "SPACE"=some (.int (32) tk)
 Lq:mg "BLANKS"=some (.ref t.sV)
 DF:∃tk,mg "DIGIT_ZERO"=some (.int (48) tk)
 Lr:∃tk,mg "DIGIT_NINE"=some (.int (57) tk)
 Ls:∃tk,mg "LETTER_A"=some (.int (97) tk)
 Lu:∃tk,mg "LETTER_Z"=some (.int (122) tk)
 Lv:∃tk,mg "UNDERSCORE"=some (.int (95) tk)
 Lw:∃tk,mg "MINUS"=some (.int (45) tk)
 Lx:mg "NOT_NAMES"=some (.ref t.wA)
 Ly:∃tk,mg "LONGEST_NAME"=some (.int (16) tk)
 Lz:∃tk,mg "MOST_DIGITS"=some (.int (19) tk)
 LB:∃tk,mg "TIMES"=some (.int (64) tk)
 LC:∃tk,mg "MOST_INSTRUCTIONS"=some (.int (256) tk)
 LD:∃tk,mg "MOST_VARIABLES"=some (.int (64) tk)
 LF:∃tk,mg "WRONG_LINE"=some (.int (-100) tk)
 LG:∃tk,mg "NOT_IN_RANGE"=some (.int (-2) tk)
 LH:∃tk,mg "TOO_MANY"=some (.int (-1) tk)
 LJ:∃tk,mg "HIGHEST_MOST"=some (.int (65536) tk)
 LK:∀H:Hp,a8 K H t.sV [.int 32,.int 9,.int 13]
 DG:∀H:Hp,a8 K H t.wA [.str "label",.str "goto",.str "if",.str "print",.str "read",.str "end"]
 tab:∀(P:Program)(w:World),y2 P w K t.oF (oH t)
 LM:keepIn K (.ref t.og)=true/\keepIn K (.ref t.oh)=true/\keepIn K (.ref t.oj)=true/\keepIn K (.ref t.om)=true/\keepIn K (.ref t.oq)=true/\keepIn K (.ref t.ou)=true/\keepIn K (.ref t.ow)=true/\keepIn K (.ref t.ox)=true/\keepIn K (.ref t.oy)=true/\keepIn K (.ref t.oz)=true/\keepIn K (.ref t.oA)=true/\keepIn K (.ref t.oC)=true
 DH:mg "list"=none
 xP:mg "tuple"=none
 DI:mg "all"=none
 LO:mg "sorted"=none
 LP:mg "dict"=none
 qL:mg "range"=none
 c_:mg "len"=none
 tz:mg "abs"=none
 LQ:mg "set"=none
 tD:mg "zip"=none
 LR:mg "ord"=none
 xQ:mg "enumerate"=none
 LS:mg "str"=none
section
variable{K:ax}{mg:Str->Option Value}{t:Ad}
theorem xR{α:Type}{l:List α}{n:Nat}(h:l.length=n+1):∃a r,l=a::r/\r.length=n:=by
 cases l with
 |nil=>cases h
 |cons a r=>exact⟨a,r,rfl,Nat.succ.inj h⟩
theorem LU{α:Type}{l:List α}(h:l.length=1):∃a,l=[a]:=by obtain⟨a,r,rfl,h'⟩:=xR h;cases ab5 h';exact⟨a,rfl⟩
theorem LV{α:Type}{l:List α}(h:l.length=2):∃a b,l=[a,b]:=by obtain⟨a,r,rfl,h'⟩:=xR h;obtain⟨b,rfl⟩:=LU h';exact⟨a,b,rfl⟩
theorem DJ{α:Type}{l:List α}(h:l.length=3):∃a b c,l=[a,b,c]:=by obtain⟨a,r,rfl,h'⟩:=xR h;obtain⟨b,c,rfl⟩:=LV h';exact⟨a,b,c,rfl⟩
theorem VI{α:Type}{l:List α}(h:l.length=4):∃a b c d,l=[a,b,c,d]:=by obtain⟨a,r,rfl,h'⟩:=xR h;obtain⟨b,c,d,rfl⟩:=DJ h';exact⟨a,b,c,d,rfl⟩
theorem cG{x q:Str}{st:Stmt}{f:Addr}{d:FuncData}{p0:Str}(F:aM K x q st f d)(h:∀(k c m:Value)(n:Option Addr)(v e u0:Value),bindArgs (fnOf x q (iR st) (gK st) (aC st) .none k c m n v e) ⟨[u0],[]⟩=pure [(p0,u0)]:=by intros;rfl):Binds K d [p0] []:=F.binds λk c m n v e us hl=>by obtain⟨u0,rfl⟩:=LU hl;exact h k c m n v e u0
theorem bZ{x q:Str}{st:Stmt}{f:Addr}{d:FuncData}{p0 p1:Str}(F:aM K x q st f d)(h:∀(k c m:Value)(n:Option Addr)(v e u0 u1:Value),bindArgs (fnOf x q (iR st) (gK st) (aC st) .none k c m n v e) ⟨[u0,u1],[]⟩=pure [(p0,u0),(p1,u1)]:=by intros;rfl):Binds K d [p0,p1] []:=F.binds λk c m n v e us hl=>by obtain⟨u0,u1,rfl⟩:=LV hl;exact h k c m n v e u0 u1
theorem oP{x q:Str}{st:Stmt}{f:Addr}{d:FuncData}{p0 p1 p2:Str}(F:aM K x q st f d)(h:∀(k c m:Value)(n:Option Addr)(v e u0 u1 u2:Value),bindArgs (fnOf x q (iR st) (gK st) (aC st) .none k c m n v e) ⟨[u0,u1,u2],[]⟩=pure [(p0,u0),(p1,u1),(p2,u2)]:=by intros;rfl):Binds K d [p0,p1,p2] []:=F.binds λk c m n v e us hl=>by obtain⟨u0,u1,u2,rfl⟩:=DJ hl;exact h k c m n v e u0 u1 u2
theorem VJ{x q:Str}{st:Stmt}{f:Addr}{d:FuncData}{p0 p1 p2 p3:Str}(F:aM K x q st f d)(h:∀(k c m:Value)(n:Option Addr)(v e u0 u1 u2 u3:Value),bindArgs (fnOf x q (iR st) (gK st) (aC st) .none k c m n v e) ⟨[u0,u1,u2,u3],[]⟩=pure [(p0,u0),(p1,u1),(p2,u2),(p3,u3)]:=by intros;rfl):Binds K d [p0,p1,p2,p3] []:=F.binds λk c m n v e us hl=>by obtain⟨u0,u1,u2,u3,rfl⟩:=VI hl;exact h k c m n v e u0 u1 u2 u3
theorem xS(T:Txt K mg t):Binds K t.BH ["place","instruction"] []:=bZ T.oJ
theorem VL(T:Txt K mg t):Binds K t.BI ["before","brought"] []:=bZ T.wO
theorem LW(T:Txt K mg t):Binds K t.BJ ["instructions","first","behind","ways"] []:=VJ T.sX
theorem VM(T:Txt K mg t):Binds K t.BK ["instruction"] []:=cG T.wQ
theorem LX(T:Txt K mg t):Binds K t.BL ["instruction"] []:=cG T.sY
theorem VN(T:Txt K mg t):Binds K t.BM ["instruction","held"] []:=bZ T.wR
theorem VO(T:Txt K mg t):Binds K t.BN ["place","instruction","held"] []:=oP T.wU
theorem VP(T:Txt K mg t):Binds K t.BO ["program"] []:=cG T.wV
theorem VQ(T:Txt K mg t):Binds K t.BP ["variable","held"] []:=bZ T.wW
theorem LY(T:Txt K mg t):Binds K t.BQ ["instruction","place"] []:=bZ T.sZ
theorem VR(T:Txt K mg t):Binds K t.BR ["instruction","used"] []:=bZ T.wX
theorem tE(T:Txt K mg t):Binds K t.BS ["instructions"] []:=cG T.mG
theorem VS(T:Txt K mg t):Binds K t.BU ["instruction","moved"] []:=bZ T.wY
theorem VT(T:Txt K mg t):Binds K t.BV ["place","instructions"] []:=bZ T.wZ
theorem VU(T:Txt K mg t):Binds K t.BW ["instruction","instructions"] []:=bZ T.w6
theorem VW(T:Txt K mg t):Binds K t.BX ["instructions"] []:=cG T.w8
theorem VX(T:Txt K mg t):Binds K t.BZ ["program"] []:=cG T.w9
theorem tF(T:Txt K mg t):Binds K t.B0 ["number"] []:=cG T.mH
theorem VY(T:Txt K mg t):Binds K t.B1 ["y","z"] []:=bZ T.C5
theorem VZ(T:Txt K mg t):Binds K t.B2 ["y","z"] []:=bZ T.C6
theorem V0(T:Txt K mg t):Binds K t.B3 ["y","z"] []:=bZ T.C7
theorem V1(T:Txt K mg t):Binds K t.B4 ["y","z"] []:=bZ T.C8
theorem V2(T:Txt K mg t):Binds K t.B5 ["y","z"] []:=bZ T.C9
theorem V3(T:Txt K mg t):Binds K t.B6 ["y","z"] []:=bZ T.C_
theorem V4(T:Txt K mg t):Binds K t.B7 ["y","z"] []:=bZ T.Dc
theorem V5(T:Txt K mg t):Binds K t.B8 ["y","z"] []:=bZ T.Dd
theorem V6(T:Txt K mg t):Binds K t.B9 ["y","z"] []:=bZ T.De
theorem V7(T:Txt K mg t):Binds K t.B_ ["y","z"] []:=bZ T.Df
theorem V8(T:Txt K mg t):Binds K t.Ca ["y","z"] []:=bZ T.Dg
theorem V9(T:Txt K mg t):Binds K t.Cb ["y","z"] []:=bZ T.Dh
theorem V_(T:Txt K mg t):Binds K t.Cc ["word"] []:=cG T.w_
theorem Wa(T:Txt K mg t):Binds K t.Cd ["operator","y","z"] []:=oP T.xb
theorem LZ(T:Txt K mg t):Binds K t.Ce ["instruction","known"] []:=bZ T.s_
theorem Wb(T:Txt K mg t):Binds K t.Cf ["instruction","known"] []:=bZ T.xf
theorem Wc(T:Txt K mg t):Binds K t.Cg ["place","instruction","known"] []:=oP T.xg
theorem Wd(T:Txt K mg t):Binds K t.Ci ["program"] []:=cG T.xh
theorem DK(T:Txt K mg t):Binds K t.Cj ["variable"] []:=cG T.qG
theorem We(T:Txt K mg t):Binds K t.Ck ["instruction"] []:=cG T.xk
theorem Wg(T:Txt K mg t):Binds K t.Cm ["place","instruction","needed"] []:=oP T.xl
theorem Wh(T:Txt K mg t):Binds K t.Cn ["program"] []:=cG T.xm
theorem fA(T:Txt K mg t):Binds K t.Co ["text"] []:=cG T.dX
theorem Wi(T:Txt K mg t):Binds K t.Cp ["text"] []:=cG T.xn
theorem L5(T:Txt K mg t):Binds K t.Cq ["sign"] []:=cG T.tf
theorem L6(T:Txt K mg t):Binds K t.Cr ["sign"] []:=cG T.tj
theorem Wj(T:Txt K mg t):Binds K t.Cs ["sign"] []:=cG T.xo
theorem DL(T:Txt K mg t):Binds K t.Ct ["word"] []:=cG T.qH
theorem Wk(T:Txt K mg t):Binds K t.Cu ["word"] []:=cG T.xq
theorem Wl(T:Txt K mg t):Binds K t.Cv ["instruction","names","labels"] []:=oP T.xr
theorem Wm(T:Txt K mg t):Binds K t.Cw ["instruction","used"] []:=bZ T.xt
theorem Wn(T:Txt K mg t):Binds K t.oG ["instructions"] []:=cG T.xu
theorem Wo(T:Txt K mg t):Binds K t.Cy ["program"] []:=cG T.xw
theorem Wp(T:Txt K mg t):Binds K t.Cz ["words"] []:=cG T.xx
theorem DM(T:Txt K mg t):Binds K t.CA ["program"] []:=cG T.qI
theorem Wq(T:Txt K mg t):Binds K t.CB ["instruction","known"] []:=bZ T.xA
theorem Wr(T:Txt K mg t):Binds K t.CC ["instruction","known"] []:=bZ T.xB
theorem Ws(T:Txt K mg t):Binds K t.CD ["instruction","known"] []:=bZ T.xC
theorem Wt(T:Txt K mg t):Binds K t.CF ["program"] []:=cG T.xD
theorem Wu(T:Txt K mg t):Binds K t.CG ["instruction","held"] []:=bZ T.xE
theorem Wv(T:Txt K mg t):Binds K t.CH ["instruction","held"] []:=bZ T.xF
theorem Ww(T:Txt K mg t):Binds K t.CI ["program"] []:=cG T.xG
theorem Wx(T:Txt K mg t):Binds K t.CJ ["instruction","needed_behind"] []:=bZ T.xH
theorem Wy(T:Txt K mg t):Binds K t.CK ["program"] []:=cG T.xI
theorem Wz(T:Txt K mg t):Binds K t.CL ["program"] []:=cG T.xJ
theorem WA(T:Txt K mg t):Binds K t.CM ["program"] []:=cG T.xK
theorem WB(T:Txt K mg t):Binds K t.CN ["text"] []:=cG T.xM
theorem WC(T:Txt K mg t):Binds K t.CO ["most","text"] []:=bZ T.Dl
theorem L7(T:Txt K mg t):Binds K t.CP ["self","instructions","names"] []:=oP T.Dm
theorem mK(T:Txt K mg t):Binds K t.CQ ["self","line"] []:=bZ T.Dq
theorem WD(T:Txt K mg t):Binds K t.CS ["self"] []:=cG T.Dr
theorem WE(T:Txt K mg t):Binds K t.CT ["self","words"] []:=bZ T.Ds
theorem WG(T:Txt K mg t):Binds K t.CU ["self","word"] []:=bZ T.Dt
theorem WH(T:Txt K mg t):Binds K t.CV ["self","words"] []:=bZ T.Du
theorem WJ(T:Txt K mg t):Binds K t.CW ["self","words"] []:=bZ T.Dv
theorem WK(T:Txt K mg t):Binds K t.CY ["self","words"] []:=bZ T.Dw
theorem qM(T:Txt K mg t):Binds K t.CZ ["self","word"] []:=bZ T.Dx
theorem L8(T:Txt K mg t):Binds K t.C0 ["self","label","instruction"] []:=oP T.Dy
theorem WL(T:Txt K mg t):Binds K t.C1 ["self"] []:=cG T.DA
end
theorem aS{N P:List Str}{sc:Scope}(a:sc.kind=.function:=by rfl)(b:sc.isCoroutine=false:=by rfl)(c:sc.isGenerator=false:=by rfl)(d:N.Nodup:=by decide+kernel)(e:N.take P.length=P:=by rfl)(f:∀x∈P,sc.names.lookup x=some .local\/sc.names.lookup x=some .cell:=by decide+kernel)(g:∀y∈sc.names,y.2≠ .free:=by decide+kernel):aQ N P sc:=⟨a,b,c,d,e,f,g⟩
theorem cU{X:Cx}{x:Str}{n:Int}{pos:Pos}(h:∃tk,X.mg x=some (.int n tk))(hg:Gl X x)(hd:(x==("__debug__" :Str))=false:=by decide):PE X (.Name x pos) (tC (.int n)):=let ⟨tk,e⟩:=h
 iH hg e ⟨tk,rfl⟩ hd
end My
set_option maxHeartbeats 1000000
namespace My
open PySem L2
inductive ig(k:Nat)(vs:List V)(H:Hp)(Q:VK)(e0:XK):Prop
 |mk y z:vs=[.int y,.int z]->aV y->aV z->Q (.int (reckon k y z)) H->ig k vs H Q e0
inductive L9(vs:List V)(H:Hp)(Q:VK)(e0:XK):Prop
 |mk n:vs=[.int n]->Q (.int (wrap n)) H->L9 vs H Q e0
section
variable{P:Program}{w:World}{K:ax}{mg:Str->Option Value}{base:Heap}{t:Ad}
theorem WM:aQ ["number"] ["number"] (aC Jw):=aS
theorem tG(T:Txt K mg t):aG P w K mg base aR 1 t.A1 t.B0 ["number"] L9:=by
 refine T.mH.ok WM (λvs H Q E h=>?_) (λ_ A _ s H vs Q E hr h=>?_)
 ·obtain⟨n,rfl,_⟩:=h;rfl
 ·obtain⟨n,rfl,k⟩:=h;refine⟨_,ak (aB (bU rZ (bU GK (bU ji (pv 0) (cU T.tm rfl)) (cU T.Lo rfl)) (cU T.tm rfl))),?_⟩;refine⟨_,rfl,_,_,rfl,rfl,_,_,rfl,rfl,?_,_,_,rfl,rfl,?_⟩
  ·show(0:Int)<18446744073709551616
   decide
  ·exact k
theorem WN:aQ ["y","z"] ["y","z"] (aC Jx):=aS
theorem WO(T:Txt K mg t):aG P w K mg base aR 2 t.og t.B1 ["y","z"] (ig 0):=by
 refine T.C5.ok WN (λvs H Q E h=>?_) (λ_ A _ s H vs Q E hr h=>?_)
 ·obtain⟨y,z,rfl,_⟩:=h;rfl
 ·obtain⟨y,z,rfl,hy,hz,k⟩:=h;refine⟨_,ak (aB (aP (tG T) hr rfl T.qF T.mH.kp (tF T) .nil aH (aa (bU ji (pv 0) (pv 1)) af))),?_⟩;exact⟨_,rfl,_,rfl,_,_,rfl,rfl,_,rfl,k⟩
theorem WQ:aQ ["y","z"] ["y","z"] (aC Jy):=aS
theorem WR(T:Txt K mg t):aG P w K mg base aR 2 t.oh t.B2 ["y","z"] (ig 1):=by
 refine T.C6.ok WQ (λvs H Q E h=>?_) (λ_ A _ s H vs Q E hr h=>?_)
 ·obtain⟨y,z,rfl,_⟩:=h;rfl
 ·obtain⟨y,z,rfl,hy,hz,k⟩:=h;refine⟨_,ak (aB (aP (tG T) hr rfl T.qF T.mH.kp (tF T) .nil aH (aa (bU rZ (pv 0) (pv 1)) af))),?_⟩;exact⟨_,rfl,_,rfl,_,_,rfl,rfl,_,rfl,k⟩
theorem WS:aQ ["y","z"] ["y","z"] (aC Jz):=aS
theorem WT(T:Txt K mg t):aG P w K mg base aR 2 t.oj t.B3 ["y","z"] (ig 2):=by
 refine T.C7.ok WS (λvs H Q E h=>?_) (λ_ A _ s H vs Q E hr h=>?_)
 ·obtain⟨y,z,rfl,_⟩:=h;rfl
 ·obtain⟨y,z,rfl,hy,hz,k⟩:=h;refine⟨_,ak (aB (aP (tG T) hr rfl T.qF T.mH.kp (tF T) .nil aH (aa (bU GJ (pv 0) (pv 1)) af))),?_⟩;have:=hy.1;have:=hy.2;exact⟨_,rfl,_,rfl,_,_,rfl,rfl,.inl ⟨by omega,by omega⟩,_,rfl,k⟩
theorem L_:aQ ["y","z","size"] ["y","z"] (aC JA):=aS
theorem WU(T:Txt K mg t):aG P w K mg base aR 2 t.om t.B4 ["y","z"] (ig 3):=by
 refine T.C8.ok L_ (λvs H Q E h=>?_) (λ_ A _ s H vs Q E hr h=>?_)
 ·obtain⟨y,z,rfl,_⟩:=h;rfl
 ·obtain⟨y,z,rfl,hy,hz,k⟩:=h;refine⟨_,aq (aU (aX bP (pv 1) aL (aY _)) (ak (aB aL)) aW) (aq (aZ (i:=2) L_.nd rfl (Or.inl rfl) (bU Vf (cp vA rfl T.tz rfl (aa (pv 0) af)) (cp vA rfl T.tz rfl (aa (pv 1) af)))) (ak (aB (aP (tG T) hr rfl T.qF T.mH.kp (tF T) .nil aH (aa (iJ (aX bP (qm mr (pv 0) aL (aY _)) (qm mr (pv 1) aL (aY _)) (aY _)) (pv 2) (mq nL (pv 2))) af))))),?_⟩
  refine⟨_,rfl,rfl,_,rfl,?_⟩;refine dP (λc=>?_) (λc=>?_)
  ·have e:z=0:=by simpa using c
   have e2:reckon 3 y z=0:=ai e;rw[e2]at k;exact k
  ·have e:z≠0:=by simpa using c
   have b1:=hz.1;have b2:=hz.2;refine⟨_,rfl,_,rfl,_,rfl,_,rfl,_,_,rfl,rfl,?_,?_⟩
   ·show 0<(if z<0 then-z else z)/\(if z<0 then-z else z)<=9223372036854775808;split<;>omega
   ·have e2:reckon 3 y z=wrap (Int.tdiv y z):=ah e;rw[e2,Vr y z e]at k;refine⟨_,rfl,_,_,rfl,rfl,_,rfl,_,_,rfl,rfl,rfl,_,rfl,?_⟩;refine dP (λc=>?_) (λc=>?_)
    ·rw[ai (by simpa using c)]at k;exact⟨_,rfl,_,rfl,k⟩
    ·rw[ah (by simpa using c)]at k;exact⟨_,rfl,_,rfl,_,rfl,k⟩
theorem Ma:aQ ["y","z","size"] ["y","z"] (aC JB):=aS
theorem WV(T:Txt K mg t):aG P w K mg base aR 1 t.oq t.B5 ["y","z"] (ig 4):=by
 refine T.C9.ok Ma (λvs H Q E h=>?_) (λ_ A _ s H vs Q E hr h=>?_)
 ·obtain⟨y,z,rfl,_⟩:=h;rfl
 ·obtain⟨y,z,rfl,hy,hz,k⟩:=h;refine⟨_,aq (aU (aX bP (pv 1) aL (aY _)) (ak (aB (pv 0))) aW) (aq (aZ (i:=2) Ma.nd rfl (Or.inl rfl) (bU GK (cp vA rfl T.tz rfl (aa (pv 0) af)) (cp vA rfl T.tz rfl (aa (pv 1) af)))) (ak (aB (iJ (aX mr (pv 0) aL (aY _)) (mq nL (pv 2)) (pv 2))))),?_⟩
  refine⟨_,rfl,rfl,_,rfl,?_⟩;refine dP (λc=>?_) (λc=>?_)
  ·have e:z=0:=by simpa using c
   have e2:reckon 4 y z=y:=ai e;rw[e2]at k;exact⟨_,rfl,k⟩
  ·have e:z≠0:=by simpa using c
   refine⟨_,rfl,_,rfl,_,rfl,_,rfl,_,_,rfl,rfl,?_,?_⟩
   ·show 0<(if z<0 then-z else z);split<;>omega
   ·have e2:reckon 4 y z=Int.tmod y z:=ah e;rw[e2,Jh y z]at k;refine⟨_,rfl,_,_,rfl,rfl,_,rfl,?_⟩;refine dP (λc=>?_) (λc=>?_)
    ·rw[ai (by simpa using c)]at k;exact⟨_,rfl,_,rfl,k⟩
    ·rw[ah (by simpa using c)]at k;exact⟨_,rfl,k⟩
theorem WW:aQ ["y","z"] ["y","z"] (aC JC):=aS
theorem WX(T:Txt K mg t):aG P w K mg base aR 1 t.ou t.B6 ["y","z"] (ig 5):=by
 refine T.C_.ok WW (λvs H Q E h=>?_) (λ_ A _ s H vs Q E hr h=>?_)
 ·obtain⟨y,z,rfl,_⟩:=h;rfl
 ·obtain⟨y,z,rfl,hy,hz,k⟩:=h;refine⟨_,ak (aB (bU r_ (pv 0) (pv 1))),?_⟩;refine⟨_,rfl,_,rfl,_,_,rfl,rfl,?_⟩;show Q (.int (Builtin.bitAnd y z)) H;rw[<-FK hy hz,<-Ji];exact k
theorem WY:aQ ["y","z"] ["y","z"] (aC JD):=aS
theorem WZ(T:Txt K mg t):aG P w K mg base aR 1 t.ow t.B7 ["y","z"] (ig 6):=by
 refine T.Dc.ok WY (λvs H Q E h=>?_) (λ_ A _ s H vs Q E hr h=>?_)
 ·obtain⟨y,z,rfl,_⟩:=h;rfl
 ·obtain⟨y,z,rfl,hy,hz,k⟩:=h;refine⟨_,ak (aB (bU vw (pv 0) (pv 1))),?_⟩;refine⟨_,rfl,_,rfl,_,_,rfl,rfl,?_⟩;show Q (.int (Builtin.bitOr y z)) H;rw[<-Rm hy hz,<-Jj];exact k
theorem W0:aQ ["y","z"] ["y","z"] (aC JE):=aS
theorem W1(T:Txt K mg t):aG P w K mg base aR 1 t.ox t.B8 ["y","z"] (ig 7):=by
 refine T.Dd.ok W0 (λvs H Q E h=>?_) (λ_ A _ s H vs Q E hr h=>?_)
 ·obtain⟨y,z,rfl,_⟩:=h;rfl
 ·obtain⟨y,z,rfl,hy,hz,k⟩:=h;refine⟨_,ak (aB (bU SW (pv 0) (pv 1))),?_⟩;refine⟨_,rfl,_,rfl,_,_,rfl,rfl,?_⟩;show Q (.int (Builtin.bitXor y z)) H;rw[<-abY hy hz,<-Jk];exact k
theorem W2:aQ ["y","z"] ["y","z"] (aC JF):=aS
theorem W3(T:Txt K mg t):aG P w K mg base aR 2 t.oy t.B9 ["y","z"] (ig 8):=by
 refine T.De.ok W2 (λvs H Q E h=>?_) (λ_ A _ s H vs Q E hr h=>?_)
 ·obtain⟨y,z,rfl,_⟩:=h;rfl
 ·obtain⟨y,z,rfl,hy,hz,k⟩:=h;refine⟨_,ak (aB (aP (tG T) hr rfl T.qF T.mH.kp (tF T) .nil aH (aa (bU GL (pv 0) (bU r_ (pv 1) (cU T.DD rfl))) af))),?_⟩;have e:Builtin.bitAnd z 63=z%64:=PyProof.Rows.bitAnd_m6 z;have b1:=hy.1;have b2:=hy.2;refine⟨_,rfl,_,rfl,_,_,rfl,rfl,_,_,rfl,rfl,?_,_,rfl,?_⟩
  ·show 0<=Builtin.bitAnd z 63/\Builtin.bitAnd z 63<=1000000/\y.natAbs<2^64;rw[e,sS];omega
  ·show Q (.int (wrap (y*2^(Builtin.bitAnd z 63).toNat))) H;rw[e,<-Jg];exact k
theorem W4:aQ ["y","z"] ["y","z"] (aC JG):=aS
theorem W5(T:Txt K mg t):aG P w K mg base aR 1 t.oz t.B_ ["y","z"] (ig 9):=by
 refine T.Df.ok W4 (λvs H Q E h=>?_) (λ_ A _ s H vs Q E hr h=>?_)
 ·obtain⟨y,z,rfl,_⟩:=h;rfl
 ·obtain⟨y,z,rfl,hy,hz,k⟩:=h;refine⟨_,ak (aB (bU SV (pv 0) (bU r_ (pv 1) (cU T.DD rfl)))),?_⟩;have e:Builtin.bitAnd z 63=z%64:=PyProof.Rows.bitAnd_m6 z;refine⟨_,rfl,_,rfl,_,_,rfl,rfl,_,_,rfl,rfl,?_,?_⟩
  ·show 0<=Builtin.bitAnd z 63;rw[e];omega
  ·show Q (.int (y/2^(Builtin.bitAnd z 63).toNat)) H;rw[e,<-Jg];have e2:reckon 9 y z=Int.fdiv y (2^(bits z%64)):=rfl;rw[e2,FT y (zG _)]at k;exact k
theorem W6:aQ ["y","z"] ["y","z"] (aC JH):=aS
theorem W7(T:Txt K mg t):aG P w K mg base aR 1 t.oA t.Ca ["y","z"] (ig 10):=by
 refine T.Dg.ok W6 (λvs H Q E h=>?_) (λ_ A _ s H vs Q E hr h=>?_)
 ·obtain⟨y,z,rfl,_⟩:=h;rfl
 ·obtain⟨y,z,rfl,hy,hz,k⟩:=h;refine⟨_,ak (aB (iJ (aX mr (pv 0) (pv 1) (aY _)) aL aL)),?_⟩;refine⟨_,rfl,_,rfl,_,_,rfl,rfl,_,rfl,?_⟩;have e2:reckon 10 y z=if decide (y<z)=true then 1 else 0:=rfl
  rw[e2]at k;refine dP (λc=>?_) (λc=>?_)
  ·rw[ai c]at k;exact k
  ·rw[ah c]at k;exact k
theorem W8:aQ ["y","z"] ["y","z"] (aC JI):=aS
theorem W9(T:Txt K mg t):aG P w K mg base aR 1 t.oC t.Cb ["y","z"] (ig 11):=by
 refine T.Dh.ok W8 (λvs H Q E h=>?_) (λ_ A _ s H vs Q E hr h=>?_)
 ·obtain⟨y,z,rfl,_⟩:=h;rfl
 ·obtain⟨y,z,rfl,hy,hz,k⟩:=h;refine⟨_,ak (aB (iJ (aX bP (pv 0) (pv 1) (aY _)) aL aL)),?_⟩;refine⟨_,rfl,_,rfl,rfl,_,rfl,?_⟩;have e2:reckon 11 y z=if (y==z)=true then 1 else 0:=rfl
  rw[e2]at k;refine dP (λc=>?_) (λc=>?_)
  ·rw[ai (by simpa using c)]at k;exact k
  ·rw[ah (by simpa using c)]at k;exact k
end
end My
namespace My
open PySem L2
inductive xT(f:Nat->Bool)(vs:List V)(H:Hp)(Q:VK)(e0:XK):Prop
 |mk (c:Nat):vs=[.int (c:Int)]->Q (.bl (f c)) H->xT f vs H Q e0
def tH(c:Nat):Bool:=letter c||(digit c||c==95)
section
variable{P:Program}{w:World}{K:ax}{mg:Str->Option Value}{base:Heap}{t:Ad}
theorem W_:aQ ["sign"] ["sign"] (aC JR):=aS
theorem Mb(T:Txt K mg t):aG P w K mg base aR 1 t.Bb t.Cq ["sign"] (xT letter):=by
 refine T.tf.ok W_ (λvs H Q E h=>?_) (λ_ A _ s H vs Q E hr h=>?_)
 ·obtain⟨c,rfl,_⟩:=h;rfl
 ·obtain⟨c,rfl,k⟩:=h;refine⟨_,ak (aB (GY nM nM (cU T.Ls rfl) (pv 0) (cU T.Lu rfl))),?_⟩;refine⟨_,rfl,_,_,rfl,rfl,_,rfl,?_⟩;refine dP (λc1=>?_) (λc1=>?_)
  ·refine⟨_,_,rfl,rfl,?_⟩;have c2:(97:Int)<=c:=by simpa using c1
   have e:letter c=decide ((c:Int)<=122):=by unfold letter;rw[bx (show 97<=c by omega),Ga];exact nA.mpr (by omega)
   rw[e]at k;exact k
  ·have c2:¬(97:Int)<=c:=by simpa using c1
   have e:letter c=false:=by unfold letter;rw[a9 (show ¬97<=c by omega),y8]
   rw[e]at k;exact k
theorem Xa:aQ ["sign"] ["sign"] (aC JS):=aS
theorem Mc(T:Txt K mg t):aG P w K mg base aR 1 t.Bc t.Cr ["sign"] (xT digit):=by
 refine T.tj.ok Xa (λvs H Q E h=>?_) (λ_ A _ s H vs Q E hr h=>?_)
 ·obtain⟨c,rfl,_⟩:=h;rfl
 ·obtain⟨c,rfl,k⟩:=h;refine⟨_,ak (aB (GY nM nM (cU T.DF rfl) (pv 0) (cU T.Lr rfl))),?_⟩;refine⟨_,rfl,_,_,rfl,rfl,_,rfl,?_⟩;refine dP (λc1=>?_) (λc1=>?_)
  ·refine⟨_,_,rfl,rfl,?_⟩;have c2:(48:Int)<=c:=by simpa using c1
   have e:digit c=decide ((c:Int)<=57):=by unfold digit;rw[bx (show 48<=c by omega),Ga];exact nA.mpr (by omega)
   rw[e]at k;exact k
  ·have c2:¬(48:Int)<=c:=by simpa using c1
   have e:digit c=false:=by unfold digit;rw[a9 (show ¬48<=c by omega),y8]
   rw[e]at k;exact k
theorem Xb:aQ ["sign"] ["sign"] (aC JT):=aS
theorem Xc(T:Txt K mg t):aG P w K mg base aR 2 t.Bd t.Cs ["sign"] (xT tH):=by
 refine T.xo.ok Xb (λvs H Q E h=>?_) (λ_ A _ s H vs Q E hr h=>?_)
 ·obtain⟨c,rfl,_⟩:=h;rfl
 ·obtain⟨c,rfl,k⟩:=h;refine⟨_,ak (aB (Gw (aP (Mb T) hr rfl T.Dj T.tf.kp (L5 T) .nil aH (aa (pv 0) af)) (Gw (aP (Mc T) hr rfl T.Dk T.tj.kp (L6 T) .nil aH (aa (pv 0) af)) (Gv (qm bP (pv 0) (cU T.Lv rfl) (aY _)))))),?_⟩
  refine⟨_,rfl,c,rfl,_,rfl,?_⟩;unfold tH at k;refine dP (λc1=>?_) (λc1=>?_)
  ·rw[c1,Bool.true_or]at k;exact k
  ·rw[nB]at c1;rw[c1,Bool.false_or]at k;refine⟨_,rfl,c,rfl,_,rfl,?_⟩;refine dP (λc1=>?_) (λc1=>?_)
   ·rw[c1,Bool.true_or]at k;exact k
   ·rw[nB]at c1;rw[c1,Bool.false_or]at k;refine⟨_,rfl,rfl,?_⟩;have e:(c==95)=decide (V.int (c:Int)=V.int 95):=by
     rw[f9];simp;omega
    rw[e]at k;exact k
inductive xU(vs:List V)(H:Hp)(Q:VK)(e0:XK):Prop
 |mk (x:Str):vs=[.str x]->x.cps.size<=100->(∀p H',ae H H'->H p=none->H' p=some (.tup (iw x.cps.toList))->Q (.ref p) H')->xU vs H Q e0
theorem Xd{x:Str}{H:Hp}:oa (Am x) H (x.cps.toList.map λ(c:Nat)=>V.str ⟨#[c]⟩):=by
 refine⟨λi hi=>?_,?_⟩
 ·have hn:i<x.cps.size:=by simpa using hi
  refine⟨hn,λy H' ⟨e,c,ec,ev⟩=>⟨e,?_⟩⟩;rw[ev,List.getElem_map,Array.getElem_toList];rw[jd hn]at ec;rw[cI ec]
 ·show x.cps.size<=_;simp
theorem DN:aQ ["text","sign"] ["text"] (aC AE):=aS
theorem fC(T:Txt K mg t):aG P w K mg base aR 1 t.A_ t.Co ["text"] xU:=by
 refine T.dX.ok DN (λvs H Q E h=>?_) (λ_ A _ s H vs Q E hr h=>?_)
 ·obtain⟨c,rfl,_⟩:=h;rfl
 ·obtain⟨x,rfl,hx,k⟩:=h;refine⟨_,ak (aB (mw zT rfl T.xP rfl (aa (ia (own:=[("sign",1)]) rfl DN.nd (UC (pv 0)) ?b (λs H C cl fp=>bD (i:=1) DN.nd rfl (Or.inl rfl)) (λs H C cl fp=>eF) (λs H C cl fp=>cp S2 rfl T.LR rfl (aa (pv 1) af))) af))),?_⟩
  ·show c9 ["text","sign"] (aC AE) _ _;exact⟨rfl,by decide+kernel,by decide+kernel,by decide+kernel,by decide+kernel⟩
  ·refine⟨_,rfl,x,rfl,λD hD=>?_⟩;refine lH (xs:=x.cps.toList.map λ(c:Nat)=>V.str ⟨#[c]⟩) (λv=>match v with | .str z=>.int ((z.cps.getD 0 0:Nat):Int) |v=>v) hD (by rw[aK,gj,bg];omega) (λH _=>Xd) (λy=>rfl) ?_ ?_
   ·intro i y H1 hy sm Q' k';rw[bF]at hy;obtain⟨c,hc,rfl⟩:=cK.mp hy;refine⟨_,rfl,_,rfl,rfl,?_⟩;exact k' H1 (ae.refl _)
   ·intro H1 sm hL;refine⟨D,_,rfl,.inl ⟨aj.of hL,λp hp=>?_⟩⟩;refine k p _ (λb o e=>?_) (sm.free hp) ?_
    ·rw[ay (aJ (sm b o e) hp)];exact sm b o e
    ·rw[aw,eQ];rfl
end
end My
namespace My
open PySem L2
theorem Md{H:Hp}{D:Addr}:∀{zs:List Str}{ys:List V},Paired (λx y=>∃z p,x=V.str z/\y=V.ref p/\p≠D/\H p=some (.tup (iw z.cps.toList))) (zs.map V.str) ys->∃ps,ys=ps.map V.ref/\iT H ps (zs.map λz=>z.cps.toList)
 |[],_,.nil=>⟨[],rfl,.nil⟩
 |z::zs,_,.cons ⟨z',p,e1,e2,_,hp⟩ r=>by cases e1;obtain⟨ps,e,h⟩:=Md r;exact⟨p::ps,by rw[e2,e];rfl,.cons hp h⟩
def DP:List Str:=["label","goto","if","print","read","end"]
theorem abZ:DP.map (λz=>z.cps.toList)=Sz43.kept:=by decide+kernel
inductive Me(vs:List V)(H:Hp)(Q:VK)(e0:XK):Prop
 |mk (p:Addr) (w:List Nat):vs=[.ref p]->H p=some (.tup (iw w))->w≠[]->(∀H',ae H H'->Q (.bl (isName w)) H')->Me vs H Q e0
section
variable{P:Program}{w:World}{K:ax}{mg:Str->Option Value}{base:Heap}{t:Ad}
theorem ky{w:List Nat}{i:Nat}{x:V}(h:(iw w)[i]? =some x):∃c:Nat,w[i]? =some c/\x=.int (c:Int):=by unfold iw at h;rw[bF]at h;obtain⟨c,hc,rfl⟩:=cK.mp h;exact⟨c,hc,rfl⟩
theorem Mf{w:List Nat}{c:Nat}{r:List Nat}(h:w=c::r):nV (iw w) 0=some (.int (c:Int)):=by subst h;exact bq (j:=0) (xs:=iw (c::r)) rfl
theorem tI:aQ ["word","text","sign"] ["word"] (aC wj):=aS
theorem DQ(T:Txt K mg t):aG P w K mg base aR 3 t.Be t.Ct ["word"] Me:=by
 refine T.qH.ok tI (λvs H Q E h=>?_) (λ_ A _ s H vs Q E hr h=>?_)
 ·obtain⟨p,w,rfl,_⟩:=h;rfl
 ·obtain⟨p,u,rfl,hp,hn,k⟩:=h;have hr1:=hr.mono (show 1<=2 by decide);refine⟨_,aq (aU (PW.pt (lg (aX ql (cp dE rfl T.c_ dA (aa (pv 0) af)) (cU T.Ly rfl) (aY _)) (k_ (qe (jE (aP (Mb T) hr1 rfl T.Dj T.tf.kp (L5 T) .nil aH (aa (bc kf (pv 0) aL (λ_ _=>rfl)) af))))))) (ak (aB ml)) aW)
   (aq (aU (aX (Vk hr.units) (pv 0) (ia (own:=[("text",1)]) rfl tI.nd (lh (iH (v:=.ref t.wA) rfl T.Lx rfl)) ?b1 (λs H C cl fp=>bD (i:=1) tI.nd rfl (Or.inl rfl)) (λs H C cl fp=>eF) (λs H C cl fp=>aP (fC T) hr1 rfl T.eZ T.dX.kp (fA T) .nil aH (aa (pv 1) af))) (by with_unfolding_all rfl)) (ak (aB ml)) aW)
   (ak (aB (cp (HR rfl) rfl T.DI rfl (aa (ia (own:=[("sign",2)]) rfl tI.nd (lh (pv 0)) ?b2 (λs H C cl fp=>bD (i:=2) tI.nd rfl (Or.inl rfl)) (λs H C cl fp=>eF) (λs H C cl fp=>aP (Xc T) hr rfl T.KQ T.xo.kp (Wj T) .nil aH (aa (pv 2) af))) af))))),?_⟩
  ·show c9 ["word","text","sign"] (aC wj) _ _;exact⟨rfl,by decide+kernel,by decide+kernel,by decide+kernel,by decide+kernel⟩
  ·show c9 ["word","text","sign"] (aC wj) _ _;exact⟨rfl,by decide+kernel,by decide+kernel,by decide+kernel,by decide+kernel⟩
  ·obtain⟨c,r,rfl⟩:∃c r,u=c::r:=by
    cases u with
    |nil=>exact absurd rfl hn
    |cons c r=>exact⟨c,r,rfl⟩
   have hT:a8 K H p (iw (c::r)):=a8.of hp;unfold isName at k;refine⟨_,rfl,p,_,rfl,.inr hT,_,_,rfl,rfl,_,rfl,?_⟩;refine dP (λc1=>?_) (λc1=>?_)
   ·have e:¬(c::r).length<=16:=by
     have c1:=je c1;rw[bG]at c1;omega
    rw[a9 e,y8]at k;exact aD (k H (ae.refl H))
   have l16:(c::r).length<=16:=by have c1:=j6 ((nB _).mp c1);rw[bG]at c1;omega
   refine⟨_,rfl,p,_,_,_,rfl,rfl,hT,Mf rfl,c,rfl,_,rfl,?_⟩;refine dP (λc1=>?_) (λc1=>?_)
   ·have e:letter c=false:=by simpa using c1
    have e2:(c::r).head?.any letter=false:=e;rw[e2,y8,FV]at k;exact k H (ae.refl H)
   have e:letter c=true:=by simpa using c1
   have e2:(c::r).head?.any letter=true:=e;rw[e2,Ga,bx l16,Ga]at k;refine⟨_,rfl,t.wA,rfl,⟨_,T.DG H⟩,λD hD=>?_⟩;refine Ja (xs:=DP.map V.str) (λx y H=>∃z p,x=V.str z/\y=V.ref p/\p≠D/\H p=some (.tup (iw z.cps.toList))) hD (by decide) ?_ (λH1 _=>qA (T.DG H1)) (λy=>rfl) ?_ ?_
   ·rintro x y H1 H2 ⟨z,q,e1,e2,e3,e4⟩ hh
    exact⟨z,q,e1,e2,e3,hh _ _ e3 e4⟩
   ·intro i y H1 hy sm ⟨acc,hacc⟩ Q' k';rw[bF]at hy;obtain⟨z,hz,rfl⟩:=cK.mp hy;have hm:∀z∈DP,z.cps.size<=100:=by decide+kernel
    refine⟨_,rfl,z,rfl,hm z (bu hz),λq H2 s2 f2 e2=>?_⟩;exact k' _ _ s2 ⟨z,q,rfl,rfl,(aJ hacc f2).symm,e2⟩
   ·intro ys H1 sm hL pr;obtain⟨ps,rfl,hw⟩:=Md pr;rw[abZ]at hw;refine⟨p,D,ps,_,_,rfl,rfl,sm _ _ hp,aj.of hL,hw,_,rfl,?_⟩;refine dP (λc1=>?_) (λc1=>?_)
    ·rw[c1,Bool.not_true,FV]at k;exact k H1 sm
    rw[(nB _).mp c1,Bool.not_false,Gb]at k;refine⟨_,rfl,p,rfl,⟨_,sm.oe hT⟩,λD2 tJ=>?_⟩;refine lH (xs:=iw (c::r)) (λv=>match v with | .int z=>.bl (tH z.toNat) |v=>v) tJ (by rw[bG,bg];omega) (λH2 s2=>qA ((sm.trans s2).oe hT)) (λy=>rfl) ?_ ?_
    ·intro i y H2 hy s2 Q' k';obtain⟨d,hd,rfl⟩:=ky hy;exact⟨_,rfl,d,rfl,k' H2 (ae.refl _)⟩
    ·intro H2 s2 hL2;refine⟨D2,(c::r).map tH,rfl,?_,?_⟩
     ·refine aj.of (hL2.trans ?_);unfold iw;rw[eQ,eQ];rfl
     ·have e3:((c::r).map tH).all id=(c::r).all (λ(c:Nat)=>letter c||(digit c||c==95)):=by
       rw[List.all_map];rfl
      rw[e3];exact k H2 (sm.trans s2)
end
end My
namespace My
open PySem L2
def di:Option Int->V
 |some z=>.int z
 |none=>.au
def iW(ds:List Nat):Nat:=ds.foldl (λ(n c:Nat)=>10*n+(c-48)) 0
def mL(neg:Bool)(ds:List Nat):Option Int:=(natOf ds).bind λn=>let z:Int:=if neg=true then-(n:Int)else n
 if-9223372036854775808<=z/\z<9223372036854775808 then some z else none
theorem Xe(r:List Nat):numberOf (45::r)=mL true r:=by
 unfold mL;show(natOf r).bind _=_;cases natOf r with
 |none=>rfl
 |some n=>
  show(if n<=2^63 then some (-(n:Int))else none)=(if-9223372036854775808<= -(n:Int)/\ -(n:Int)<9223372036854775808 then some (-(n:Int))else none);have e:(2:Nat)^63=9223372036854775808:=by decide
  rw[e];by_cases h:n<=9223372036854775808
  ·rw[ai h,ai (by omega)]
  ·rw[ah h,ah (by omega)]
theorem Xf(w:List Nat)(h:∀r,w≠45::r):numberOf w=mL false w:=by
 have e0:numberOf w=(natOf w).bind λn=>if n<2^63 then some (n:Int)else none:=by
  unfold numberOf;split
  ·exact absurd rfl (h _)
  ·rfl
 rw[e0];unfold mL;cases natOf w with
 |none=>rw[md,md]
 |some n=>
  rw[g8,g8];show(if n<2^63 then some (n:Int)else none)=(if-9223372036854775808<=(n:Int)/\(n:Int)<9223372036854775808 then some (n:Int)else none);have e:(2:Nat)^63=9223372036854775808:=by decide
  rw[e];by_cases h:n<9223372036854775808
  ·rw[ai h,ai (by omega)]
  ·rw[ah h,ah (by omega)]
theorem Xg(ds:List Nat)(c:Nat):iW (ds++[c])=10*iW ds+(c-48):=by unfold iW;rw[zi];rfl
inductive Mg(vs:List V)(H:Hp)(Q:VK)(e0:XK):Prop
 |mk (p:Addr) (w:List Nat):vs=[.ref p]->H p=some (.tup (iw w))->w≠[]->(∀H',ae H H'->Q (di (numberOf w)) H')->Mg vs H Q e0
theorem Xh(w:List Nat)(h:w≠[]):iO (iw w) (some 1) none=iw (w.drop 1):=by
 unfold iO HT.bj;cases w with
 |nil=>exact absurd rfl h
 |cons c r=>
  have e:min (Int.toNat 1) (iw (c::r)).length=1:=by rw[bG,b6];show min 1 _=1;omega
  simp only[show ¬((1:Int)<0) by decide,jY];rw[e,List.drop_one];show List.take _ (iw r)=iw r;rw[RH];rw[bG,bG,b6];omega
theorem Xi{c:Bool}{A B:VK->Prop}{Qk:VK}(R:Addr->Hp->Prop)(hA:c=true->(∀dp H1,R dp H1->Qk (.ref dp) H1)->A Qk)(hB:c=false->(∀dp H1,R dp H1->Qk (.ref dp) H1)->B Qk)(k:∀dp H1,R dp H1->Qk (.ref dp) H1):if c=true then A Qk else B Qk:=by
 cases c with
 |true=>exact aD (hA rfl k)
 |false=>exact aA (hB rfl k)
theorem Xj{c:Bool}{A B:VK->Prop}{Qk:VK}{H:Hp}{z:Int}(hA:c=true->Qk (.int z) H->A Qk)(hB:c=false->Qk (.int z) H->B Qk)(k:Qk (.int z) H):if c=true then A Qk else B Qk:=by
 cases c with
 |true=>exact aD (hA rfl k)
 |false=>exact aA (hB rfl k)
section
variable{P:Program}{w:World}{K:ax}{mg:Str->Option Value}{base:Heap}{t:Ad}
theorem Mh:aQ ["word","below_zero","digits","size","sign","number"] ["word"] (aC AF):=aS
theorem Xk(T:Txt K mg t):aG P w K mg base aR 2 t.Bf t.Cu ["word"] Mg:=by
 refine T.xq.ok Mh (λvs H Q E h=>?_) (λ_ A _ s H vs Q E hr h=>?_)
 ·obtain⟨p,w,rfl,_⟩:=h;rfl
 ·obtain⟨p,u,rfl,hp,hn,k⟩:=h;have nd:=Mh.nd;refine⟨_,aq (aZ (i:=1) nd rfl (Or.inl rfl) (qm bP (bc kf (pv 0) aL (λ_ _=>rfl)) (cU T.Lw rfl) (aY _)))
   (aq (aZ (i:=2) nd rfl (Or.inl rfl) (iJ (jE (pv 1)) (Hu Tv (pv 0) (Ht aL) Hs) (pv 0)))
   (aq (aU (qe (GZ nM nM aL (cp dE rfl T.c_ dA (aa (pv 2) af)) (cU T.Lz rfl))) (ak (aB fh)) aW)
   (aq (aU (qe (jE (cp (HR rfl) rfl T.DI rfl (aa (ia (own:=[("sign",4)]) rfl nd (lh (pv 2)) ?b1 (λs H C cl fp=>bD (i:=4) nd rfl (Or.inl rfl)) (λs H C cl fp=>eF) (λs H C cl fp=>aP (Mc T) hr rfl T.Dk T.tj.kp (L6 T) .nil aH (aa (pv 4) af))) af)))) (ak (aB fh)) aW)
   (aq (aZ (i:=3) nd rfl (Or.inl rfl) aL)
   (aq (gF gp rfl (lh (pv 2)) (bD (i:=4) nd rfl (Or.inl rfl)) (ak (aZ (i:=3) nd rfl (Or.inl rfl) (bU rZ (bU ji (bU GJ (pv 3) aL) (pv 4)) (cU T.DF rfl)))))
   (aq (aZ (i:=5) nd rfl (Or.inl rfl) (iJ (jE (pv 1)) (mq nL (pv 3)) (pv 3)))
   (aq (aU (GZ nM mr (mq nL (cU T.tm rfl)) (pv 5) (cU T.tm rfl)) (ak (aB (pv 5))) aW)
   (ak (aB fh))))))))),?_⟩
  ·show c9 ["word","below_zero","digits","size","sign","number"] (aC AF) _ _;exact⟨rfl,by decide+kernel,by decide+kernel,by decide+kernel,by decide+kernel⟩
  ·obtain⟨c,r,rfl⟩:∃c r,u=c::r:=by
    cases u with
    |nil=>exact absurd rfl hn
    |cons c r=>exact⟨c,r,rfl⟩
   have hT:a8 K H p (iw (c::r)):=a8.of hp;obtain⟨neg,en⟩:∃neg,neg=decide (V.int (c:Int)=V.int 45):=⟨_,rfl⟩;obtain⟨ds,ed⟩:∃ds,ds=if neg=true then r else c::r:=⟨_,rfl⟩
   have eN:numberOf (c::r)=mL neg ds:=by
    cases neg with
    |true=>
     have e:c=45:=by
      have:=je en.symm;injection this with this
      omega
     rw[ed,ai rfl,e];exact Xe r
    |false=>
     have e:c≠45:=λz=>j6 en.symm (by rw[z];rfl)
     rw[ed,ah cY];exact Xf _ λq z=>e (rM z).1
   rw[eN]at k;refine⟨_,rfl,p,_,_,_,rfl,rfl,hT,Mf rfl,rfl,?_⟩;rw[<-en];refine⟨_,rfl,_,rfl,?_⟩;refine Xi (λdp H1=>ae H H1/\a8 K H1 dp (iw ds)) (λcn kk=>?_) (λcn kk=>?_) ?_
   ·refine⟨_,rfl,_,rfl,p,_,rfl,hT,?_,λq hq=>?_⟩
    ·intro⟨z,_⟩;have z':min 1 (iw (c::r)).length=0:=z;rw[bG,b6]at z';omega
    ·refine kk q _ ⟨ae.new hq,?_⟩;rw[ed,ai cn];refine a8.of (aw.trans ?_);rw[Xh _ hn];rfl
   ·refine⟨_,rfl,kk p H ⟨ae.refl H,?_⟩⟩;rw[ed,cn,ah cY];exact hT
   ·rintro dp H1 ⟨s1,hd⟩
    have none_of:(ds=[]\/19<ds.length\/ds.all digit=false)->mL neg ds=none:=λh=>by unfold mL natOf;rw[ai h,md]
    refine⟨_,rfl,dp,_,rfl,.inr hd,_,_,rfl,rfl,_,rfl,?_⟩;refine dP (λc1=>?_) (λc1=>?_)
    ·refine⟨_,_,rfl,rfl,_,rfl,?_⟩;have c1:=je c1;rw[bG]at c1;refine dP (λc2=>?_) (λc2=>?_)
     ·have e:19<ds.length:=by
       rw[bG]at c2;have:=j6 (Bool.not_eq_true' _▸c2);omega
      rw[none_of (.inr (.inl e))]at k;exact k H1 s1
     ·have l19:ds.length<=19:=by
       rw[bG]at c2;have:¬ ¬((ds.length:Int)<=19):=λz=>c2 (by rw[a9 z];rfl)
       omega
      refine⟨_,rfl,dp,rfl,⟨_,hd⟩,λD hD=>?_⟩;refine lH (xs:=iw ds) (λv=>match v with | .int z=>.bl (digit z.toNat) |v=>v) hD (by rw[bG,bg];omega) (λH2 s2=>qA (s2.oe hd)) (λy=>rfl) ?_ ?_
      ·intro i y H2 hy s2 Q' k';obtain⟨d,hd,rfl⟩:=ky hy;exact⟨_,rfl,d,rfl,k' H2 (ae.refl _)⟩
      ·intro H2 s2 hL2;refine⟨D,ds.map digit,rfl,?_,?_⟩
       ·refine aj.of (hL2.trans ?_);unfold iw;rw[eQ,eQ];rfl
       have e3:(ds.map digit).all id=ds.all digit:=by rw[List.all_map];rfl
       rw[e3];refine⟨_,rfl,?_⟩;refine dP (λc3=>?_) (λc3=>?_)
       ·rw[none_of (.inr (.inr (by simpa using c3)))]at k;exact k H2 (s1.trans s2)
       have dg:ds.all digit=true:=by simpa using c3
       have eS:natOf ds=some (iW ds):=by
        unfold natOf;rw[ah]
        ·rfl
        ·rintro(h |h |h)
         ·rw[h]at c1;simp at c1
         ·omega
         ·rw[dg]at h;cases h
       have hd2:=s2.oe hd;refine⟨_,rfl,dp,rfl,⟨_,hd2⟩,zD (K:=K) (a:=dp) (xs:=iw ds) (λi σ H3=>∃v,σ=[some (.ref p),some (.bl neg),some (.ref dp),some (.int (iW (ds.take i):Nat)),v,none]/\H3=H2) ⟨_,rfl,rfl⟩ (λi σ H3 _ ⟨_,_,e⟩=>by rw[e];exact hd2) ?_ ?_⟩
       ·rintro i y σ H3 hy ⟨v,rfl,rfl⟩
        obtain⟨d,hdd,rfl⟩:=ky hy;refine⟨_,rfl,_,_,rfl,rfl,.inr ⟨by decide,by decide⟩,_,rfl,_,_,rfl,rfl,_,_,rfl,rfl,?_⟩;have g48:48<=d:=by have:=Gc.mp dg d (bu hdd);unfold digit at this;simp at this;omega
        have e4:iW (ds.take (i+1))=10*iW (ds.take i)+(d-48):=by rw[iB,hdd];exact Xg _ _
        have e5:((iW (ds.take i):Nat):Int)*10+d-48=((iW (ds.take (i+1)):Nat):Int):=by rw[e4];omega
        exact⟨some (.int d),f7 (λq=>[some (V.ref p),some (V.bl neg),some (V.ref dp),some (V.int q),some (V.int d),none]) e5,rfl⟩
       ·rintro σ H3 ⟨v,rfl,rfl⟩
        rw[bG,j0];unfold mL at k;rw[eS,g8]at k;refine⟨_,rfl,_,rfl,?_⟩;refine Xj (z:=if neg=true then-((iW ds:Nat):Int)else ((iW ds:Nat):Int)) (λcn kk=>⟨_,rfl,_,rfl,by rw[ai cn]at kk;exact kk⟩) (λcn kk=>⟨_,rfl,by rw[ah (by rw[cn];exact cY)]at kk;exact kk⟩) ?_;generalize (if neg=true then-((iW ds:Nat):Int)else ((iW ds:Nat):Int))=z at k;refine⟨_,rfl,_,rfl,_,_,rfl,rfl,_,rfl,?_⟩;refine dP (λc4=>?_) (λc4=>?_)
        ·have c4:=je c4;refine⟨_,_,rfl,rfl,_,rfl,?_⟩;refine dP (λc5=>?_) (λc5=>?_)
         ·have c5:=je c5;simp only[ai (show-9223372036854775808<=z/\z<9223372036854775808 from ⟨c4,c5⟩)]at k;exact⟨_,rfl,k H3 (s1.trans s2)⟩
         ·have c5:¬z<9223372036854775808:=by simpa using c5
          simp only[ah (show ¬(-9223372036854775808<=z/\z<9223372036854775808) from λq=>c5 q.2)]at k;exact k H3 (s1.trans s2)
        ·have c4:¬ -9223372036854775808<=z:=by simpa using c4
         simp only[ah (show ¬(-9223372036854775808<=z/\z<9223372036854775808) from λq=>c4 q.1)]at k;refine⟨_,rfl,?_⟩;exact aA (k H3 (s1.trans s2))
    ·have c1:¬(1:Int)<=(iw ds).length:=by simpa using c1
     rw[bG]at c1;have e:ds=[]:=by
      cases ds with
      |nil=>rfl
      |cons a b=>rw[b6]at c1;omega
     rw[none_of (.inl e)]at k;refine⟨_,rfl,?_⟩;exact aD (k H1 s1)
end
end My
namespace My
open PySem L2
theorem Rn{a d:Int}(h:0<=a)(hd:0<d):a%d<=a:=by have h1:=Int.emod_add_mul_ediv a d;have h2:=Int.mul_nonneg (show 0<=d by omega) (Int.ediv_nonneg h (show 0<=d by omega));omega
theorem Xl{k:Nat}{y z:Int}(hy:aV y)(hz:aV z):aV (reckon k y z):=by
 have tr:∀b,aV (Sz43.truth b):=λb=>by unfold Sz43.truth aV;split<;>omega
 match k with
 |0=>exact mE _
 |1=>exact mE _
 |2=>exact mE _
 |3=>
  show aV (if z=0 then 0 else wrap (Int.tdiv y z));split
  ·unfold aV;omega
  ·exact mE _
 |4=>
  show aV (if z=0 then y else Int.tmod y z);split
  ·exact hy
  ·rename_i h
   have e:=Jh y z;unfold aV at*;unfold ab at e;rw[e];have h2:(if z<0 then-z else z)>0:=by split<;>omega
   generalize (if z<0 then-z else z)=d at*;split
   ·rename_i hn
    have:=Int.emod_nonneg (-y) (show d≠0 by omega);have h3:=Rn (show 0<= -y by omega) (show 0<d by omega);omega
   ·have:=Int.emod_nonneg y (show d≠0 by omega);have h3:=Rn (show 0<=y by omega) (show 0<d by omega);omega
 |5=>rw[Ji];exact mE _
 |6=>rw[Jj];exact mE _
 |7=>rw[Jk];exact mE _
 |8=>exact mE _
 |9=>
  show aV (Int.fdiv y (2^(bits z%64)));rw[FT y (zG _)];have hp:(0:Int)<2^(bits z%64):=Int.pow_pos (by decide);unfold aV at*;generalize (2:Int)^(bits z%64)=d at*;by_cases h:0<=y
  ·have h1:=Int.ediv_nonneg h (show 0<=d by omega);have h2:=Int.ediv_le_self d h;omega
  ·have h1:=Int.ediv_neg_of_neg_of_pos (show y<0 by omega) hp;have h2:y<=y/d:=(Int.le_ediv_iff_mul_le hp).mpr (by
    have:=Int.mul_le_mul_of_nonpos_left (show y<=0 by omega) (show 1<=d by omega);omega)
   omega
 |10=>exact tr _
 |n+11=>exact tr _
def mM(t:Ad):List Addr:=[t.og,t.oh,t.oj,t.om,t.oq,t.ou,t.ow,t.ox,t.oy,t.oz,t.oA,t.oC]
def qN(t:Ad):List Addr:=[t.wB,t.wC,t.wD,t.wF,t.wG,t.wH,t.wI,t.wJ,t.wK,t.wL,t.wM,t.wN]
theorem ab0(t:Ad):oH t=(Sz43.ops.zip ((qN t).zip (mM t))).map λx=>(kw x.1,x.2.1,Value.ref x.2.2):=by
 have e:Sz43.ops=[[43],[45],[42],[47],[37],[38],[124],[94],[60,60],[62,62],[60],[61,61]]:=by decide+kernel
 rw[e];rfl
theorem Mi(w:List Nat):∀(os:List (List Nat))(ps fs:List Addr),ps.length=os.length->fs.length=os.length->atKey ((os.zip (ps.zip fs)).map λx=>(kw x.1,x.2.1,Value.ref x.2.2)) (kw w)=(os.findIdx? λx=>x==w).bind λi=>(ps[i]?).bind λp=>(fs[i]?).map λf=>(p,Value.ref f)
 |[],_,_,_,_=>rfl
 |o::os,p::ps,f::fs,h1,h2=>by
  have ih:=Mi w os ps fs (by simpa using h1) (by simpa using h2);unfold atKey at ih ⊢;rw[List.zip_cons_cons,List.zip_cons_cons,bt,kS,Gd];by_cases e:o=w
  ·subst e;simp
  ·have e1:¬kw o=kw w:=λz=>e (Aq z)
   have e2:(o==w)=false:=by simpa using e
   rw[a9 e1,e2,ih];simp only[pQ,jY,Option.bind_map]
   congr 1
theorem Mj(t:Ad)(w:List Nat):atKey (oH t) (kw w)=(Sz43.ops.findIdx? λx=>x==w).bind λi=>((qN t)[i]?).bind λp=>((mM t)[i]?).map λf=>(p,Value.ref f):=by
 rw[ab0];have e:Sz43.ops.length=12:=by decide+kernel
 exact Mi w _ _ _ (by rw[e];rfl) (by rw[e];rfl)
theorem Ml{w:List Nat}{i:Nat}(h:(Sz43.ops.findIdx? λx=>x==w)=some i):i<12/\Sz43.ops.getD i []=w:=by
 have e:Sz43.ops.length=12:=by decide+kernel
 obtain⟨h1,h2,_⟩:=me.mp h;refine⟨by omega,?_⟩;rw[fJ,aN h1];simpa using h2
theorem Xm{i:Nat}(h:i<12):(Sz43.ops.findIdx? λx=>x==Sz43.ops.getD i [])=some i:=by
 have:∀i,i<12->(Sz43.ops.findIdx? λx=>x==Sz43.ops.getD i [])=some i:=by decide+kernel
 exact this i h
inductive Mm(vs:List V)(H:Hp)(Q:VK)(e0:XK):Prop
 |mk (p:Addr) (w:List Nat):vs=[.ref p]->H p=some (.tup (iw w))->(Q (.bl (Sz43.ops.findIdx? λx=>x==w).isSome) H)->Mm vs H Q e0
inductive Mn(vs:List V)(H:Hp)(Q:VK)(e0:XK):Prop
 |mk (p:Addr) (k:Nat) (y z:Int):vs=[.ref p,.int y,.int z]->k<12->H p=some (.tup (iw (Sz43.ops.getD k [])))->aV y->aV z->Q (.int (reckon k y z)) H->Mn vs H Q e0
def Mo(t:Ad)(f:Addr)(vs:List V)(H:Hp)(Q:VK):Prop:=∃k,(mM t)[k]? =some f/\ig k vs H Q E0
section
variable{P:Program}{w:World}{K:ax}{mg:Str->Option Value}{base:Heap}{t:Ad}
theorem Xn:aQ ["word"] ["word"] (aC JJ):=aS
theorem Xo(T:Txt K mg t):aG P w K mg base aR 1 t.A2 t.Cc ["word"] Mm:=by
 refine T.w_.ok Xn (λvs H Q E h=>?_) (λ_ A _ s H vs Q E hr h=>?_)
 ·obtain⟨p,w,rfl,_⟩:=h;rfl
 ·obtain⟨p,u,rfl,hp,k⟩:=h;refine⟨_,ak (aB (Sn (Vh (T.tab P w) (kh hr) (pv 0) (iH (v:=.ref t.oF) rfl T.DE rfl)))),?_⟩;refine⟨_,rfl,p,kw u,rfl,rfl,by rw[qy];exact hp,?_⟩;have e:(atKey (oH t) (kw u)).isSome=(Sz43.ops.findIdx? λx=>x==u).isSome:=by
   rw[Mj];cases q:(Sz43.ops.findIdx? λx=>x==u)with
   |none=>rfl
   |some i=>obtain⟨h1,_⟩:=Ml q;have e1:∃p,(qN t)[i]? =some p:=⟨_,aN (show i<(qN t).length from h1)⟩;have e2:∃p,(mM t)[i]? =some p:=⟨_,aN (show i<(mM t).length from h1)⟩;obtain⟨a,e1⟩:=e1;obtain⟨b,e2⟩:=e2;rw[g8,e1,g8,e2];rfl
  rw[e];exact k
theorem Xp(T:Txt K mg t){f:Addr}{vs:List V}{H:Hp}{Q:VK}(h:Mo t f vs H Q):∃k fd ps sp,k<=2/\aG P w K mg base aR k f fd ps sp/\Binds K fd ps []/\sp vs H Q E0:=by
 obtain⟨k,hk,h⟩:=h;have hl:k<12:=(bW.mp hk).1;have hc:=(by decide:∀k,k<12->k=0\/k=1\/k=2\/k=3\/k=4\/k=5\/k=6\/k=7\/k=8\/k=9\/k=10\/k=11) k hl;rcases hc with rfl |rfl |rfl |rfl |rfl |rfl |rfl |rfl |rfl |rfl |rfl |rfl
 ·cases hk;exact⟨2,_,_,_,by decide,WO T,VY T,h⟩
 ·cases hk;exact⟨2,_,_,_,by decide,WR T,VZ T,h⟩
 ·cases hk;exact⟨2,_,_,_,by decide,WT T,V0 T,h⟩
 ·cases hk;exact⟨2,_,_,_,by decide,WU T,V1 T,h⟩
 ·cases hk;exact⟨1,_,_,_,by decide,WV T,V2 T,h⟩
 ·cases hk;exact⟨1,_,_,_,by decide,WX T,V3 T,h⟩
 ·cases hk;exact⟨1,_,_,_,by decide,WZ T,V4 T,h⟩
 ·cases hk;exact⟨1,_,_,_,by decide,W1 T,V5 T,h⟩
 ·cases hk;exact⟨2,_,_,_,by decide,W3 T,V6 T,h⟩
 ·cases hk;exact⟨1,_,_,_,by decide,W5 T,V7 T,h⟩
 ·cases hk;exact⟨1,_,_,_,by decide,W7 T,V8 T,h⟩
 ·cases hk;exact⟨1,_,_,_,by decide,W9 T,V9 T,h⟩
theorem Xq(T:Txt K mg t){k:Nat}{f:Addr}(h:(mM t)[k]? =some f):keepIn K (.ref f)=true:=by
 obtain⟨h0,h1,h2,h3,h4,h5,h6,h7,h8,h9,h10,h11⟩:=T.LM;have hl:k<12:=(bW.mp h).1;have hc:=(by decide:∀k,k<12->k=0\/k=1\/k=2\/k=3\/k=4\/k=5\/k=6\/k=7\/k=8\/k=9\/k=10\/k=11) k hl;rcases hc with rfl |rfl |rfl |rfl |rfl |rfl |rfl |rfl |rfl |rfl |rfl |rfl
 ·cases h;exact h0
 ·cases h;exact h1
 ·cases h;exact h2
 ·cases h;exact h3
 ·cases h;exact h4
 ·cases h;exact h5
 ·cases h;exact h6
 ·cases h;exact h7
 ·cases h;exact h8
 ·cases h;exact h9
 ·cases h;exact h10
 ·cases h;exact h11
theorem Mp:aQ ["operator","y","z","reckon"] ["operator","y","z"] (aC JK):=aS
theorem Xr(T:Txt K mg t):aG P w K mg base aR 3 t.A3 t.Cd ["operator","y","z"] Mn:=by
 refine T.xb.ok Mp (λvs H Q E h=>?_) (λ_ A _ s H vs Q E hr h=>?_)
 ·obtain⟨p,k,y,z,rfl,_⟩:=h;rfl
 ·obtain⟨p,n,y,z,rfl,hn,hp,hy,hz,k⟩:=h;have nd:=Mp.nd;refine⟨_,aq (aZ (i:=3) nd rfl (Or.inl rfl) (Vj (T.tab P w) (kh hr) (iH (v:=.ref t.oF) rfl T.DE rfl) (pv 0) (λ_ _=>rfl)))
   (ak (aB (vZ (i:=3) (spT:=Mo t) (λf vs H Q h=>?f) rfl (Or.inl rfl) (aa (pv 1) (aa (pv 2) af))))),?_⟩
  ·obtain⟨k,fd,ps,sp,h1,h2,h3,h4⟩:=Xp (P:=P) (w:=w) (base:=base) T h;exact⟨k,fd,ps,sp,h2,hr.mono h1,h3,h4⟩
  ·obtain⟨f,hf⟩:∃f,(mM t)[n]? =some f:=⟨_,aN (show n<(mM t).length from hn)⟩;obtain⟨q,hq⟩:∃f,(qN t)[n]? =some f:=⟨_,aN (show n<(qN t).length from hn)⟩;refine⟨_,rfl,p,kw _,q,f,rfl,rfl,by rw[qy];exact hp,?_,?_⟩
   ·rw[Mj,Xm hn,g8,hq,g8,hf];rfl
   ·refine⟨f,rfl,Xq T hf,_,rfl,_,rfl,?_⟩;exact⟨n,hf,y,z,rfl,hy,hz,k⟩
end
end My
namespace My
open Sz43
def d9(c:Nat):Bool:=c==32||c==9||c==13
structure mO where
 ls:List (List Bytes)
 ws:List Bytes
 wd:Bytes
def gc(ws:List Bytes)(wd:Bytes):List Bytes:=if wd=[]then ws else ws++[wd]
noncomputable def dY(s:mO)(c:Nat):mO:=if c≠10/\d9 c=false then ⟨s.ls,s.ws,s.wd++[c]⟩ else if c=10 then ⟨s.ls++[gc s.ws s.wd],[],[]⟩else ⟨s.ls,gc s.ws s.wd,[]⟩
theorem oQ(f:Nat->Bool):∀t,∃l m,parted f t=l::m
 |[]=>⟨[],[],rfl⟩
 |c::r=>by
  obtain⟨l,m,e⟩:=oQ f r;show ∃l' m',(match parted f r with |l::m=>if f c=true then []::l::m else (c::l)::m |[]=>[[c]])=l'::m';rw[e];by_cases h:f c=true
  ·exact⟨_,_,ai h⟩
  ·exact⟨_,_,ah h⟩
theorem DR{f:Nat->Bool}{c:Nat}{r:Bytes}(h:f c=true):parted f (c::r)=[]::parted f r:=by obtain⟨l,m,e⟩:=oQ f r;show(match parted f r with |l::m=>if f c=true then []::l::m else (c::l)::m |[]=>[[c]])=_;rw[e];exact ai h
theorem DS{f:Nat->Bool}{c:Nat}{r l:Bytes}{m:List Bytes}(h:f c=false)(e:parted f r=l::m):parted f (c::r)=(c::l)::m:=by show(match parted f r with |l::m=>if f c=true then []::l::m else (c::l)::m |[]=>[[c]])=_;rw[e];exact ah (by rw[h];decide)
def uK(wd:Bytes):List Bytes->List Bytes
 |p::m=>(wd++p)::m
 |[]=>[wd]
def ne(w:Bytes):Bool:=w !=[]
def lO(ws:List Bytes)(wd:Bytes)(t:Bytes):List (List Bytes):=match parted (λ(c:Nat)=>c==10) t with
 |l::m=>(ws++(uK wd (parted d9 l)).filter ne)::m.map words
 |[]=>[]
theorem ab1(l:Bytes):words l=(parted d9 l).filter ne:=rfl
theorem Mq(l:Bytes):uK [] (parted d9 l)=parted d9 l:=by obtain⟨p,m,e⟩:=oQ d9 l;rw[e];rfl
theorem FL(ws:List Bytes)(wd:Bytes)(r:List Bytes):ws++(wd::r).filter ne=gc ws wd++r.filter ne:=by
 unfold gc ne;by_cases h:wd=[]
 ·subst h;simp
 ·have e:(wd !=[])=true:=by simpa using h
  rw[ah h,pY,e];simp
theorem Mr(t:Bytes):lO [] [] t=(parted (λ(c:Nat)=>c==10) t).map words:=by obtain⟨l,m,e⟩:=oQ (λ(c:Nat)=>c==10) t;unfold lO;rw[e];show([]++(uK [] (parted d9 l)).filter ne)::m.map words=words l::m.map words;rw[Mq,RI,ab1]
theorem Ms:∀(t:Bytes)(s:mO),((t++[10]).foldl dY s).ls=s.ls++lO s.ws s.wd t
 |[],s=>by show s.ls++[gc s.ws s.wd]=s.ls++[s.ws++[s.wd++[]].filter ne];rw[gk,FL];simp
 |c::r,s=>by
  rw[Ry,rN,Ms r];by_cases h10:c=10
  ·have e1:dY s c=⟨s.ls++[gc s.ws s.wd],[],[]⟩:=by
    unfold dY;rw[ah (λz=>z.1 h10),ai h10]
   have e2:lO s.ws s.wd (c::r)=gc s.ws s.wd::(parted (λ(c:Nat)=>c==10) r).map words:=by unfold lO;rw[DR (by simpa using h10)];show(s.ws++[s.wd++[]].filter ne)::_=_;rw[gk,FL];simp
   rw[e1,e2,Mr];simp
  ·obtain⟨l,m,e⟩:=oQ (λ(c:Nat)=>c==10) r;have e0:=DS (c:=c) (by simpa using h10) e;have er:∀ws wd,lO ws wd r=(ws++(uK wd (parted d9 l)).filter ne)::m.map words:=λws wd=>by
    unfold lO;rw[e]
   have ec:lO s.ws s.wd (c::r)=(s.ws++(uK s.wd (parted d9 (c::l))).filter ne)::m.map words:=by unfold lO;rw[e0]
   rw[ec,er];by_cases hb:d9 c=true
   ·have e1:dY s c=⟨s.ls,gc s.ws s.wd,[]⟩:=by
     unfold dY;rw[ah (λz=>by rw[hb]at z;exact absurd z.2 (by decide)),ah h10]
    rw[e1,DR hb,Mq];show s.ls++(gc s.ws s.wd++_)::_=s.ls++(s.ws++((s.wd++[])::parted d9 l).filter ne)::_;rw[gk,FL]
   ·have hb:d9 c=false:=by simpa using hb
    have e1:dY s c=⟨s.ls,s.ws,s.wd++[c]⟩:=by unfold dY;rw[ai ⟨h10,hb⟩]
    obtain⟨p,q,e2⟩:=oQ d9 l;rw[e1,DS hb e2,e2];show _++(_++((s.wd++[c]++p)::q).filter ne)::_=_++(_++((s.wd++c::p)::q).filter ne)::_;rw[nE];rfl
theorem Xs(t:Bytes):((t++[10]).foldl dY ⟨[],[],[]⟩).ls=(parted (λ(c:Nat)=>c==10) t).map words:=by rw[Ms,Mr];rfl
theorem Xt{t:Bytes}{l:List Bytes}{w:Bytes}(h:l∈(parted (λ(c:Nat)=>c==10) t).map words)(hw:w∈l):w≠[]:=by obtain⟨x,_,rfl⟩:=d_.mp h;have:=(fb.mp hw).2;simpa using this
end My
namespace My
open PySem L2
def b_(H:Hp)(q:Addr)(ws:List (List Nat)):Prop:=∃rs:List Addr,H q=some (.lst (rs.map V.ref))/\iT H rs ws
theorem Mt{H H':Hp}{rs:List Addr}{ws:List (List Nat)}(h:iT H rs ws)(k:∀b xs,H b=some (.tup xs)->H' b=some (.tup xs)):iT H' rs ws:=Paired.c8 h λa b e=>k _ _ e
theorem b_.mono{H H':Hp}{q:Addr}{ws:List (List Nat)}(h:b_ H q ws)(k:∀b xs,H b=some (.tup xs)->H' b=some (.tup xs))(kq:∀xs,H q=some (.lst xs)->H' q=some (.lst xs)):b_ H' q ws:=let ⟨rs,h1,h2⟩:=h;⟨rs,kq _ h1,Mt h2 k⟩
def Own(H:Hp)(x:Addr):Prop:=H x=none\/∃xs,H x=some (.lst xs)
theorem Own.tup{H:Hp}{x b:Addr}{xs:List V}{o:HO}(h:Own H x)(e:H b=some (.tup xs)):upd H x o b=some (.tup xs):=by
 rw[ay]
 ·exact e
 ·rintro rfl
  rcases h with h |⟨_,h⟩
  ·rw[h]at e;cases e
  ·rw[h]at e;cases e
theorem b_.upd{H:Hp}{q x:Addr}{ws:List (List Nat)}{o:HO}(h:b_ H q ws)(hx:Own H x)(n:q≠x):b_ (upd H x o) q ws:=h.mono (λb xs e=>hx.tup e) λxs e=>by rw[ay n];exact e
theorem Xu{w:List Nat}{i:Nat}{x:V}(h:(iw w)[i]? =some x):∃c:Nat,w[i]? =some c/\x=.int (c:Int):=by unfold iw at h;rw[bF]at h;obtain⟨c,hc,rfl⟩:=cK.mp h;exact⟨c,hc,rfl⟩
structure jM(H0 H:Hp)(p l wa wo:Addr)(ps:List Addr)(st:mO):Prop where
 same:ae H0 H
 fp:H0 p=none
 fl:H0 l=none
 fa:H0 wa=none
 fo:H0 wo=none
 lst:H l=some (.lst (ps.map V.ref))
 oS:Paired (λq ws=>b_ H q ws) ps st.ls
 xV:b_ H wa st.ws
 oU:H wo=some (.lst (iw st.wd))
 pl:p≠l
 pa:p≠wa
 po:p≠wo
 la:l≠wa
 lo:l≠wo
 ao:wa≠wo
 nl:∀q∈ps,q≠l/\q≠wa/\q≠wo
 fq:∀q∈ps,H0 q=none
theorem Paired.mapM{α β:Type}{F G:α->β->Prop}:∀{l₁:List α}{l₂:List β},Paired F l₁ l₂->(∀a b,a∈l₁->F a b->G a b)->Paired G l₁ l₂
 |_,_,.nil,_=>.nil
 |_,_,.cons r t,f=>.cons (f _ _ (by simp) r) (Paired.mapM t λa b m=>f a b (by simp[m]))
theorem xW{α β:Type}{F:α->β->Prop}{a:α}:∀{l₁:List α}{l₂:List β},Paired F l₁ l₂->a∈l₁->∃b,F a b
 |_,_,.cons (a:=x) (b:=y) r t,h=>by
  rcases a6.mp h with e |e
  ·subst e;exact⟨_,r⟩
  ·exact xW t e
theorem Mu(w:List Nat)(c:Nat):iw (w++[c])=iw w++[.int (c:Int)]:=by unfold iw;rw[eU];rfl
theorem jM.app{H0 H:Hp}{p l wa wo:Addr}{ps:List Addr}{st:mO}{c:Nat}(L:jM H0 H p l wa wo ps st):jM H0 (upd H wo (.lst (iw st.wd++[.int (c:Int)]))) p l wa wo ps ⟨st.ls,st.ws,st.wd++[c]⟩:=by have own:Own H wo:=.inr ⟨_,L.oU⟩;exact⟨L.same.upd L.fo,L.fp,L.fl,L.fa,L.fo,by rw[ay L.lo];exact L.lst,Paired.mapM L.oS λq ws hq h=>h.upd own (L.nl q hq).2.2,L.xV.upd own L.ao,by rw[aw,Mu],L.pl,L.pa,L.po,L.la,L.lo,L.ao,L.nl,L.fq⟩
theorem jM.word{H0 H:Hp}{p l wa wo gM q:Addr}{ps rs:List Addr}{st:mO}{xs:List V}(L:jM H0 H p l wa wo ps st)(hP:H p=some (.lst xs))(hwa:H wa=some (.lst (rs.map V.ref)))(hw:iT H rs st.ws)(hq:H q=none) (ho:(upd (upd H q (.tup (iw st.wd))) wa (.lst (rs.map V.ref++[.ref q]))) gM=none):jM H0 (upd (upd (upd H q (.tup (iw st.wd))) wa (.lst (rs.map V.ref++[.ref q]))) gM (.lst [])) p l wa gM ps ⟨st.ls,st.ws++[st.wd],[]⟩/\ (upd (upd (upd H q (.tup (iw st.wd))) wa (.lst (rs.map V.ref++[.ref q]))) gM (.lst [])) p=some (.lst xs):=by
 have k2:∀b o,H b=some o->b≠wa->(upd (upd H q (.tup (iw st.wd))) wa (.lst (rs.map V.ref++[.ref q]))) b=some o:=λb o e n=>by rw[ay n,ay (aJ e hq)];exact e
 have k3:∀b o,H b=some o->b≠wa->(upd (upd (upd H q (.tup (iw st.wd))) wa (.lst (rs.map V.ref++[.ref q]))) gM (.lst [])) b=some o:=λb o e n=>by rw[ay (aJ (k2 b o e n) ho)];exact k2 b o e n
 have nt:∀b ys,H b=some (.tup ys)->b≠wa:=λb ys e=>bp e hwa (by intro z;cases z)
 have qa:q≠wa:=(aJ hwa hq).symm;have ao:wa≠gM:=aJ aw ho;have s2:ae H0 (upd (upd H q (.tup (iw st.wd))) wa (.lst (rs.map V.ref++[.ref q]))):=λb o e=>k2 b o (L.same b o e) (aJ e L.fa)
 have qo:q≠gM:=aJ (o:=.tup (iw st.wd)) (by rw[ay qa];exact aw) ho;refine⟨⟨λb o e=>k3 b o (L.same b o e) (aJ e L.fa),L.fp,L.fl,L.fa,s2.free ho,k3 _ _ L.lst L.la,Paired.mapM L.oS λr ws hr h=>h.mono (λb ys e=>k3 b _ e (nt b ys e)) λys e=>k3 r _ e (L.nl r hr).2.1,?_,aw,L.pl,L.pa,aJ (k2 _ _ hP L.pa) ho,L.la,aJ (k2 _ _ L.lst L.la) ho,ao,λr hr=>?_,L.fq⟩,k3 _ _ hP L.pa⟩
 ·refine⟨rs++[q],?_,Paired.app (Mt hw λb ys e=>k3 b _ e (nt b ys e)) (.cons ?_ .nil)⟩
  ·rw[ay ao,aw,eU];rfl
  ·rw[ay qo,ay qa];exact aw
 ·obtain⟨ws,zs,h1,_⟩:=xW L.oS hr;exact⟨(L.nl r hr).1,(L.nl r hr).2.1,aJ (k2 _ _ h1 (L.nl r hr).2.1) ho⟩
theorem jM.line{H0 H:Hp}{p l wa wo mP:Addr}{ps:List Addr}{ls:List (List (List Nat))}{ws:List (List Nat)}{xs:List V}(L:jM H0 H p l wa wo ps ⟨ls,ws,[]⟩)(hP:H p=some (.lst xs)) (ho:(upd H l (.lst (ps.map V.ref++[.ref wa]))) mP=none):jM H0 (upd (upd H l (.lst (ps.map V.ref++[.ref wa]))) mP (.lst [])) p l mP wo (ps++[wa]) ⟨ls++[ws],[],[]⟩/\(upd (upd H l (.lst (ps.map V.ref++[.ref wa]))) mP (.lst [])) p=some (.lst xs):=by
 have k2:∀b o,H b=some o->b≠l->(upd H l (.lst (ps.map V.ref++[.ref wa]))) b=some o:=λb o e n=>by rw[ay n];exact e
 have k3:∀b o,H b=some o->b≠l->(upd (upd H l (.lst (ps.map V.ref++[.ref wa]))) mP (.lst [])) b=some o:=λb o e n=>by rw[ay (aJ (k2 b o e n) ho)];exact k2 b o e n
 have nt:∀b ys,H b=some (.tup ys)->b≠l:=λb ys e=>bp e L.lst (by intro z;cases z)
 have la:l≠mP:=aJ aw ho;have s2:ae H0 (upd H l (.lst (ps.map V.ref++[.ref wa]))):=L.same.upd L.fl;obtain⟨rs,hwa,hw⟩:=id L.xV;refine⟨⟨λb o e=>k3 b o (L.same b o e) (aJ e L.fl),L.fp,L.fl,s2.free ho,L.fo,?_,Paired.app (Paired.mapM L.oS λr ws hr h=>h.mono (λb ys e=>k3 b _ e (nt b ys e)) λys e=>k3 r _ e (L.nl r hr).1) (.cons (L.xV.mono (λb ys e=>k3 b _ e (nt b ys e)) λys e=>k3 _ _ e L.la.symm) .nil),⟨[],aw,.nil⟩,k3 _ _ L.oU L.lo.symm,
  L.pl,aJ (k2 _ _ hP L.pl) ho,L.po,la,L.lo,(aJ (k2 _ _ L.oU L.lo.symm) ho).symm,λr hr=>?_,λr hr=>?_⟩,k3 _ _ hP L.pl⟩
 ·rw[ay la,aw,eU];rfl
 ·rcases bN.mp hr with hr |hr
  ·obtain⟨ws,zs,h1,_⟩:=xW L.oS hr;exact⟨(L.nl r hr).1,aJ (k2 _ _ h1 (L.nl r hr).1) ho,(L.nl r hr).2.2⟩
  ·have e:r=wa:=by simpa using hr
   subst e;exact⟨L.la.symm,aJ (k2 _ _ hwa L.la.symm) ho,L.ao⟩
 ·rcases bN.mp hr with hr |hr
  ·exact L.fq r hr
  ·have e:r=wa:=by simpa using hr
   rw[e];exact L.fa
theorem Xv(c:Nat):inV (V.int (c:Int)) [.int 32,.int 9,.int 13]=d9 c:=by unfold inV d9;simp only[rG,List.any_nil,lC,Bool.or_false];rw[f9];simp;omega
theorem Xw{st:mO}{i c:Nat}(h:st.ls.length<=i/\st.ws.length<=i/\st.wd.length<=i):(dY st c).ls.length<=i+1/\(dY st c).ws.length<=i+1/\(dY st c).wd.length<=i+1:=by
 have e:(gc st.ws st.wd).length<=i+1:=by
  unfold gc;split
  ·omega
  ·rw[bo,cZ];omega
 unfold dY;split
 ·simp only[bo,cZ];omega
 ·split
  ·simp only[bo,cZ,pR];omega
  ·simp only[pR];omega
inductive Mv(K:ax)(vs:List V)(H:Hp)(Q:VK)(e0:XK):Prop
 |mk (a:Addr) (t:List Nat):vs=[.ref a]->(jL K H a (t.map λ(c:Nat)=>(c:Int)))->(∀l ps H',ae H H'->H l=none->(∀q∈ps,H q=none)->H' l=some (.lst (ps.map V.ref))->Paired (λq ws=>b_ H' q ws) ps ((Sz43.parted (λ(c:Nat)=>c==10) t).map Sz43.words)->Q (.ref l) H')->Mv K vs H Q e0
section
variable{P:Program}{w:World}{K:ax}{mg:Str->Option Value}{base:Heap}{t:Ad}
theorem Mw:aQ ["text","lines","words","word","sign"] ["text"] (aC JQ):=aS
theorem Xx(T:Txt K mg t):aG P w K mg base aR 1 t.Ba t.Cp ["text"] (Mv K):=by
 refine T.xn.ok Mw (λvs H Q E h=>?_) (λ_ A _ s H vs Q E hr h=>?_)
 ·obtain⟨p,w,rfl,_⟩:=h;rfl
 ·obtain⟨a,tx,rfl,hT,k⟩:=h;have nd:=Mw.nd;refine⟨_,aq (aZ (i:=1) nd rfl (Or.inl rfl) (cD af)) (aq (aZ (i:=2) nd rfl (Or.inl rfl) (cD af)) (aq (aZ (i:=3) nd rfl (Or.inl rfl) (cD af))
   (aq (gF gp rfl (gC (bU Vl (pv 0) (cD (aa (cU T.tw rfl) af)))) (bD (i:=4) nd rfl (Or.inl rfl)) (aq (aU (PW.pt (jg (aX vy (pv 4) (cU T.tw rfl) (aY _)) (jF (aX HD (pv 4) (iH (v:=.ref t.sV) rfl T.Lq rfl) (by with_unfolding_all rfl))))) (aq (fk (gJ gq j7 j8 jk (pv 3) (aa (pv 4) af))) (ak zz)) aW) (aq (aU (aX ql (cp dE rfl T.c_ dA (aa (pv 3) af)) aL (aY _)) (aq (fk (gJ gq j7 j8 jk (pv 2) (aa (mw zT rfl T.xP rfl (aa (pv 3) af)) af))) (ak (aZ (i:=3) nd rfl (Or.inl rfl) (cD af)))) aW) (ak (aU (aX bP (pv 4) (cU T.tw rfl) (aY _)) (aq (fk (gJ gq j7 j8 jk (pv 1) (aa (pv 2) af))) (ak (aZ (i:=2) nd rfl (Or.inl rfl) (cD af)))) aW)))))
   (ak (aB (pv 1)))))),?_⟩
  refine⟨b9 _,λl hl=>⟨b9 _,λwa ha=>⟨b9 _,λwo ho=>?_⟩⟩⟩;have s1:=ae.new (o:=.lst []) hl;have s2:=ae.new (o:=.lst []) ha;have s3:=ae.new (o:=.lst []) ho;refine⟨_,rfl,(by show 1<=sizeLine;decide),λb hb=>?_⟩;have s4:=ae.new (o:=.lst [.int 10]) hb;have s14:=((s1.trans s2).trans s3).trans s4;refine⟨a,b,_,_,rfl,rfl,jL.same s14 hT,aw,(by show 1<=10;decide),λp hp=>?_⟩;have eT:(tx.map λ(c:Nat)=>(c:Int)).map V.int++[V.int 10]=iw (tx++[10]):=by unfold iw;rw[eU,eQ];rfl
  rw[eT];have tl:(tx++[10]).length<=100001:=by have:=hT.1;rw[aK]at this;rw[bo,cZ];omega
  have s5:=ae.new (o:=.lst (iw (tx++[10]))) hp;have n1:l≠wa:=aJ aw ha;have n2:wa≠wo:=aJ aw ho;have n3:l≠wo:=aJ (s2 _ _ aw) ho;have f1:H wa=none:=s1.free ha;have f2:H wo=none:=(s1.trans s2).free ho;have f3:H p=none:=s14.free hp;have n4:l≠p:=aJ (s4 _ _ (s3 _ _ (s2 _ _ aw))) hp;have n5:wa≠p:=aJ (s4 _ _ (s3 _ _ aw)) hp;have n6:wo≠p:=aJ (s4 _ _ aw) hp;refine⟨p,rfl,⟨_,aj.of aw⟩,lu (K:=K) (a:=p) (xs:=iw (tx++[10])) (λi σ Hh=>∃(wa wo:Addr)(v:Option V)(ps:List Addr)(st:mO),st=((tx++[10]).take i).foldl dY ⟨[],[],[]⟩/\σ=[some (.ref a),some (.ref l),some (.ref wa),some (.ref wo),v]/\
   jM H Hh p l wa wo ps st/\(st.ls.length<=i/\st.ws.length<=i/\st.wd.length<=i)/\Hh p=some (.lst (iw (tx++[10])))) ?_ (λi σ Hh _ ⟨_,_,_,_,_,_,_,_,_,e⟩=>aj.of e) ?_ ?_⟩
  ·refine⟨wa,wo,none,[],⟨[],[],[]⟩,rfl,rfl,⟨s14.trans s5,f3,hl,f1,f2,s5 _ _ (s4 _ _ (s3 _ _ (s2 _ _ aw))),.nil,⟨[],s5 _ _ (s4 _ _ (s3 _ _ aw)),.nil⟩,s5 _ _ (s4 _ _ aw),n4.symm,n5.symm,n6.symm,n1,n3,n2,λq hq=>absurd hq (by simp),λq hq=>absurd hq (by simp)⟩,⟨aI _,aI _,aI _⟩,aw⟩
  ·rintro i x σ Hh hx ⟨wa,wo,v,ps,st,xX,rfl,L,ln,hP⟩
   obtain⟨c,hc,rfl⟩:=Xu hx;have il:i<100001:=by have:=(bW.mp hc).1;omega
   have qO:dY st c=((tx++[10]).take (i+1)).foldl dY ⟨[],[],[]⟩:=by rw[iB,hc,zi,<-xX];rfl
   have ln':=Xw (c:=c) ln;unfold c6;refine dW (we ?_);have tst:∀Qb:Bool->Hp->Prop,Qb (decide (c≠10/\d9 c=false)) Hh->zx (nN (gG GP (dS 4) (tC (.int 10)))) (nN (gG (sr K true) (dS 4) (tC (.ref t.sV)))) [some (.ref a),some (.ref l),some (.ref wa),some (.ref wo),some (.int (c:Int))] Hh Qb:=by
    intro Qb hq;refine⟨_,rfl,rfl,_,rfl,?_⟩;by_cases h10:c=10
    ·have e:(!decide (V.int (c:Int)=V.int 10))=false:=by simp[h10]
     have e2:decide (c≠10/\d9 c=false)=false:=by simp[h10]
     rw[e2]at hq;rw[e];exact aA hq
    ·have e:(!decide (V.int (c:Int)=V.int 10))=true:=by
      simp;omega
     rw[e];refine aD ?_;refine⟨_,rfl,t.sV,_,rfl,.inr (T.LK Hh),rfl,rfl,_,rfl,?_⟩;have e2:decide (c≠10/\d9 c=false)= !d9 c:=by cases d9 c<;>simp[h10]
     rw[e2]at hq;rw[Xv];exact hq
   refine tst _ ?_;by_cases hcb:c≠10/\d9 c=false
   ·rw[bx hcb];refine aD ?_;refine⟨_,rfl,.inl ⟨rfl,_,aj.of L.oU⟩,_,rfl,wo,_,_,rfl,rfl,L.oU,(by rw[bG,bg];omega),?_⟩;have e:dY st c=⟨st.ls,st.ws,st.wd++[c]⟩:=by
     unfold dY;rw[ai hcb]
    rw[e]at qO ln';exact⟨wa,wo,_,ps,_,qO,rfl,L.app,ln',by rw[ay L.po];exact hP⟩
   ·rw[a9 hcb];refine aA ?_;dsimp only[vk];refine dW (we ?_);refine⟨_,rfl,wo,_,rfl,.inl (aj.of L.oU),_,_,rfl,rfl,_,rfl,?_⟩;refine Jb (λσ' Hx=>∃gM,σ'=[some (.ref a),some (.ref l),some (.ref wa),some (.ref gM),some (.int (c:Int))]/\jM H Hx p l wa gM ps ⟨st.ls,gc st.ws st.wd,[]⟩/\Hx p=some (.lst (iw (tx++[10])))) (λc1 kk=>?_) (λc1 kk=>?_) ?_
    ·obtain⟨rs,hwa,hw⟩:=id L.xV;have lw:rs.length=st.ws.length:=bC hw;have ne:st.wd≠[]:=by
      rintro e
      rw[e]at c1;cases c1
     refine⟨_,rfl,.inl ⟨rfl,_,aj.of hwa⟩,_,rfl,wo,_,rfl,.inl ⟨aj.of L.oU,λq hq=>?_⟩⟩;refine⟨wa,_,_,rfl,rfl,(by rw[ay (aJ hwa hq)];exact hwa),(by rw[aK,bg];omega),⟨b9 _,λgM ho'=>?_⟩⟩;have z:=L.word hP hwa hw hq ho';refine kk _ _ ⟨gM,rfl,?_,z.2⟩;unfold gc;rw[ah ne];exact z.1
    ·have e:st.wd=[]:=by
      cases q:st.wd with
      |nil=>rfl
      |cons x y=>rw[q]at c1;have:=j6 c1;rw[bG,b6]at this;omega
     refine kk _ _ ⟨wo,rfl,?_,hP⟩;unfold gc;rw[ai e,<-e];exact L
    ·rintro σ' Hx ⟨gM,rfl,L',hP'⟩
     dsimp only;refine we ?_;refine⟨_,rfl,rfl,_,rfl,?_⟩;by_cases h10:c=10
     ·have e:decide (V.int (c:Int)=V.int 10)=true:=by simp[h10]
      rw[e];refine aD ?_;have lp:ps.length=st.ls.length:=bC L.oS;refine⟨_,rfl,.inl ⟨rfl,_,aj.of L'.lst⟩,_,rfl,l,_,_,rfl,rfl,L'.lst,(by rw[aK,bg];omega),⟨b9 _,λmP ha'=>?_⟩⟩;have e:dY st c=⟨st.ls++[gc st.ws st.wd],[],[]⟩:=by unfold dY;rw[ah hcb,ai h10]
      rw[e]at qO ln';have z:=L'.line hP' ha';exact⟨mP,gM,_,_,_,qO,rfl,z.1,ln',z.2⟩
     ·have e:decide (V.int (c:Int)=V.int 10)=false:=by
       simp;omega
      rw[e];refine aA ?_;have e:dY st c=⟨st.ls,gc st.ws st.wd,[]⟩:=by unfold dY;rw[ah hcb,ah h10]
      rw[e]at qO ln';exact⟨wa,gM,_,_,_,qO,rfl,L',ln',hP'⟩
  ·rintro σ Hh ⟨wa,wo,v,ps,st,xX,rfl,L,ln,hP⟩
   rw[bG,j0,]at xX;have e:=Xs tx;rw[<-xX]at e;refine⟨_,rfl,k l ps Hh L.same L.fl L.fq L.lst ?_⟩;rw[<-e];exact L.oS
end
end My
namespace My
open Sz43
def aO(l:List Bytes)(n:Bytes):List Bytes:=if l.contains n=true then l else l++[n]
def dj(vars:List Bytes)(w:Bytes):Option (Nat×List Bytes):=if isName w=false then none else match vars.findIdx? (λx=>x==w)with
  |some i=>some (i,vars)
  |none=>if vars.length=64 then none else some (vars.length,vars++[w])
noncomputable def cV(vars:List Bytes)(ws:List Bytes):Option (Ins×List Bytes):=(dj vars (ws.getD 0 [])).bind λd=>
  if ws.length=5/\(ops.findIdx? λx=>x==ws.getD 3 []).isSome=true then
   (dj d.2 (ws.getD 2 [])).bind λa=>(dj a.2 (ws.getD 4 [])).bind λb=>some (.op ((ops.findIdx? λx=>x==ws.getD 3 []).getD 0) d.1 a.1 b.1,b.2)
  else if ws.length≠3 then none
  else if ws.getD 2 []=ascii "read" then some (.read d.1,d.2)
  else match numberOf (ws.getD 2 [])with
   |some z=>some (.num d.1 z,d.2)
   |none=>(dj d.2 (ws.getD 2 [])).bind λa=>some (.copy d.1 a.1,a.2)
noncomputable def bI(vars:List Bytes)(ws:List Bytes):Option (Ins×List Bytes×Option Bytes):=if 3<=ws.length/\ws.getD 1 []=ascii "=" then (cV vars ws).bind λx=>some (x.1,x.2,none) else if ws.length=2/\ws.getD 0 []=ascii "print" then (dj vars (ws.getD 1 [])).bind λa=>some (.print a.1,a.2,none) else if ws.length=2/\ws.getD 0 []=ascii "goto" then (if isName (ws.getD 1 [])=false then none else some (.goto 0,vars,some (ws.getD 1 []))) else if ws.length=4/\ws.getD 0 []=ascii "if" /\ws.getD 2 []=ascii "goto" then (dj vars (ws.getD 1 [])).bind λa=>(if isName (ws.getD 3 [])=false then none else some (.cond a.1 0,a.2,some (ws.getD 3 []))) else if ws.length=1/\ws.getD 0 []=ascii "end" then some (.stop,vars,none) else none
theorem tK(l:List Bytes)(w:Bytes):w∈aO l w:=by
 unfold aO;split
 ·rename_i h
  exact zj.mp h
 ·simp
theorem Xy(l:List Bytes)(w:Bytes):∃m,aO l w=l++m:=by
 unfold aO;split
 ·exact⟨[],by simp⟩
 ·exact⟨[w],rfl⟩
theorem xY(ns:List Bytes):∀l:List Bytes,∃m,ns.foldl aO l=l++m:=by
 induction ns with
 |nil=>exact λl=>⟨[],by simp⟩
 |cons n r ih=>intro l;obtain⟨m,e⟩:=Xy l n;obtain⟨m2,e2⟩:=ih (aO l n);exact⟨m++m2,by rw[rN,e2,e,nE]⟩
theorem kz{v m:List Bytes}{w:Bytes}(h:w∈v):seek (v++m) w=seek v w:=by
 unfold seek;rw[RJ];have:(v.findIdx? λx=>x==w).isSome=true:=by rw[zk,mf];exact⟨w,h,by simp⟩
 obtain⟨i,e⟩:=rD.mp this;rw[e];rfl
theorem xZ{l:List Bytes}{ns:List Bytes}{w:Bytes}(h:w∈l):w∈ns.foldl aO l:=by obtain⟨m,e⟩:=xY ns l;rw[e];exact fc _ h
theorem Xz{l:List Bytes}{ns:List Bytes}{w:Bytes}(h:w∈l):seek (ns.foldl aO l) w=seek l w:=by obtain⟨m,e⟩:=xY ns l;rw[e];exact kz h
theorem XA(l:List Bytes)(ns:List Bytes):l.length<=(ns.foldl aO l).length:=by obtain⟨m,e⟩:=xY ns l;rw[e,bo];omega
theorem cb{vars:List Bytes}(hv:vars.length<=64)(w:Bytes):dj vars w=if isName w=true/\(aO vars w).length<=64 then some (seek (aO vars w) w,aO vars w)else none:=by
 unfold dj;cases hn:isName w with
 |false=>rw[ai rfl,ah (λz=>by cases z.1)]
 |true=>
  rw[ah (by decide)];cases hf:vars.findIdx? (λx=>x==w)with
  |some i=>
   have hc:vars.contains w=true:=by
    have:(vars.findIdx? λx=>x==w).isSome=true:=by rw[hf];rfl
    rw[zk,mf]at this;obtain⟨x,hx,e⟩:=this;have e:x=w:=by simpa using e
    rw[<-e];exact zj.mpr hx
   have ea:aO vars w=vars:=ai hc;rw[ea];show some (i,vars)=_;rw[ai ⟨rfl,hv⟩];unfold seek;rw[hf];rfl
  |none=>
   have hc:¬vars.contains w=true:=λz=>by
    have:(vars.findIdx? λx=>x==w).isSome=true:=by rw[zk,mf];exact⟨w,zj.mp z,by simp⟩
    rw[hf]at this;cases this
   have ea:aO vars w=vars++[w]:=ah hc;rw[ea,bo,cZ];by_cases h:vars.length=64
   ·show(if vars.length=64 then none else _)=_;rw[ai h,ah (by omega)]
   ·show(if vars.length=64 then none else _)=_;rw[ah h,ai ⟨rfl,by omega⟩];unfold seek;rw[RJ,hf];simp
theorem x2{l:List Bytes}{w x:Bytes}(h:w∈l):seek (aO l x) w=seek l w:=Xz (ns:=[x]) h
theorem XB{l:List Bytes}{w x:Bytes}(h:w∈l):w∈aO l x:=xZ (ns:=[x]) h
theorem x4(l:List Bytes)(x:Bytes):l.length<=(aO l x).length:=XA l [x]
def cq:Line->Option Bytes
 | .goto n=>some n
 | .cond _ n=>some n
 |_=>none
def bO(vars:List Bytes)(ws:List Bytes):Option (Ins×List Bytes×Option Bytes):=match lineOf ws with
 |none=>none
 |some x=>if 64<((varsOf x).foldl aO vars).length then none else some (insOf ⟨[],[],(varsOf x).foldl aO vars⟩ x,(varsOf x).foldl aO vars,cq x)
theorem XD:ascii "print" ≠ascii "goto" /\ascii "label" ≠ascii "goto" /\ascii "label" ≠ascii "print":=by decide+kernel
theorem XE{vars:List Bytes}(hv:vars.length<=64)(ws:List Bytes)(h:¬(ws.length=2/\ws.getD 0 []=ascii "label")):bI vars ws=bO vars ws:=by
 match ws,h with
 |[],_=>rfl
 |[a],_=>
  have hv':¬64<vars.length:=by omega
  by_cases h:a=ascii "end"
  ·simp[bI,bO,lineOf,h,varsOf,insOf,cq,hv']
  ·simp[bI,bO,lineOf,h]
 |[a,b],h=>
  have hv':¬64<vars.length:=by omega
  have hl:¬a=ascii "label":=λz=>h ⟨rfl,z⟩
  obtain⟨k1,k2,k3⟩:=XD;cases hn:isName b with
  |false=>simp[bI,bO,lineOf,dj,hn]
  |true=>
   by_cases hp:a=ascii "print"
   ·subst hp;by_cases l1:(aO vars b).length<=64
    ·have l2:¬64<(aO vars b).length:=by omega
     simp[bI,bO,lineOf,cb hv,varsOf,cq,insOf,k1,hl,hn,l1,l2]
    ·have l2:64<(aO vars b).length:=by omega
     simp[bI,bO,lineOf,cb hv,varsOf,cq,insOf,k1,hl,hn,l1,l2]
   ·by_cases hg:a=ascii "goto"
    ·subst hg;simp[bI,bO,lineOf,varsOf,cq,insOf,hp,hl,hn,hv',place]
    ·simp[bI,bO,lineOf,hp,hl,hn,hg]
 |[d,e,a],_=>
  by_cases he:e=ascii "="
  ·subst he;cases hd:isName d with
   |false=>simp[bI,bO,lineOf,cV,dj,hd]
   |true=>
    by_cases l1:(aO vars d).length<=64
    ·have l2:¬64<(aO vars d).length:=by omega
     by_cases hr:a=ascii "read"
     ·simp[bI,bO,lineOf,cV,cb hv,varsOf,cq,insOf,hd,l1,l2,hr]
     ·cases hz:numberOf a with
      |some z=>simp[bI,bO,lineOf,cV,cb hv,varsOf,cq,insOf,hd,l1,l2,hr,hz]
      |none=>
       cases ha:isName a with
       |false=>simp[bI,bO,lineOf,cV,cb hv,cb l1,hd,l1,l2,hr,hz,ha]
       |true=>
        have es:seek (aO (aO vars d) a) d=seek (aO vars d) d:=x2 (tK _ _);by_cases l3:(aO (aO vars d) a).length<=64
        ·have l4:¬64<(aO (aO vars d) a).length:=by omega
         simp[bI,bO,lineOf,cV,cb hv,cb l1,varsOf,cq,insOf,hd,l1,l2,l3,l4,hr,hz,ha,es]
        ·have l4:64<(aO (aO vars d) a).length:=by omega
         simp[bI,bO,lineOf,cV,cb hv,cb l1,varsOf,cq,insOf,hd,l1,l2,l3,l4,hr,hz,ha]
    ·have l2:64<(aO vars d).length:=by omega
     have l4:64<(aO (aO vars d) a).length:=dM l2 (x4 _ _);by_cases hr:a=ascii "read"
     ·simp[bI,bO,lineOf,cV,cb hv,varsOf,hd,l1,l2,hr]
     ·cases hz:numberOf a with
      |some z=>simp[bI,bO,lineOf,cV,cb hv,varsOf,hd,l1,l2,hr,hz]
      |none=>
       cases ha:isName a with
       |false=>simp[bI,bO,lineOf,cV,cb hv,varsOf,hd,l1,l2,hr,hz,ha]
       |true=>simp[bI,bO,lineOf,cV,cb hv,varsOf,hd,l1,l2,l4,hr,hz,ha]
  ·simp[bI,bO,lineOf,he]
 |[i,a,g,n],_=>
  by_cases he:a=ascii "="
  ·subst he;have hn:isName (ascii "=")=false:=by decide+kernel
   simp[bI,bO,lineOf,cV,hn]
  ·by_cases hi:i=ascii "if"
   ·by_cases hg:g=ascii "goto"
    ·cases ha:isName a with
     |false=>simp[bI,bO,lineOf,dj,he,hi,hg,ha]
     |true=>
      cases hn:isName n with
      |false=>simp[bI,bO,lineOf,he,hi,hg,ha,hn]
      |true=>
       by_cases l1:(aO vars a).length<=64
       ·have l2:¬64<(aO vars a).length:=by omega
        simp[bI,bO,lineOf,cb hv,varsOf,cq,insOf,he,hi,hg,ha,hn,l1,l2,place]
       ·have l2:64<(aO vars a).length:=by omega
        simp[bI,bO,lineOf,cb hv,varsOf,cq,insOf,he,hi,hg,ha,hn,l1,l2]
    ·simp[bI,bO,lineOf,he,hg]
   ·simp[bI,bO,lineOf,he,hi]
 |[d,e,a,o,b],_=>
  by_cases he:e=ascii "="
  ·subst he;cases hk:ops.findIdx? (λx=>x==o)with
   |none=>simp[bI,bO,lineOf,cV,hk]
   |some k=>
    cases hd:isName d with
    |false=>simp[bI,bO,lineOf,cV,dj,hd]
    |true=>
     by_cases l1:(aO vars d).length<=64
     ·cases ha:isName a with
      |false=>simp[bI,bO,lineOf,cV,cb hv,cb l1,hd,l1,ha,hk]
      |true=>
       by_cases l3:(aO (aO vars d) a).length<=64
       ·cases hb:isName b with
        |false=>simp[bI,bO,lineOf,cV,cb hv,cb l1,cb l3,hd,l1,l3,ha,hb,hk]
        |true=>
         have es:seek (aO (aO (aO vars d) a) b) d=seek (aO vars d) d:=(x2 (XB (tK _ _))).trans (x2 (tK _ _));have x5:seek (aO (aO (aO vars d) a) b) a=seek (aO (aO vars d) a) a:=x2 (tK _ _);by_cases l5:(aO (aO (aO vars d) a) b).length<=64
         ·have l6:¬64<(aO (aO (aO vars d) a) b).length:=by omega
          simp[bI,bO,lineOf,cV,cb hv,cb l1,cb l3,varsOf,cq,insOf,hd,l1,l3,l5,l6,ha,hb,hk,es,x5]
         ·have l6:64<(aO (aO (aO vars d) a) b).length:=by omega
          simp[bI,bO,lineOf,cV,cb hv,cb l1,cb l3,varsOf,cq,insOf,hd,l1,l3,l5,l6,ha,hb,hk]
       ·have l6:64<(aO (aO (aO vars d) a) b).length:=dM (by omega) (x4 _ _);cases hb:isName b with
        |false=>simp[bI,bO,lineOf,cV,cb hv,cb l1,hd,l1,l3,ha,hb,hk]
        |true=>simp[bI,bO,lineOf,cV,cb hv,cb l1,varsOf,hd,l1,l3,l6,ha,hb,hk]
     ·have l4:64<(aO (aO vars d) a).length:=dM (by omega) (x4 _ _);have l6:64<(aO (aO (aO vars d) a) b).length:=dM l4 (x4 _ _);cases ha:isName a with
      |false=>simp[bI,bO,lineOf,cV,cb hv,hd,l1,ha,hk]
      |true=>
       cases hb:isName b with
       |false=>simp[bI,bO,lineOf,cV,cb hv,hd,l1,ha,hb,hk]
       |true=>simp[bI,bO,lineOf,cV,cb hv,varsOf,hd,l1,l6,ha,hb,hk]
  ·simp[bI,bO,lineOf,he]
 |a::b::c::d::e::f::r,_=>simp[bI,bO,lineOf,cV]
end My
namespace My
open PySem L2
def e6(kd:Str)(us gv nu op pl:V):List (Str×V):=bz "place" pl (bz "operator" op (bz "number" nu (bz "given" gv (bz "used" us (bz "kind" (.str kd) [])))))
section
variable{kd:Str}{us gv nu op pl:V}
theorem gN:(e6 kd us gv nu op pl).lookup ("place" :Str)=some pl:=by unfold e6;rw[dD,ai rfl]
theorem qP:(e6 kd us gv nu op pl).lookup ("operator" :Str)=some op:=by unfold e6;rw[dD,ah (by decide+kernel),dD,ai rfl]
theorem Mx:(e6 kd us gv nu op pl).lookup ("number" :Str)=some nu:=by unfold e6;rw[dD,ah (by decide+kernel),dD,ah (by decide+kernel),dD,ai rfl]
theorem c7:(e6 kd us gv nu op pl).lookup ("given" :Str)=some gv:=by unfold e6;rw[dD,ah (by decide+kernel),dD,ah (by decide+kernel),dD,ah (by decide+kernel),dD,ai rfl]
theorem gO:(e6 kd us gv nu op pl).lookup ("used" :Str)=some us:=by unfold e6;rw[dD,ah (by decide+kernel),dD,ah (by decide+kernel),dD,ah (by decide+kernel),dD,ah (by decide+kernel),dD,ai rfl]
theorem bL:(e6 kd us gv nu op pl).lookup ("kind" :Str)=some (.str kd):=by unfold e6;rw[dD,ah (by decide+kernel),dD,ah (by decide+kernel),dD,ah (by decide+kernel),dD,ah (by decide+kernel),dD,ah (by decide+kernel),dD,ai rfl]
end
theorem Mz(f:Str)(u v:V):∀fs:List (Str×V),bz f v (bz f u fs)=bz f v fs
 |[]=>by show(if f=f then [(f,v)]else _)=[(f,v)];rw[ai rfl]
 |(g,x)::r=>by
  show bz f v (if g=f then (g,u)::r else (g,x)::bz f u r)=(if g=f then (g,v)::r else (g,x)::bz f v r);by_cases h:g=f
  ·rw[ai h,ai h];show(if g=f then (g,v)::r else _)=_;rw[ai h]
  ·rw[ah h,ah h];show(if g=f then _ else (g,x)::bz f v (bz f u r))=_;rw[ah h,Mz f u v r]
theorem fQ(f:Str)(v:V):∀fs:List (Str×V),(bz f v fs).length<=fs.length+1
 |[]=>aI _
 |(g,x)::r=>by show(if g=f then (g,v)::r else (g,x)::bz f v r).length<=_;have:=fQ f v r;split<;>simp only[b6]<;>omega
theorem XF(kd:Str)(us gv nu op pl:V):(e6 kd us gv nu op pl).length<=6:=by
 unfold e6;have h:=λf v fs=>fQ f v fs
 refine bE (h _ _ _) (iC (bE (h _ _ _) (iC (bE (h _ _ _) (iC (bE (h _ _ _) (iC (bE (h _ _ _) (iC (bE (h _ _ _) ?_))))))))))
 decide
theorem XG(kd:Str)(us gv nu op pl pl':V):bz "place" pl' (e6 kd us gv nu op pl)=e6 kd us gv nu op pl':=Mz _ _ _ _
def fR(ln li va la ju:V):List (Str×V):=[("line",ln),("instructions",li),("variables",va),("labels",la),("jumps",ju)]
section
variable{ln li va la ju ln':V}
theorem kA:(fR ln li va la ju).lookup ("line" :Str)=some ln:=rfl
theorem x6:(fR ln li va la ju).lookup ("instructions" :Str)=some li:=rfl
theorem oV:(fR ln li va la ju).lookup ("variables" :Str)=some va:=rfl
theorem x8:(fR ln li va la ju).lookup ("labels" :Str)=some la:=rfl
theorem MA:(fR ln li va la ju).lookup ("jumps" :Str)=some ju:=rfl
theorem XH:bz "line" ln' (fR ln li va la ju)=fR ln' li va la ju:=rfl
theorem XM:(fR ln li va la ju).lookup ("take_line" :Str)=none:=rfl
theorem XN:(fR ln li va la ju).lookup ("take_label" :Str)=none:=rfl
theorem XO:(fR ln li va la ju).lookup ("take_instruction" :Str)=none:=rfl
theorem XP:(fR ln li va la ju).lookup ("instruction_of" :Str)=none:=rfl
theorem XQ:(fR ln li va la ju).lookup ("giving_of" :Str)=none:=rfl
theorem qQ:(fR ln li va la ju).lookup ("variable_of" :Str)=none:=rfl
theorem MB:(fR ln li va la ju).lookup ("jump_to" :Str)=none:=rfl
theorem XR:(fR ln li va la ju).lookup ("find_places" :Str)=none:=rfl
end
section
variable{P:Program}{w:World}{K:ax}{mg:Str->Option Value}{base:Heap}{t:Ad}
theorem XS:aQ ["self","line"] ["self","line"] (aC Ke):=aS
theorem mQ(T:Txt K mg t):aG P w K mg base aR 1 t.Bw t.CQ ["self","line"] (sN t.jq):=by
 refine T.Dq.ok XS (λvs H Q E h=>?_) (λ_ A _ s H vs Q E hr h=>?_)
 ·obtain⟨a,x,n,rfl,_⟩:=h;rfl
 ·obtain⟨a,x,n,rfl,ha,k⟩:=h;refine⟨_,ak (U4 T.xc (pv 0) (pv 1) rfl),?_⟩;exact⟨_,rfl,_,rfl,a,x,n,rfl,rfl,ha,k⟩
end
end My
namespace My
open PySem L2
def Ro:Ins->Str
 | .num _ _=>"number"
 | .copy _ _=>"copy"
 | .op _ _ _ _=>"operator"
 | .read _=>"read"
 | .print _=>"print"
 | .goto _=>"goto"
 | .cond _ _=>"if"
 | .stop=>"end"
def dZ(i:Ins):V:=match givesOf i with
 |some d=>.int (d:Int)
 |none=>.au
def MC:Ins->V
 | .num _ z=>.int z
 |_=>.au
def XT(i:Ins):List V:=iw (usesOf i)
def x9(H:Hp)(op:V):Ins->Prop
 | .op k _ _ _=>k<12/\∃q,op=.ref q/\H q=some (.tup (iw (Sz43.ops.getD k [])))
 |_=>op=.au
def dF(t:Ad)(H:Hp)(a:Addr)(i:Ins)(pl:V):Prop:=∃(dx u:Addr)(op:V),H a=some (.ins t.iU dx (e6 (Ro i) (.ref u) (dZ i) (MC i) op pl))/\H u=some (.tup (XT i))/\x9 H op i
theorem x9.mono{H H':Hp}{op:V}{i:Ins}(h:x9 H op i)(k:∀b xs,H b=some (.tup xs)->H' b=some (.tup xs)):x9 H' op i:=by
 cases i with
 |op n d a b=>obtain⟨h1,q,h2,h3⟩:=h;exact⟨h1,q,h2,k _ _ h3⟩
 |_=>exact h
theorem dF.mono{t:Ad}{H H':Hp}{a:Addr}{i:Ins}{pl:V}(h:dF t H a i pl)(k:∀b xs,H b=some (.tup xs)->H' b=some (.tup xs))(ka:∀C dx fs,H a=some (.ins C dx fs)->H' a=some (.ins C dx fs)):dF t H' a i pl:=by obtain⟨dx,u,op,h1,h2,h3⟩:=h;exact⟨dx,u,op,ka _ _ _ h1,k _ _ h2,h3.mono k⟩
structure RA where
 dx:Addr
 li:Addr
 va:Addr
 la:Addr
 ju:Addr
def jN(vars:List (List Nat)):List (List Key×V):=vars.zipIdx.map λx=>(kw x.1,.int (x.2:Int))
def kC(labs:List (List Nat×Nat)):List (List Key×V):=labs.map λx=>(kw x.1,.int (x.2:Int))
structure Raw(t:Ad)(H:Hp)(r:Addr)(A:RA)(ln:Nat)(is:List Addr)(vars:List (List Nat))(labs:List (List Nat×Nat))(js:List Addr):Prop where
 ob:H r=some (.ins t.eX A.dx (fR (.int (ln:Int)) (.ref A.li) (.ref A.va) (.ref A.la) (.ref A.ju)))
 lst:H A.li=some (.lst (is.map V.ref))
 var:H A.va=some (.dT (jN vars))
 cW:H A.la=some (.dT (kC labs))
 dG:H A.ju=some (.lst (js.map V.ref))
 lP:A.li≠A.ju
 lQ:A.va≠A.la
def a_(r:Addr)(A:RA)(H H':Hp):Prop:=∀b o,H b=some o->b≠r->b≠A.li->b≠A.va->b≠A.la->b≠A.ju->H' b=some o
theorem a_.trans{r:Addr}{A:RA}{H H1 H2:Hp}(a:a_ r A H H1)(b:a_ r A H1 H2):a_ r A H H2:=λc o e h1 h2 h3 h4 h5=>b c o (a c o e h1 h2 h3 h4 h5) h1 h2 h3 h4 h5
theorem a_.same{r:Addr}{A:RA}{H H1:Hp}(a:ae H H1):a_ r A H H1:=λc o e _ _ _ _ _=>a c o e
section
variable{t:Ad}{H H':Hp}{r:Addr}{A:RA}{ln:Nat}{is js:List Addr}{vars:List (List Nat)}{labs:List (List Nat×Nat)}
theorem Raw.same(R:Raw t H r A ln is vars labs js)(s:ae H H'):Raw t H' r A ln is vars labs js:=⟨s _ _ R.ob,s _ _ R.lst,s _ _ R.var,s _ _ R.cW,s _ _ R.dG,R.lP,R.lQ⟩
theorem Raw.jr(R:Raw t H r A ln is vars labs js)(k:a_ r A H H'){b:Addr}{xs:List V}(e:H b=some (.tup xs)):H' b=some (.tup xs):=k b _ e (bp e R.ob (by intro z;cases z)) (bp e R.lst (by intro z;cases z)) (bp e R.var (by intro z;cases z)) (bp e R.cW (by intro z;cases z)) (bp e R.dG (by intro z;cases z))
theorem Raw.MD(R:Raw t H r A ln is vars labs js)(k:a_ r A H H'){b:Addr}{xs:List V}(e:H b=some (.lst xs))(n1:b≠A.li)(n2:b≠A.ju):H' b=some (.lst xs):=k b _ e (bp e R.ob (by intro z;cases z)) n1 (bp e R.var (by intro z;cases z)) (bp e R.cW (by intro z;cases z)) n2
theorem Raw.gP(R:Raw t H r A ln is vars labs js)(k:a_ r A H H'){q:Addr}{ws:List (List Nat)}(h:b_ H q ws)(n1:q≠A.li)(n2:q≠A.ju):b_ H' q ws:=h.mono (λ_ _ e=>R.jr k e) λ_ e=>R.MD k e n1 n2
theorem Raw.DT(R:Raw t H r A ln is vars labs js)(k:a_ r A H H'){b C dx:Addr}{fs:List (Str×V)}(e:H b=some (.ins C dx fs))(n:b≠r):H' b=some (.ins C dx fs):=k b _ e n (bp e R.lst (by intro z;cases z)) (bp e R.var (by intro z;cases z)) (bp e R.cW (by intro z;cases z)) (bp e R.dG (by intro z;cases z))
end
theorem ME(w:List Nat):∀(vars:List (List Nat))(n:Nat),bV ((vars.zipIdx n).map λx=>(kw x.1,V.int (x.2:Int))) (kw w)=(vars.findIdx? λx=>x==w).map λi=>V.int ((n+i:Nat):Int)
 |[],_=>rfl
 |v::r,n=>by
  rw[List.zipIdx_cons,bt,Gd];by_cases e:v=w
  ·subst e;rw[f_ rfl];simp
  ·have e1:¬kw v=kw w:=λz=>e (Aq z)
   have e2:(v==w)=false:=by simpa using e
   rw[gb e1,ME w r (n+1),e2];simp only[pQ,jY,Option.map_map]
   congr 1
   funext i;show V.int ((n+1+i:Nat):Int)=V.int ((n+(i+1):Nat):Int);rw[Nat.add_assoc,Nat.add_comm 1 i]
theorem x_(vars:List (List Nat))(w:List Nat):bV (jN vars) (kw w)=(vars.findIdx? λx=>x==w).map λ(i:Nat)=>V.int (i:Int):=by have:=ME w vars 0;simp only[pU]at this;exact this
theorem tL(w:List Nat):∀labs:List (List Nat×Nat),bV (kC labs) (kw w)=(Sz43.place labs w).map λ(n:Nat)=>V.int (n:Int)
 |[]=>rfl
 |(v,n)::r=>by
  have ih:=tL w r;unfold kC Sz43.place at ih ⊢;rw[bt,kS];by_cases e:v=w
  ·subst e;rw[f_ rfl];simp
  ·have e1:¬kw v=kw w:=λz=>e (Aq z)
   have e2:(v==w)=false:=by simpa using e
   rw[gb e1,ih,e2]
theorem MF{kvs:List (List Key×V)}{k:List Key}{v:V}(h:bV kvs k=none):dJ kvs k v=kvs++[(k,v)]:=by unfold dJ;rw[ah];rw[qt,h];simp
theorem XU(vars:List (List Nat))(w:List Nat):jN (vars++[w])=jN vars++[(kw w,.int (vars.length:Int))]:=by unfold jN;rw[List.zipIdx_append,eU];simp
theorem XW(labs:List (List Nat×Nat))(w:List Nat)(n:Nat):kC (labs++[(w,n)])=kC labs++[(kw w,.int (n:Int))]:=by unfold kC;rw[eU];rfl
theorem DU(vars:List (List Nat)):(jN vars).length=vars.length:=by unfold jN;rw[aK,List.length_zipIdx]
theorem XX(labs:List (List Nat×Nat)):(kC labs).length=labs.length:=aK _
section
variable{prog:Program}{w:World}{A:Around}{E:Value->Shared->Prop}{s:Shared}
theorem XY{d:Addr}{n:Nat}(hd:(d==sysModules)=false):MeetsIn prog w (Builtin.«dict.__len__» ⟨[.ref d],[]⟩) (λ_ R s=>(∃o es ep,s.heap.get? d=some o/\o.data=.dict es ep/\es.size=n)/\R (.ok (.ret (.int (n:Int) s.toks))) {s with toks:=s.toks+1}):=.of_wp λA R s ⟨⟨o,es,ep,ho,hdat,hn⟩,h⟩=>by show wpAny _ _ (dictSize d>>=_) _ _ s;unfold dictSize;refine ag (ag (FZ ho hdat (az ?_)));show wpAny _ _ (Builtin.Dict.pendingCount d>>=_) _ _ s;refine ag (wpAny_pendingCount_other hd ?_);refine wpAny_ret_mkInt ?_;rw[Nat.add_zero,hn];exact h
theorem XZ{d:Addr}{n:Nat}{Q:Value->Shared->Prop}(hd:(d==sysModules)=false)(hm:∃o es ep,s.heap.get? d=some o/\o.ExactDict/\o.data=.dict es ep/\es.size=n)(hfit:(n:Int)<2^63) (h:Q (.int n (s.toks+1)) {s with toks:=s.toks+1+1}):wpAny (model prog w) A (call (.builtin "len") [.ref d]) Q E s:=by
 obtain⟨o,es,ep,ho,hx,hdat,hn⟩:=hm;have ty:s.TypeIs (.ref d) "dict":=⟨o,ho,hx.1⟩;refine Calls.call_function_entry kind_len plain_len entry_len (args_len1 _) ?_;unfold Builtin.«len»;refine ag (m:=oneArg "len" _) (az ?_);refine ag (m:=callSpecial? (.ref d) (Str.ofString "__len__")) (uQ (name:=Str.ofString "__len__") ty F.slot_dict_len
  (call_meetsIn F.slot_dict_len ty F.entry_dict_len (F.args_dict_len_1 _) (XY (n:=n) hd) ⟨⟨o,es,ep,ho,hdat,hn⟩,?_⟩))
 show wpAny _ _ _ _ _ {s with toks:=s.toks+1};refine ag (jb (az ?_));refine ag (wpAny_letGo ?_);show wpAny _ _ (if ((n:Nat):Int)<0 then _ else _) _ _ _;rw[ah (by omega)];show wpAny _ _ (if ((n:Nat):Int)>=2^63 then _ else _) _ _ _;rw[ah (by omega)];exact ag (wpAny_mkInt (az ⟨_,rfl,h⟩))
end
section
variable{X:Cx}
theorem MG:g_ X (.builtin "len") (λxs H Q=>∃a kvs,xs=[V.ref a]/\H a=some (.dT kvs)/\Q (.int kvs.length) H):=by
 intro pins s σ H xs us Q I r h;obtain⟨a,kvs,rfl,ha,q⟩:=h;obtain⟨u,rfl,ru⟩:=vals1 r;cases ru;obtain⟨z,hd,xs,rel,o,es,ep,ho,hx,hdat,he,_⟩:=I.hok a _ ha;have e1:es.size=kvs.length:=by have h1:kvs.length=xs.length:=bC rel;rw[h1,<-gj,he,aK]
 exact XZ hd ⟨o,es,ep,ho,hx,hdat,e1⟩ (by rw[bg]at z;omega) ⟨.int kvs.length,H,I.tok _,⟨_,rfl⟩,q⟩
end
end My
namespace My
open PySem L2
inductive MH(t:Ad)(vs:List V)(H:Hp)(Q:VK)(E:XK):Prop
 |mk (r:Addr) (A:RA) (ln:Nat) (is:List Addr) (vars:List (List Nat)) (labs:List (List Nat×Nat)) (js:List Addr) (p:Addr) (w:List Nat):vs=[.ref r,.ref p]->Raw t H r A ln is vars labs js->H p=some (.tup (iw w))->w≠[]->vars.length<=64->((dj vars w=none->∀H',E (.int (ln:Int) 0) none H'))->((∀x,dj vars w=some x->∀H',Raw t H' r A ln is x.2 labs js->a_ r A H H'->Q (.int (x.1:Int)) H'))->MH t vs H Q E
section
variable{P:Program}{w:World}{K:ax}{mg:Str->Option Value}{base:Heap}{t:Ad}
theorem X0:aQ ["self","word"] ["self","word"] (aC Kl):=aS
theorem qR(T:Txt K mg t):aG P w K mg base (fu P w t.jq) 4 t.BE t.CZ ["self","word"] (MH t):=by
 refine T.Dx.lD X0 (λvs H Q E h=>?_) (λ_ A _ s H vs Q E hr h=>?_)
 ·obtain⟨_,_,_,_,_,_,_,_,_,rfl,_⟩:=h;rfl
 ·obtain⟨r,Ad,ln,is,vars,labs,js,p,u,rfl,R,hp,hn,hv,kE,k⟩:=h;have hr2:=hr.mono (show 2<=3 by decide);have hu:=kh hr;refine⟨_,aq (aU (qe (jE (aP (DQ T) hr rfl T.xp T.qH.kp (DL T) .nil aH (aa (pv 1) af)))) (ak (mB T.xc (mQ T) (mK T) hr2 rfl rfl rfl rfl T.ku (aE (pv 0) rfl))) aW)
   (aq (aU (cR (Ag hu (pv 1) (aE (pv 0) rfl))) (aq (aU (aX bP (cp MG rfl T.c_ dA (aa (aE (pv 0) rfl) af)) (cU T.LD rfl) (aY _)) (ak (mB T.xc (mQ T) (mK T) hr2 rfl rfl rfl rfl T.ku (aE (pv 0) rfl))) aW) (ak (vN hu (aE (pv 0) rfl) (pv 1) (cp MG rfl T.c_ dA (aa (aE (pv 0) rfl) af)) rfl))) aW)
   (ak (aB (sE hu (aE (pv 0) rfl) (pv 1) (λ_ _=>rfl))))),?_⟩
  refine⟨_,rfl,p,u,rfl,hp,hn,λH1 s1=>⟨_,rfl,?_⟩⟩;have R1:=R.same s1;have hp1:=s1 _ _ hp;have hk1:H1 p=some (.tup ((kw u).map kV)):=by rw[qy];exact hp1
  refine dP (λc1=>?_) (λc1=>?_)
  ·have e:dj vars u=none:=by
    unfold dj;rw[ai (by simpa using c1)]
   exact⟨_,rfl,r,_,_,_,_,rfl,R1.ob,T.bB,T.iV,kA,_,rfl,kE e H1⟩
  have nm:¬isName u=false:=by intro z;rw[z]at c1;exact c1 rfl
  refine⟨_,rfl,_,rfl,r,_,_,_,_,rfl,R1.ob,T.bB,T.lL,oV,_,_,rfl,dt.t R1.var hk1,_,rfl,?_⟩;rw[x_];cases hf:vars.findIdx? (λx=>x==u)with
  |some i=>
   refine aA ?_;have e:dj vars u=some (i,vars):=by unfold dj;rw[ah nm,hf]
   refine⟨_,rfl,r,_,_,_,_,rfl,R1.ob,T.bB,T.lL,oV,_,rfl,_,_,rfl,?_,k _ e H1 R1 (a_.same s1)⟩;have:=dt.t R1.var hk1;rw[x_,hf]at this;exact this
  |none=>
   refine aD ?_;refine⟨_,rfl,r,_,_,_,_,rfl,R1.ob,T.bB,T.lL,oV,_,_,rfl,R1.var,rfl,_,rfl,?_⟩;rw[DU];refine dP (λc2=>?_) (λc2=>?_)
   ·have l:vars.length=64:=by
     have:=je c2;injection this with this
     omega
    have e:dj vars u=none:=by unfold dj;rw[ah nm,hf];show(if vars.length=64 then none else _)=none;rw[ai l]
    exact⟨_,rfl,r,_,_,_,_,rfl,R1.ob,T.bB,T.iV,kA,_,rfl,kE e H1⟩
   ·have l:¬vars.length=64:=λz=>by
     rw[z]at c2;exact c2 rfl
    have e:dj vars u=some (vars.length,vars++[u]):=by unfold dj;rw[ah nm,hf];show(if vars.length=64 then none else _)=_;rw[ah l]
    have DV:bV (jN vars) (kw u)=none:=by rw[x_,hf];rfl
    refine⟨_,rfl,r,_,_,_,_,rfl,R1.ob,T.bB,T.lL,oV,_,_,rfl,R1.var,_,rfl,r,_,_,_,_,rfl,R1.ob,T.bB,T.lL,oV,_,rfl,_,_,rfl,kg.t R1.var hk1 (by rw[DU,bg];omega),?_⟩;rw[MF DV,DU,<-XU];have n1:r≠Ad.va:=bp R1.ob R1.var (by intro z;cases z);have n2:p≠Ad.va:=bp hp1 R1.var (by intro z;cases z);have R2:Raw t (upd H1 Ad.va (.dT (jN (vars++[u])))) r Ad ln is (vars++[u]) labs js:=⟨by rw[ay n1];exact R1.ob,by rw[ay (bp R1.lst R1.var (by intro z;cases z))];exact R1.lst,aw,by rw[ay R1.lQ.symm];exact R1.cW,by rw[ay (bp R1.dG R1.var (by intro z;cases z))];exact R1.dG,R1.lP,R1.lQ⟩;have hk2:(upd H1 Ad.va (.dT (jN (vars++[u])))) p=some (.tup ((kw u).map kV)):=by rw[ay n2];exact hk1
    refine⟨_,rfl,r,_,_,_,_,rfl,R2.ob,T.bB,T.lL,oV,_,rfl,_,_,rfl,?_,k _ e _ R2 ((a_.same s1).trans λb o e _ _ n _ _=>by rw[ay n];exact e)⟩;have:=dt.t R2.var hk2;rw[x_]at this;have ef:((vars++[u]).findIdx? λx=>x==u)=some vars.length:=by rw[RJ,hf];simp
    rw[ef]at this;exact this
end
end My
namespace My
open PySem L2
def kD:List Str:=["self","kind","used","given","number","operator","place"]
inductive MI(t:Ad)(vs:List V)(H:Hp)(Q:VK)(e0:XK):Prop
 |mk (a dx:Addr) (kd:Str) (us gv nu op pl:V):vs=[.ref a,.str kd,us,gv,nu,op,pl]->H a=some (.ins t.iU dx [])->(∀H',H' a=some (.ins t.iU dx (e6 kd us gv nu op pl))->(∀b,b≠a->H' b=H b)->Q .au H')->MI t vs H Q e0
noncomputable def g1{α:Type}(n:α):List α->List α->List α
 |[a,b,c],[d]=>[a,b,c,d,n,n,n]
 |_,_=>[]
noncomputable def g2{α:Type}(n:α):List α->List α->List α
 |[a,b,c],[d,e]=>[a,b,c,d,e,n,n]
 |_,_=>[]
noncomputable def g3{α:Type}(n:α):List α->List α->List α
 |[a,b,c],[d,e]=>[a,b,c,d,n,e,n]
 |_,_=>[]
section
variable{P:Program}{w:World}{K:ax}{mg:Str->Option Value}{base:Heap}{t:Ad}
theorem X1:aQ kD kD (aC wm):=aS
theorem iX(T:Txt K mg t):aG P w K mg base aR 1 t.Bu t.lJ kD (MI t):=by
 obtain⟨oc,od,kV,doc,pm,an,cdv,ct,osl,e,lk,hcd⟩:=T.mI;rw[e]at lk ⊢;refine zN lk hcd X1 (λvs H Q E h=>?_) λA outer s H vs Q E hr h=>?_
 ·obtain⟨_,_,_,_,_,_,_,_,rfl,_⟩:=h;rfl
 ·obtain⟨a,dx,kd,us,gv,nu,op,pl,rfl,ha,k⟩:=h;refine⟨_,eA.g9 (aq (gH (pv 0) (pv 1) rfl) (aq (gH (pv 0) (pv 2) rfl) (aq (gH (pv 0) (pv 3) rfl) (aq (gH (pv 0) (pv 4) rfl) (aq (gH (pv 0) (pv 5) rfl) (ak (gH (pv 0) (pv 6) rfl))))))),?_⟩;have c:=T.cS;have small:∀(n:Nat)(fs:List (Str×V)),fs.length<=n->n<1000->fs.length<1000:=λn fs h1 h2=>pW h1 h2
  refine⟨_,rfl,_,rfl,a,_,dx,_,rfl,ha,c,T.bH,(by show 0<1000;decide),?_⟩;refine⟨_,rfl,_,rfl,a,_,dx,_,rfl,aw,c,T.fO,small 1 _ (fQ _ _ _) (by decide),?_⟩;refine⟨_,rfl,_,rfl,a,_,dx,_,rfl,aw,c,T.cO,small 2 _ (bE (fQ _ _ _) (iC (fQ _ _ _))) (by decide),?_⟩;refine⟨_,rfl,_,rfl,a,_,dx,_,rfl,aw,c,T.xN,small 3 _ (bE (fQ _ _ _) (iC (bE (fQ _ _ _) (iC (fQ _ _ _))))) (by decide),?_⟩;refine⟨_,rfl,_,rfl,a,_,dx,_,rfl,aw,c,T.mJ,small 4 _ (bE (fQ _ _ _) (iC (bE (fQ _ _ _) (iC (bE (fQ _ _ _) (iC (fQ _ _ _))))))) (by decide),?_⟩;refine⟨_,rfl,_,rfl,a,_,dx,_,rfl,aw,c,T.fv,small 5 _ (bE (fQ _ _ _) (iC (bE (fQ _ _ _) (iC (bE (fQ _ _ _) (iC (bE (fQ _ _ _) (iC (fQ _ _ _))))))))) (by decide),?_⟩;exact k _ aw λb hb=>by rw[ay hb,ay hb,ay hb,ay hb,ay hb,ay hb]
theorem ya(T:Txt K mg t):Binds K t.lJ kD [.none,.none,.none,.none]:=by
 obtain⟨oc,od,kV,doc,pm,an,cdv,ct,osl,e,lk,hcd⟩:=T.mI;obtain⟨o,n,ho,hs⟩:=T.oM;rw[e];intro s us X hl;have h3:us.length=3:=by rw[bo]at hl;simp[kD]at hl;omega
 obtain⟨x,y,z,rfl⟩:=DJ h3;exact uY X rfl ho hs rfl rfl
theorem kb1(T:Txt K mg t):nU K t.lJ kD ["given"] (g1 .none) (g1 .au):=by
 obtain⟨oc,od,kV,doc,pm,an,cdv,ct,osl,e,lk,hcd⟩:=T.mI;obtain⟨o,n,ho,hs⟩:=T.oM;rw[e];refine⟨λs us ws X hl=>?_,λ{vs us zs ws} r q=>?_⟩
 ·match us,ws,hl with
  |[x,y,z],[u],_=>exact uY X rfl ho hs rfl rfl
 ·cases r with
  |nil=>exact .nil
  |cons r1 r=>cases r with
   |nil=>exact .nil
   |cons r2 r=>cases r with
    |nil=>exact .nil
    |cons r3 r=>cases r with
     |cons r4 r=>exact .nil
     |nil=>cases q with
      |nil=>exact .nil
      |cons q1 q=>cases q with
       |cons q2 q=>exact .nil
       |nil=>exact .cons r1 (.cons r2 (.cons r3 (.cons q1 (.cons rfl (.cons rfl (.cons rfl .nil))))))
theorem kb2(T:Txt K mg t):nU K t.lJ kD ["given","number"] (g2 .none) (g2 .au):=by
 obtain⟨oc,od,kV,doc,pm,an,cdv,ct,osl,e,lk,hcd⟩:=T.mI;obtain⟨o,n,ho,hs⟩:=T.oM;rw[e];refine⟨λs us ws X hl=>?_,λ{vs us zs ws} r q=>?_⟩
 ·match us,ws,hl with
  |[x,y,z],[u,v],_=>exact uY X rfl ho hs rfl rfl
 ·cases r with
  |nil=>exact .nil
  |cons r1 r=>cases r with
   |nil=>exact .nil
   |cons r2 r=>cases r with
    |nil=>exact .nil
    |cons r3 r=>cases r with
     |cons r4 r=>exact .nil
     |nil=>cases q with
      |nil=>exact .nil
      |cons q1 q=>cases q with
       |nil=>exact .nil
       |cons q2 q=>cases q with
        |cons q3 q=>exact .nil
        |nil=>exact .cons r1 (.cons r2 (.cons r3 (.cons q1 (.cons q2 (.cons rfl (.cons rfl .nil))))))
theorem X2(T:Txt K mg t):nU K t.lJ kD ["given","operator"] (g3 .none) (g3 .au):=by
 obtain⟨oc,od,kV,doc,pm,an,cdv,ct,osl,e,lk,hcd⟩:=T.mI;obtain⟨o,n,ho,hs⟩:=T.oM;rw[e];refine⟨λs us ws X hl=>?_,λ{vs us zs ws} r q=>?_⟩
 ·match us,ws,hl with
  |[x,y,z],[u,v],_=>exact uY X rfl ho hs rfl rfl
 ·cases r with
  |nil=>exact .nil
  |cons r1 r=>cases r with
   |nil=>exact .nil
   |cons r2 r=>cases r with
    |nil=>exact .nil
    |cons r3 r=>cases r with
     |cons r4 r=>exact .nil
     |nil=>cases q with
      |nil=>exact .nil
      |cons q1 q=>cases q with
       |nil=>exact .nil
       |cons q2 q=>cases q with
        |cons q3 q=>exact .nil
        |nil=>exact .cons r1 (.cons r2 (.cons r3 (.cons q1 (.cons rfl (.cons q2 (.cons rfl .nil))))))
end
end My
namespace My
open PySem L2
theorem gQ{H2 H':Hp}{x dx C:Addr}(nx:H2 x=none)(nd:H2 dx=none)(h2:∀b,b≠x->H' b=(upd (upd H2 dx (.own x)) x (.ins C dx [])) b):ae H2 H':=λb o e=>by have n1:=aJ e nx;rw[h2 b n1,ay n1,ay (aJ e nd)];exact e
theorem Raw.oW{t:Ad}{H H':Hp}{r:Addr}{A:RA}{ln:Nat}{is js:List Addr}{vars:List (List Nat)}{labs:List (List Nat×Nat)}(R':Raw t H' r A ln is vars labs js)(k:a_ r A H H'){b:Addr}(e:H' b=none):H b=none:=by
 cases q:H b with
 |none=>rfl
 |some o=>rw[k b o q (aJ R'.ob e).symm (aJ R'.lst e).symm (aJ R'.var e).symm (aJ R'.cW e).symm (aJ R'.dG e).symm]at e;cases e
theorem X3{c:Bool}{U:(Bool->Hp->Prop)->Prop}{Q:Bool->Hp->Prop}{H:Hp}(b:Bool)(hU:c=true->Q b H->U Q)(hb:c=false->b=false)(k:Q b H):if c=true then U Q else Q false H:=by
 cases c with
 |true=>exact aD (hU rfl k)
 |false=>rw[hb rfl]at k;exact aA k
theorem d5(n m:Nat):decide (V.int (n:Int)=V.int (m:Int))=decide (n=m):=by
 rw[nA];constructor
 ·intro h;injection h with h
  omega
 ·rintro rfl
  rfl
theorem iY{H:Hp}{q:Addr}{ws:List (List Nat)}(h:b_ H q ws):∃rs:List Addr,H q=some (.lst (rs.map V.ref))/\rs.length=ws.length/\∀i,i<ws.length->∃p,(rs.map V.ref)[i]? =some (V.ref p)/\H p=some (.tup (iw (ws.getD i []))):=by
 obtain⟨rs,h1,h2⟩:=h;refine⟨rs,h1,bC h2,?_⟩;clear h1
 induction h2 with
 |nil=>exact λi hi=>absurd hi (by simp)
 |cons r _ ih=>
  intro i hi;cases i with
  |zero=>exact⟨_,rfl,r⟩
  |succ i=>obtain⟨p,h1,h2⟩:=ih i (by simpa using hi);exact⟨p,by simpa using h1,h2⟩
theorem kF{ws:List (List Nat)}(h:∀w∈ws,w≠[]){i:Nat}(hi:i<ws.length):ws.getD i []≠[]:=by rw[fJ,aN hi];exact h _ (zl hi)
theorem MJ{vars:List (List Nat)}{w:List Nat}{x:Nat×List (List Nat)}(hv:vars.length<=64)(h:dj vars w=some x):x.2.length<=64:=by
 rw[cb hv]at h;split at h
 ·rename_i c
  cases h;exact c.2
 ·cases h
inductive MK(t:Ad)(vs:List V)(H:Hp)(Q:VK)(E:XK):Prop
 |mk (r:Addr) (A:RA) (ln:Nat) (is:List Addr) (vars:List (List Nat)) (labs:List (List Nat×Nat)) (js:List Addr) (p:Addr) (w:List Nat) (a:Addr):vs=[.ref r,.ref p,.ref a]->Raw t H r A ln is vars labs js->H p=some (.tup (iw w))->w≠[]->js.length<=1000->((isName w=false->∀H',E (.int (ln:Int) 0) none H'))->((isName w=true->∀j H',Raw t H' r A ln is vars labs (js++[j])->a_ r A H H'->H j=none->H' j=some (.tup [.ref a,.ref p,.int (ln:Int)])->Q (.ref a) H'))->MK t vs H Q E
inductive ML(t:Ad)(vs:List V)(H:Hp)(Q:VK)(E:XK):Prop
 |mk (r:Addr) (A:RA) (ln:Nat) (is:List Addr) (vars:List (List Nat)) (labs:List (List Nat×Nat)) (js:List Addr) (q:Addr) (ws:List (List Nat)):vs=[.ref r,.ref q]->Raw t H r A ln is vars labs js->b_ H q ws->q≠A.li->q≠A.ju->((∀w∈ws,w≠[]))->3<=ws.length->vars.length<=64->((cV vars ws=none->∀H',E (.int (ln:Int) 0) none H'))->((∀x,cV vars ws=some x->∀a H',Raw t H' r A ln is x.2 labs js->a_ r A H H'->H a=none->dF t H' a x.1 .au->Q (.ref a) H'))->ML t vs H Q E
section
variable{P:Program}{w:World}{K:ax}{mg:Str->Option Value}{base:Heap}{t:Ad}
theorem X4:aQ ["self","label","instruction"] ["self","label","instruction"] (aC Km):=aS
theorem MM(T:Txt K mg t):aG P w K mg base (fu P w t.jq) 4 t.BF t.C0 ["self","label","instruction"] (MK t):=by
 refine T.Dy.lD X4 (λvs H Q E h=>?_) (λ_ A _ s H vs Q E hr h=>?_)
 ·obtain⟨_,_,_,_,_,_,_,_,_,_,rfl,_⟩:=h;rfl
 ·obtain⟨r,Ad,ln,is,vars,labs,js,p,u,a,rfl,R,hp,hn,hj,kE,k⟩:=h;have hr2:=hr.mono (show 2<=3 by decide);refine⟨_,aq (aU (qe (jE (aP (DQ T) hr rfl T.xp T.qH.kp (DL T) .nil aH (aa (pv 1) af)))) (ak (mB T.xc (mQ T) (mK T) hr2 rfl rfl rfl rfl T.ku (aE (pv 0) rfl))) aW)
   (aq (fk (gJ gq j7 j8 jk (aE (pv 0) rfl) (aa (fM (aa (pv 2) (aa (pv 1) (aa (aE (pv 0) rfl) af)))) af)))
   (ak (aB (pv 2)))),?_⟩
  refine⟨_,rfl,p,u,rfl,hp,hn,λH1 s1=>⟨_,rfl,?_⟩⟩;have R1:=R.same s1;refine dP (λc1=>?_) (λc1=>?_)
  ·exact⟨_,rfl,r,_,_,_,_,rfl,R1.ob,T.bB,T.iV,kA,_,rfl,kE (by simpa using c1) H1⟩
  have nm:isName u=true:=by simpa using c1
  refine⟨_,rfl,r,_,_,_,_,rfl,R1.ob,T.bB,T.xO,MA,.inl ⟨rfl,_,aj.of R1.dG⟩,_,rfl,_,rfl,_,rfl,r,_,_,_,_,rfl,R1.ob,T.bB,T.iV,kA,(by show 3<=sizeLine;decide),λj hj1=>?_⟩;have R2:=R1.same (ae.new (o:=.tup [.ref a,.ref p,.int (ln:Int)]) hj1);refine⟨_,_,_,rfl,rfl,R2.dG,(by rw[aK,bg];omega),?_⟩;have nj:j≠Ad.ju:=(aJ R1.dG hj1).symm;refine⟨_,rfl,k nm j _ ⟨?_,?_,?_,?_,?_,R2.lP,R2.lQ⟩ ?_ (s1.free hj1) ?_⟩
  ·rw[ay (bp R2.ob R2.dG (by intro z;cases z))];exact R2.ob
  ·rw[ay R2.lP];exact R2.lst
  ·rw[ay (bp R2.var R2.dG (by intro z;cases z))];exact R2.var
  ·rw[ay (bp R2.cW R2.dG (by intro z;cases z))];exact R2.cW
  ·rw[aw,eU];rfl
  ·intro b o e _ _ _ _ n;rw[ay n];exact ae.new hj1 _ _ (s1 _ _ e)
  ·rw[ay nj];exact aw
theorem MN:aQ ["self","words","given","used","number"] ["self","words"] (aC Kk):=aS
theorem X5(T:Txt K mg t):aG P w K mg base (fu P w t.jq) 5 t.BD t.CY ["self","words"] (ML t):=by
 refine T.Dw.lD MN (λvs H Q E h=>?_) (λ_ A _ s H vs Q E hr h=>?_)
 ·obtain⟨_,_,_,_,_,_,_,_,_,rfl,_⟩:=h;rfl
 ·obtain⟨r,Ad,ln,is,vars,labs,js,q,ws,rfl,R,hL,eG,eI,hne,h3,hv,kE,k⟩:=h;have hr1:=hr.mono (show 1<=4 by decide);have hr2:=hr.mono (show 2<=4 by decide);have nd:=MN.nd;refine⟨_,aq (aZ (i:=2) nd rfl (Or.inl rfl) (iL (pv 0) T.bB T.oK (qR T) hr (qM T) .nil (gL rfl rfl) (aa (bc bA (pv 1) aL (λ_ _=>rfl)) af)))
   (aq (aU (PW.pt (jg (aX bP (cp dE rfl T.c_ dA (aa (pv 1) af)) aL (aY _)) (jF (jE (aP (Xo T) hr1 rfl T.KD T.w_.kp (V_ T) .nil aH (aa (bc bA (pv 1) aL (λ_ _=>rfl)) af)))))) (aq (aZ (i:=3) nd rfl (Or.inl rfl) (fM (aa (iL (pv 0) T.bB T.oK (qR T) hr (qM T) .nil (gL rfl rfl) (aa (bc bA (pv 1) aL (λ_ _=>rfl)) af)) (aa (iL (pv 0) T.bB T.oK (qR T) hr (qM T) .nil (gL rfl rfl) (aa (bc bA (pv 1) aL (λ_ _=>rfl)) af)) af)))) (ak (aB (lG T.ie (iX T) hr2 rfl T.ic (X2 T) aH (aa bJ (aa (pv 3) af)) (h_ (pv 2) (h_ (bc bA (pv 1) aL (λ_ _=>rfl)) lA)))))) aW)
   (aq (aU (aX vy (cp dE rfl T.c_ dA (aa (pv 1) af)) aL (aY _)) (ak (mB T.xc (mQ T) (mK T) hr2 rfl rfl rfl rfl T.ku (aE (pv 0) rfl))) aW)
   (aq (aU (aX (jK hr.units) (bc bA (pv 1) aL (λ_ _=>rfl)) (aP (fC T) hr1 rfl T.eZ T.dX.kp (fA T) .nil aH (aa bJ af)) (aY _)) (ak (aB (lG T.ie (iX T) hr2 rfl T.ic (kb1 T) aH (aa bJ (aa (fM af) af)) (h_ (pv 2) lA)))) aW)
   (aq (aZ (i:=4) nd rfl (Or.inl rfl) (aP (Xk T) hr2 rfl T.KR T.xq.kp (Wk T) .nil aH (aa (bc bA (pv 1) aL (λ_ _=>rfl)) af)))
   (aq (aU (cR (mm (pv 4))) (ak (aB (lG T.ie (iX T) hr2 rfl T.ic (kb2 T) aH (aa bJ (aa (fM af) af)) (h_ (pv 2) (h_ (pv 4) lA))))) aW)
   (ak (aB (lG T.ie (iX T) hr2 rfl T.ic (kb1 T) aH (aa bJ (aa (fM (aa (iL (pv 0) T.bB T.oK (qR T) hr (qM T) .nil (gL rfl rfl) (aa (bc bA (pv 1) aL (λ_ _=>rfl)) af)) af)) af)) (h_ (pv 2) lA))))))))),?_⟩
  obtain⟨rs0,oX,MO,MP⟩:=iY hL;obtain⟨p0,i0,hp0⟩:=MP 0 (by omega);refine⟨_,rfl,r,_,_,rfl,R.ob,qQ,_,rfl,q,_,_,_,rfl,rfl,aj.of oX,bq i0,r,Ad,ln,is,vars,labs,js,p0,_,rfl,R,hp0,kF hne (by omega),hv,λe=>?_,λd ed H1 R1 k1=>?_⟩
  ·refine kE ?_;unfold cV;rw[e,md]
  have L1:=R.gP k1 hL eG eI;have hv1:=MJ hv ed;obtain⟨rs1,hq1,DW,yb⟩:=iY L1;unfold cV at kE k;rw[ed,g8]at kE k;have oY:(rs1.map V.ref).length=ws.length:=by rw[aK,DW]
  refine⟨_,rfl,q,_,rfl,.inl (aj.of hq1),rfl,_,rfl,?_⟩;rw[oY];refine X3 (decide (ws.length=5/\(Sz43.ops.findIdx? λx=>x==ws.getD 3 []).isSome=true)) (λc kk=>?_) (λc=>?_) ?_
  ·have l5:ws.length=5:=je ((d5 ws.length 5).symm.trans c);obtain⟨p3,i3,hp3⟩:=yb 3 (by omega);refine⟨_,rfl,q,_,_,_,rfl,rfl,aj.of hq1,bq i3,p3,_,rfl,hp3,_,rfl,?_⟩;have e:decide (ws.length=5/\(Sz43.ops.findIdx? λx=>x==ws.getD 3 []).isSome=true)=(Sz43.ops.findIdx? λx=>x==ws.getD 3 []).isSome:=by
    cases(Sz43.ops.findIdx? λx=>x==ws.getD 3 []).isSome<;>simp[l5]
   rw[e]at kk;exact kk
  ·have l5:¬ws.length=5:=j6 ((d5 ws.length 5).symm.trans c);exact a9 λz=>l5 z.1
  by_cases h5:ws.length=5/\(Sz43.ops.findIdx? λx=>x==ws.getD 3 []).isSome=true
  ·rw[bx h5];refine aD ?_;rw[ai h5]at kE k;have l5:=h5.1;obtain⟨n,hn⟩:=rD.mp h5.2;obtain⟨n12,en⟩:=Ml hn;obtain⟨p2,i2,hp2⟩:=yb 2 (by omega);refine⟨_,rfl,r,_,_,rfl,R1.ob,qQ,_,rfl,q,_,_,_,rfl,rfl,aj.of hq1,bq i2,r,Ad,ln,is,d.2,labs,js,p2,_,rfl,R1,hp2,kF hne (by omega),hv1,λe=>?_,λa ea H2 R2 k2=>?_⟩
   ·refine kE ?_;rw[e,md]
   have L2:=R1.gP k2 L1 eG eI;have hv2:=MJ hv1 ea;obtain⟨DX,hq2,DY,oZ⟩:=iY L2;obtain⟨p4,i4,hp4⟩:=oZ 4 (by omega);rw[ea,g8]at kE k;refine⟨_,rfl,r,_,_,rfl,R2.ob,qQ,_,rfl,q,_,_,_,rfl,rfl,aj.of hq2,bq i4,r,Ad,ln,is,a.2,labs,js,p4,_,rfl,R2,hp4,kF hne (by omega),hv2,λe=>?_,λb eb H3 R3 k3=>?_⟩
   ·refine kE ?_;rw[e,md]
   have L3:=R2.gP k3 L2 eG eI;rw[eb,g8,hn]at k;refine⟨(by show 2<=sizeLine;decide),λu hu=>?_⟩;have s4:=ae.new (o:=.tup [.int (a.1:Int),.int (b.1:Int)]) hu;have R4:=R3.same s4;have L4:=R3.gP (a_.same s4) L3 eG eI;obtain⟨rs4,yc,X6,yd⟩:=iY L4;obtain⟨p3,i3,hp3⟩:=yd 3 (by omega);refine⟨_,rfl,_,rfl,_,rfl,q,_,_,_,rfl,rfl,aj.of yc,bq i3,λx dx nx cP ij=>⟨x,dx,"operator",_,_,_,_,_,rfl,aw,λH5 h1 h2=>⟨rfl,?_⟩⟩⟩;have s5:=gQ nx cP h2;have k5:a_ r Ad H H5:=k1.trans (k2.trans (k3.trans (a_.same (s4.trans s5))));refine k _ rfl x H5 (R4.same s5) k5 (R3.oW (k1.trans (k2.trans k3)) (s4.free nx)) ⟨dx,u,.ref p3,h1,s5 _ _ aw,n12,p3,rfl,?_⟩;show H5 p3=some (.tup (iw (Sz43.ops.getD n [])));rw[en];exact s5 _ _ hp3
  rw[a9 h5];refine aA ?_;rw[ah h5]at kE k;refine⟨_,rfl,q,_,rfl,.inl (aj.of hq1),rfl,_,rfl,?_⟩;rw[oY,show(V.int 3)=V.int ((3:Nat):Int) from rfl,d5];by_cases h3':ws.length=3
  case neg=>rw[a9 h3'];refine aD ?_;rw[ai h3']at kE;exact⟨_,rfl,r,_,_,_,_,rfl,R1.ob,T.bB,T.iV,kA,_,rfl,kE rfl H1⟩
  rw[bx h3'];refine aA ?_;rw[ah (by simpa using h3')]at kE k;obtain⟨p2,i2,hp2⟩:=yb 2 (by omega);refine⟨_,rfl,q,_,_,_,rfl,rfl,aj.of hq1,bq i2,_,rfl,(by decide+kernel),λpr H2 s2 f2 e2=>?_⟩;have R2:=R1.same s2;have L2:=R1.gP (a_.same s2) L1 eG eI;have X7:=s2 _ _ hp2;refine⟨_,_,lE X7,lE e2,wc _,wc _,_,rfl,?_⟩;rw[qz];have er:(Str.ofString "read").cps.toList=ascii "read":=by decide+kernel
  rw[er];by_cases hrd:ws.getD 2 []=ascii "read"
  ·rw[bx hrd];refine aD ?_;rw[ai hrd]at k;refine⟨(by show 0<=sizeLine;decide),λu hu=>⟨_,rfl,λx dx nx cP ij=>⟨x,dx,"read",_,_,_,_,_,rfl,aw,λH5 h1 h2=>⟨rfl,?_⟩⟩⟩⟩;have s4:=ae.new (o:=.tup []) hu;have s5:=gQ nx cP h2;exact k _ rfl x H5 ((R2.same s4).same s5) (k1.trans (a_.same (s2.trans (s4.trans s5)))) (R2.oW (k1.trans (a_.same s2)) (s4.free nx)) ⟨dx,u,.au,h1,s5 _ _ aw,rfl⟩
  rw[a9 hrd];refine aA ?_;rw[ah hrd]at kE k;obtain⟨DX,hq2,DY,oZ⟩:=iY L2;obtain⟨p2,i2,hp2⟩:=oZ 2 (by omega);refine⟨_,rfl,q,_,_,_,rfl,rfl,aj.of hq2,bq i2,p2,_,rfl,hp2,kF hne (by omega),λH3 s3=>?_⟩;have R3:=R2.same s3;have L3:=R2.gP (a_.same s3) L2 eG eI;refine⟨_,rfl,_,rfl,?_⟩;cases hz:numberOf (ws.getD 2 [])with
  |some z=>rw[hz]at k;refine aD ?_;refine⟨(by show 0<=sizeLine;decide),λu hu=>⟨_,rfl,_,rfl,λx dx nx cP ij=>⟨x,dx,"number",_,_,_,_,_,rfl,aw,λH5 h1 h2=>⟨rfl,?_⟩⟩⟩⟩;have s4:=ae.new (o:=.tup []) hu;have s5:=gQ nx cP h2;exact k _ rfl x H5 ((R3.same s4).same s5) (k1.trans (a_.same ((s2.trans s3).trans (s4.trans s5)))) (R3.oW (k1.trans (a_.same (s2.trans s3))) (s4.free nx)) ⟨dx,u,.au,h1,s5 _ _ aw,rfl⟩
  |none=>
   rw[hz]at kE k;refine aA ?_;obtain⟨rs3,qT,X8,get3⟩:=iY L3;obtain⟨p2,i2,hp2⟩:=get3 2 (by omega);refine⟨_,rfl,r,_,_,rfl,R3.ob,qQ,_,rfl,q,_,_,_,rfl,rfl,aj.of qT,bq i2,r,Ad,ln,is,d.2,labs,js,p2,_,rfl,R3,hp2,kF hne (by omega),hv1,λe=>?_,λa ea H4 R4 k4=>?_⟩
   ·exact kE (by show(dj d.2 (ws.getD 2 [])).bind _=none;rw[e,md])
   refine⟨(by show 1<=sizeLine;decide),λu hu=>⟨_,rfl,λx dx nx cP ij=>⟨x,dx,"copy",_,_,_,_,_,rfl,aw,λH5 h1 h2=>⟨rfl,?_⟩⟩⟩⟩;have s4:=ae.new (o:=.tup [.int (a.1:Int)]) hu;have s5:=gQ nx cP h2;refine k (.copy d.1 a.1,a.2) (by show(dj d.2 (ws.getD 2 [])).bind _=_;rw[ea,g8]) x H5 ((R4.same s4).same s5) ((k1.trans (a_.same (s2.trans s3))).trans (k4.trans (a_.same (s4.trans s5)))) (R4.oW ((k1.trans (a_.same (s2.trans s3))).trans k4) (s4.free nx)) ⟨dx,u,.au,h1,s5 _ _ aw,rfl⟩
end
end My
namespace My
open PySem L2
theorem o6{c:Bool}{U:(Bool->Hp->Prop)->Prop}{Q:Bool->Hp->Prop}{H:Hp}(R:Hp->Prop)(b:Bool)(hU:c=true->(∀H',R H'->Q b H')->U Q)(hb:c=false->b=false/\R H)(k:∀H',R H'->Q b H'):if c=true then U Q else Q false H:=by
 cases c with
 |true=>exact aD (hU rfl k)
 |false=>obtain⟨h1,h2⟩:=hb rfl;have:=k H h2;rw[h1]at this;exact aA this
def MQ(H H':Hp)(ln:Nat)(a:Addr)(js js':List Addr):Option (List Nat)->Prop
 |none=>js'=js
 |some n=>∃j p,js'=js++[j]/\H' j=some (.tup [.ref a,.ref p,.int (ln:Int)])/\H' p=some (.tup (iw n))
inductive MR(t:Ad)(vs:List V)(H:Hp)(Q:VK)(E:XK):Prop
 |mk (r:Addr) (A:RA) (ln:Nat) (is:List Addr) (vars:List (List Nat)) (labs:List (List Nat×Nat)) (js:List Addr) (q:Addr) (ws:List (List Nat)):vs=[.ref r,.ref q]->Raw t H r A ln is vars labs js->b_ H q ws->q≠A.li->q≠A.ju->((∀w∈ws,w≠[]))->vars.length<=64->js.length<=1000->((bI vars ws=none->∀H',E (.int (ln:Int) 0) none H'))->((∀x,bI vars ws=some x->∀a js' H',Raw t H' r A ln is x.2.1 labs js'->a_ r A H H'->H a=none->dF t H' a x.1 .au->MQ H H' ln a js js' x.2.2->Q (.ref a) H'))->MR t vs H Q E
section
variable{P:Program}{w:World}{K:ax}{mg:Str->Option Value}{base:Heap}{t:Ad}
theorem X9{a b:TT}{σ:St}{H:Hp}{Q:Bool->Hp->Prop}(h:a σ H λc H1=>if c=true then b σ H1 Q else Q false H1):zx a b σ H Q:=h
theorem o7{σ:St}{H0:Hp}{q:Addr}{ws:List (List Nat)}{i:Nat}{x:Str}{Qb:Bool->Hp->Prop}(hσ:σ[1]? =some (some (.ref q)))(L0:b_ H0 q ws)(hi:i<ws.length)(hx:x.cps.size<=100)(wd:List Nat)(hw:x.cps.toList=wd) (k:∀H',ae H0 H'->Qb (decide (ws.getD i []=wd)) H'):nN (gG (vG K) (gG (nW K) (dS 1) (tC (.int (i:Int)))) (sf xU [] E0 (ke (tC (.str x)) kc))) σ H0 Qb:=by
 obtain⟨rs,hq,lrs,get⟩:=iY L0;obtain⟨p,ip,hp⟩:=get i hi;refine⟨_,hσ,q,_,_,_,rfl,rfl,aj.of hq,bq ip,x,rfl,hx,λpr H2 s2 f2 e2=>?_⟩;refine⟨_,_,lE (s2 _ _ hp),lE e2,wc _,wc _,_,rfl,?_⟩;rw[qz,hw];exact k H2 s2
theorem MS:aQ ["self","words","size"] ["self","words"] (aC Kj):=aS
theorem X_(T:Txt K mg t):aG P w K mg base (fu P w t.jq) 6 t.BC t.CW ["self","words"] (MR t):=by
 refine T.Dv.lD MS (λvs H Q E h=>?_) (λ_ A _ s H vs Q E hr h=>?_)
 ·obtain⟨_,_,_,_,_,_,_,_,_,rfl,_⟩:=h;rfl
 ·obtain⟨r,Ad,ln,is,vars,labs,js,q,ws,rfl,R,hL,eG,eI,hne,hv,hj,kE,k⟩:=h;have hr1:=hr.mono (show 1<=5 by decide);have hr2:=hr.mono (show 2<=5 by decide);have ik:=hr.mono (show 4<=5 by decide);have nd:=MS.nd;have vd:Vals [.au,.au,.au,.au] [Value.none,.none,.none,.none]:=.cons rfl (.cons rfl (.cons rfl (.cons rfl .nil)));refine⟨_,aq (aZ (i:=2) nd rfl (Or.inl rfl) (cp dE rfl T.c_ dA (aa (pv 1) af)))
   (aq (aU (PW.pt (jg (aX S0 (pv 2) aL (aY _)) (jF (aX (jK hr.units) (bc bA (pv 1) aL (λ_ _=>rfl)) (aP (fC T) hr1 rfl T.eZ T.dX.kp (fA T) .nil aH (aa bJ af)) (aY _))))) (ak (aB (iL (pv 0) T.bB T.Lj (X5 T) hr (WK T) .nil (gL rfl rfl) (aa (pv 1) af)))) aW)
   (aq (aU (PW.pt (jg (aX bP (pv 2) aL (aY _)) (jF (aX (jK hr.units) (bc bA (pv 1) aL (λ_ _=>rfl)) (aP (fC T) hr1 rfl T.eZ T.dX.kp (fA T) .nil aH (aa bJ af)) (aY _))))) (ak (aB (qp T.ie (iX T) hr2 rfl T.ic (ya T) vd aH (aa bJ (aa (fM (aa (iL (pv 0) T.bB T.oK (qR T) ik (qM T) .nil (gL rfl rfl) (aa (bc bA (pv 1) aL (λ_ _=>rfl)) af)) af)) af))))) aW)
   (aq (aU (PW.pt (jg (aX bP (pv 2) aL (aY _)) (jF (aX (jK hr.units) (bc bA (pv 1) aL (λ_ _=>rfl)) (aP (fC T) hr1 rfl T.eZ T.dX.kp (fA T) .nil aH (aa bJ af)) (aY _))))) (ak (aB (iL (pv 0) T.bB T.Dz (MM T) ik (L8 T) .nil (gL rfl rfl) (aa (bc bA (pv 1) aL (λ_ _=>rfl)) (aa (qp T.ie (iX T) hr2 rfl T.ic (ya T) vd aH (aa bJ (aa (fM af) af))) af))))) aW)
   (aq (aU (PW.pt (jg (aX bP (pv 2) aL (aY _)) (jg (aX (jK hr.units) (bc bA (pv 1) aL (λ_ _=>rfl)) (aP (fC T) hr1 rfl T.eZ T.dX.kp (fA T) .nil aH (aa bJ af)) (aY _)) (jF (aX (jK hr.units) (bc bA (pv 1) aL (λ_ _=>rfl)) (aP (fC T) hr1 rfl T.eZ T.dX.kp (fA T) .nil aH (aa bJ af)) (aY _)))))) (ak (aB (iL (pv 0) T.bB T.Dz (MM T) ik (L8 T) .nil (gL rfl rfl) (aa (bc bA (pv 1) aL (λ_ _=>rfl)) (aa (qp T.ie (iX T) hr2 rfl T.ic (ya T) vd aH (aa bJ (aa (fM (aa (iL (pv 0) T.bB T.oK (qR T) ik (qM T) .nil (gL rfl rfl) (aa (bc bA (pv 1) aL (λ_ _=>rfl)) af)) af)) af))) af))))) aW)
   (aq (aU (PW.pt (jg (aX bP (pv 2) aL (aY _)) (jF (aX (jK hr.units) (bc bA (pv 1) aL (λ_ _=>rfl)) (aP (fC T) hr1 rfl T.eZ T.dX.kp (fA T) .nil aH (aa bJ af)) (aY _))))) (ak (aB (qp T.ie (iX T) hr2 rfl T.ic (ya T) vd aH (aa bJ (aa (fM af) af))))) aW)
   (ak (mB T.xc (mQ T) (mK T) hr2 rfl rfl rfl rfl T.ku (aE (pv 0) rfl)))))))),?_⟩
  obtain⟨rs0,oX,MO,MP⟩:=iY hL;have ln0:(rs0.map V.ref).length=ws.length:=by rw[aK,MO]
  refine⟨_,rfl,q,_,rfl,.inl (aj.of oX),?_⟩;rw[ln0];refine⟨_,rfl,_,_,rfl,rfl,_,rfl,?_⟩;refine o6 (ae H) (decide (3<=ws.length/\ws.getD 1 []=ascii "=")) (λc kk=>?_) (λc=>⟨?_,ae.refl H⟩) λH1 s1=>?_
  ·have c:=je c;refine o7 (i:=1) (x:="=") rfl hL (by omega) (by decide+kernel) (ascii "=") (by decide+kernel) λH' s'=>?_
   have e:decide (3<=ws.length/\ws.getD 1 []=ascii "=")=decide (ws.getD 1 []=ascii "="):=nA.mpr ⟨λz=>z.2,λz=>⟨by omega,z⟩⟩;rw[<-e];exact kk H' s'
  ·have c:=j6 c;exact a9 λz=>c (by omega)
  by_cases t1:3<=ws.length/\ws.getD 1 []=ascii "="
  ·rw[bx t1];refine aD ?_;have R1:=R.same s1;have L1:=R.gP (a_.same s1) hL eG eI;unfold bI at kE k;rw[ai t1]at kE k;refine⟨_,rfl,r,_,_,rfl,R1.ob,XQ,_,rfl,r,Ad,ln,is,vars,labs,js,q,ws,rfl,R1,L1,eG,eI,hne,t1.1,hv,λe=>kE (by rw[e,md]),λx ex a H2 R2 k2 f2 i2=>?_⟩;exact k (x.1,x.2,none) (by rw[ex,g8]) a js H2 R2 ((a_.same s1).trans k2) (s1.free f2) i2 rfl
  rw[a9 t1];refine aA ?_;have g1:bI vars ws=bI vars ws:=rfl
  conv at g1=>
   rhs
   unfold bI
  rw[ah t1]at g1;have R1:=R.same s1;have L1:=R.gP (a_.same s1) hL eG eI;refine⟨_,rfl,rfl,_,rfl,?_⟩;refine o6 (ae H1) (decide (ws.length=2/\ws.getD 0 []=ascii "print")) (λc kk=>?_) (λc=>⟨?_,ae.refl H1⟩) λH2 s2=>?_
  ·have c:=je ((d5 ws.length 2).symm.trans c);refine o7 (i:=0) (x:="print") rfl L1 (by omega) (by decide+kernel) (ascii "print") (by decide+kernel) λH' s'=>?_
   have e:decide (ws.length=2/\ws.getD 0 []=ascii "print")=decide (ws.getD 0 []=ascii "print"):=nA.mpr ⟨λz=>z.2,λz=>⟨by omega,z⟩⟩;rw[<-e];exact kk H' s'
  ·have c:=j6 ((d5 ws.length 2).symm.trans c);exact a9 λz=>c z.1
  have R2:=R1.same s2;have L2:=R1.gP (a_.same s2) L1 eG eI;obtain⟨DX,hq2,DY,oZ⟩:=iY L2;by_cases t2:ws.length=2/\ws.getD 0 []=ascii "print"
  ·rw[bx t2];refine aD ?_;rw[g1,ai t2]at kE k;obtain⟨p1,i1,hp1⟩:=oZ 1 (by omega);refine⟨_,rfl,r,_,_,rfl,R2.ob,qQ,_,rfl,q,_,_,_,rfl,rfl,aj.of hq2,bq i1,r,Ad,ln,is,vars,labs,js,p1,_,rfl,R2,hp1,kF hne (by omega),hv,λe=>kE (by rw[e,md]),λa ea H3 R3 k3=>?_⟩;refine⟨(by show 1<=sizeLine;decide),λu hu=>λx dx nx cP ij=>⟨x,dx,"print",_,_,_,_,_,rfl,aw,λH5 h1 h2=>⟨rfl,?_⟩⟩⟩;have s4:=ae.new (o:=.tup [.int (a.1:Int)]) hu;have s5:=gQ nx cP h2;have k13:a_ r Ad H H3:=(a_.same (s1.trans s2)).trans k3;exact k (.print a.1,a.2,none) (by rw[ea,g8]) x js H5 ((R3.same s4).same s5) (k13.trans (a_.same (s4.trans s5))) (R3.oW k13 (s4.free nx)) ⟨dx,u,.au,h1,s5 _ _ aw,rfl⟩ rfl
  rw[a9 t2];refine aA ?_;rw[ah t2]at g1;refine⟨_,rfl,rfl,_,rfl,?_⟩;refine o6 (ae H2) (decide (ws.length=2/\ws.getD 0 []=ascii "goto")) (λc kk=>?_) (λc=>⟨?_,ae.refl H2⟩) λH3 s3=>?_
  ·have c:=je ((d5 ws.length 2).symm.trans c);refine o7 (i:=0) (x:="goto") rfl L2 (by omega) (by decide+kernel) (ascii "goto") (by decide+kernel) λH' s'=>?_
   have e:decide (ws.length=2/\ws.getD 0 []=ascii "goto")=decide (ws.getD 0 []=ascii "goto"):=nA.mpr ⟨λz=>z.2,λz=>⟨by omega,z⟩⟩;rw[<-e];exact kk H' s'
  ·have c:=j6 ((d5 ws.length 2).symm.trans c);exact a9 λz=>c z.1
  have R3:=R2.same s3;have L3:=R2.gP (a_.same s3) L2 eG eI;obtain⟨rs3,qT,X8,get3⟩:=iY L3;by_cases t3:ws.length=2/\ws.getD 0 []=ascii "goto"
  ·rw[bx t3];refine aD ?_;rw[g1,ai t3]at kE k;obtain⟨p1,i1,hp1⟩:=get3 1 (by omega);refine⟨_,rfl,r,_,_,rfl,R3.ob,MB,_,rfl,q,_,_,_,rfl,rfl,aj.of qT,bq i1,(by show 0<=sizeLine;decide),λu hu=>λx dx nx cP ij=>⟨x,dx,"goto",_,_,_,_,_,rfl,aw,λH5 h1 h2=>⟨rfl,?_⟩⟩⟩;have s4:=ae.new (o:=.tup []) hu;have s5:=gQ nx cP h2;have R5:=(R3.same s4).same s5;have k15:a_ r Ad H H5:=a_.same (((s1.trans s2).trans s3).trans (s4.trans s5));refine⟨r,Ad,ln,is,vars,labs,js,p1,_,x,rfl,R5,s5 _ _ (s4 _ _ hp1),kF hne (by omega),hj,λe=>kE (by rw[ai e]),λe j H6 R6 k6 fj ej=>?_⟩;have rx:x≠r:=(aJ R3.ob (s4.free nx)).symm;have hi5:dF t H5 x (.goto 0) .au:=⟨dx,u,.au,h1,s5 _ _ aw,rfl⟩;have hi6:dF t H6 x (.goto 0) .au:=hi5.mono (λ_ _ e=>R5.jr k6 e) λ_ _ _ e=>R5.DT k6 e rx
   exact k (.goto 0,vars,some (ws.getD 1 [])) (by rw[ah (by rw[e];decide)]) x _ H6 R6 (k15.trans k6) (R3.oW (a_.same ((s1.trans s2).trans s3)) (s4.free nx)) hi6 ⟨j,p1,rfl,ej,R5.jr k6 (s5 _ _ (s4 _ _ hp1))⟩
  rw[a9 t3];refine aA ?_;rw[ah t3]at g1;refine⟨_,rfl,rfl,_,rfl,?_⟩;refine o6 (ae H3) (decide (ws.length=4/\ws.getD 0 []=ascii "if" /\ws.getD 2 []=ascii "goto")) (λc kk=>?_) (λc=>⟨?_,ae.refl H3⟩) λH4 s4=>?_
  ·have c:=je ((d5 ws.length 4).symm.trans c);refine X9 ?_;refine o7 (i:=0) (x:="if") rfl L3 (by omega) (by decide+kernel) (ascii "if") (by decide+kernel) λH' s'=>?_
   refine o6 (ae H') (decide (ws.length=4/\ws.getD 0 []=ascii "if" /\ws.getD 2 []=ascii "goto")) (λc' kk'=>?_) (λc'=>⟨?_,ae.refl H'⟩) λDZ s''=>kk DZ (s'.trans s'')
   ·have c':=je c';refine o7 (i:=2) (x:="goto") rfl (R3.gP (a_.same s') L3 eG eI) (by omega) (by decide+kernel) (ascii "goto") (by decide+kernel) λDZ s''=>?_
    have e:decide (ws.length=4/\ws.getD 0 []=ascii "if" /\ws.getD 2 []=ascii "goto")=decide (ws.getD 2 []=ascii "goto"):=nA.mpr ⟨λz=>z.2.2,λz=>⟨c,c',z⟩⟩;rw[<-e];exact kk' DZ s''
   ·have c':=j6 c';exact a9 λz=>c' z.2.1
  ·have c:=j6 ((d5 ws.length 4).symm.trans c);exact a9 λz=>c z.1
  have R4:=R3.same s4;have L4:=R3.gP (a_.same s4) L3 eG eI;obtain⟨rs4,yc,X6,yd⟩:=iY L4;have s14:=((s1.trans s2).trans s3).trans s4;by_cases t4:ws.length=4/\ws.getD 0 []=ascii "if" /\ws.getD 2 []=ascii "goto"
  ·rw[bx t4];refine aD ?_;rw[g1,ai t4]at kE k;obtain⟨p3,i3,hp3⟩:=yd 3 (by omega);obtain⟨p1,i1,hp1⟩:=yd 1 (by omega);refine⟨_,rfl,r,_,_,rfl,R4.ob,MB,_,rfl,q,_,_,_,rfl,rfl,aj.of yc,bq i3,_,rfl,r,_,_,rfl,R4.ob,qQ,_,rfl,q,_,_,_,rfl,rfl,aj.of yc,bq i1,r,Ad,ln,is,vars,labs,js,p1,_,rfl,R4,hp1,kF hne (by omega),hv,λe=>kE (by rw[e,md]),λa ea H5 R5 k5=>?_⟩;refine⟨(by show 1<=sizeLine;decide),λu hu=>λx dx nx cP ij=>⟨x,dx,"if",_,_,_,_,_,rfl,aw,λH7 h1 h2=>⟨rfl,?_⟩⟩⟩;have s6:=ae.new (o:=.tup [.int (a.1:Int)]) hu;have s7:=gQ nx cP h2;have R7:=(R5.same s6).same s7;have k15:a_ r Ad H H5:=(a_.same s14).trans k5;have k17:a_ r Ad H H7:=k15.trans (a_.same (s6.trans s7));have hp7:H7 p3=_:=s7 _ _ (s6 _ _ (R4.jr k5 hp3));rw[ea,g8]at kE k;refine⟨r,Ad,ln,is,a.2,labs,js,p3,_,x,rfl,R7,hp7,kF hne (by omega),hj,λe=>kE (by rw[ai e]),λe j H8 R8 k8 fj ej=>?_⟩;have rx:x≠r:=(aJ R5.ob (s6.free nx)).symm;have hi7:dF t H7 x (.cond a.1 0) .au:=⟨dx,u,.au,h1,s7 _ _ aw,rfl⟩;have hi8:dF t H8 x (.cond a.1 0) .au:=hi7.mono (λ_ _ e=>R7.jr k8 e) λ_ _ _ e=>R7.DT k8 e rx
   exact k (.cond a.1 0,a.2,some (ws.getD 3 [])) (by rw[ah (by rw[e];decide)]) x _ H8 R8 (k17.trans k8) (R5.oW k15 (s6.free nx)) hi8 ⟨j,p3,rfl,ej,R7.jr k8 hp7⟩
  rw[a9 t4];refine aA ?_;rw[ah t4]at g1;refine⟨_,rfl,rfl,_,rfl,?_⟩;refine o6 (ae H4) (decide (ws.length=1/\ws.getD 0 []=ascii "end")) (λc kk=>?_) (λc=>⟨?_,ae.refl H4⟩) λH5 s5=>?_
  ·have c:=je ((d5 ws.length 1).symm.trans c);refine o7 (i:=0) (x:="end") rfl L4 (by omega) (by decide+kernel) (ascii "end") (by decide+kernel) λH' s'=>?_
   have e:decide (ws.length=1/\ws.getD 0 []=ascii "end")=decide (ws.getD 0 []=ascii "end"):=nA.mpr ⟨λz=>z.2,λz=>⟨by omega,z⟩⟩;rw[<-e];exact kk H' s'
  ·have c:=j6 ((d5 ws.length 1).symm.trans c);exact a9 λz=>c z.1
  have R5:=R4.same s5;by_cases t5:ws.length=1/\ws.getD 0 []=ascii "end"
  ·rw[bx t5];refine aD ?_;rw[g1,ai t5]at k;refine⟨(by show 0<=sizeLine;decide),λu hu=>λx dx nx cP ij=>⟨x,dx,"end",_,_,_,_,_,rfl,aw,λH7 h1 h2=>⟨rfl,?_⟩⟩⟩;have s6:=ae.new (o:=.tup []) hu;have s7:=gQ nx cP h2;exact k (.stop,vars,none) rfl x js H7 ((R5.same s6).same s7) (a_.same ((s14.trans s5).trans (s6.trans s7))) ((s14.trans s5).free (s6.free nx)) ⟨dx,u,.au,h1,s7 _ _ aw,rfl⟩ rfl
  rw[a9 t5];refine aA ?_;rw[ah t5]at g1;exact⟨_,rfl,r,_,_,_,_,rfl,R5.ob,T.bB,T.iV,kA,_,rfl,kE g1 H5⟩
end
end My
namespace My
open Sz43
def jO(vars:List Bytes)(x:Line):Ins:=insOf ⟨[],[],vars⟩ x
def fS:Nat->List (Nat×Line)->List (Nat×Bytes×Nat)
 |_,[]=>[]
 |i,x::r=>(match cq x.2 with |some n=>[(i,n,x.1)] |none=>[])++fS (i+1) r
def cH(items:List (Nat×Line)):List (Nat×Bytes×Nat):=fS 0 items
theorem MT(x:Nat×Line):∀(items:List (Nat×Line))(i:Nat),fS i (items++[x])=fS i items++(match cq x.2 with |some n=>[(i+items.length,n,x.1)] |none=>[])
 |[],i=>by show(match cq x.2 with |some n=>[(i,n,x.1)] |none=>[])++[]=[]++_;rw[gk,RI];rfl
 |y::r,i=>by
  rw[Ry];show _++fS (i+1) (r++[x])=(_++fS (i+1) r)++_;rw[MT x r (i+1),nE];have e:i+1+r.length=i+(y::r).length:=by rw[b6];omega
  rw[e]
theorem Ya(items:List (Nat×Line))(x:Nat×Line):cH (items++[x])=cH items++(match cq x.2 with |some n=>[(items.length,n,x.1)] |none=>[]):=by unfold cH;rw[MT];simp
theorem Yb{v m:List Bytes}{x:Line}(h:∀n∈varsOf x,n∈v):jO (v++m) x=jO v x:=by
 unfold jO;cases x with
 |label n=>rfl
 |num d z=>simp only[insOf,kz (h d (by simp[varsOf]))]
 |copy d a=>simp only[insOf,kz (h d (by simp[varsOf])),kz (h a (by simp[varsOf]))]
 |op k d a b=>simp only[insOf,kz (h d (by simp[varsOf])),kz (h a (by simp[varsOf])),kz (h b (by simp[varsOf]))]
 |read d=>simp only[insOf,kz (h d (by simp[varsOf]))]
 |print a=>simp only[insOf,kz (h a (by simp[varsOf]))]
 |goto n=>rfl
 |cond a n=>simp only[insOf,kz (h a (by simp[varsOf]))]
 |stop=>rfl
theorem MU{ns:List Bytes}:∀{l:List Bytes}{n:Bytes},n∈ns->n∈ns.foldl aO l:=by
 induction ns with
 |nil=>intro l n h;cases h
 |cons a r ih=>
  intro l n h;rw[rN];rcases a6.mp h with e |e
  ·rw[e];exact xZ (tK l a)
  ·exact ih e
theorem MV{g:Got}{k:Nat}{ws:List Bytes}(hn:ws≠[])(h:¬(ws.length=2/\ws.getD 0 []=ascii "label")):put g k ws=match lineOf ws with
  |none=>none
  |some x=>if 256<=g.items.length\/64<((varsOf x).foldl aO g.vars).length then none else some {g with items:=g.items++[(k,x)],vars:=(varsOf x).foldl aO g.vars}:=by
 unfold put;rw[ah hn];have nl:∀n,lineOf ws≠some (.label n):=by
  intro n e
  match ws,h,e with
  |[a],_,e=>simp[lineOf]at e
  |[a,b],h,e=>
   have hl:¬a=ascii "label":=λz=>h ⟨rfl,z⟩
   simp[lineOf,hl]at e;split at e
   ·cases e.2
   ·split at e
    ·cases e.2
    ·cases e.2
  |[d,e',a],_,e=>
   simp only[lineOf]at e;split at e
   ·cases e
   ·split at e
    ·cases e
    ·split at e
     ·cases e
     ·split at e<;>cases e
  |[i,a,g,n],_,e=>simp only[lineOf]at e;split at e<;>cases e
  |[d,e',a,o,b],_,e=>
   simp only[lineOf]at e;split at e
   ·cases e
   ·cases q:ops.findIdx? (λx=>x==o)with
    |none=>rw[q]at e;cases e
    |some k=>rw[q]at e;cases e
  |a::b::c::d::e'::f::r,_,e=>simp[lineOf]at e
 cases q:lineOf ws with
 |none=>rfl
 |some x=>
  cases x with
  |label n=>exact absurd q (nl n)
  |num d z=>rfl
  |copy d a=>rfl
  |op k d a b=>rfl
  |read d=>rfl
  |print a=>rfl
  |goto n=>rfl
  |cond a n=>rfl
  |stop=>rfl
theorem MW{g:Got}{k:Nat}{b:Bytes}:put g k [ascii "label",b]=if isName b=false\/(place g.labels b).isSome=true then none else some {g with labels:=g.labels++[(b,g.items.length)]}:=by
 unfold put;rw[ah (by simp)];cases hn:isName b with
 |false=>simp[lineOf,hn]
 |true=>
  have e:lineOf [ascii "label",b]=some (.label b):=by simp[lineOf,hn]
  rw[e];simp
end My
namespace My
open PySem L2
theorem Paired.MX{α β:Type}{F G:α->β->Prop}:∀{l₁:List α}{l₂:List β},Paired F l₁ l₂->(∀a b,b∈l₂->F a b->G a b)->Paired G l₁ l₂
 |_,_,.nil,_=>.nil
 |_,_,.cons r t,f=>.cons (f _ _ (by simp) r) (Paired.MX t λa b m=>f a b (by simp[m]))
def ye(H:Hp)(is:List Addr)(j:Addr)(x:Nat×List Nat×Nat):Prop:=∃a p,is[x.1]? =some a/\H j=some (.tup [.ref a,.ref p,.int (x.2.2:Int)])/\H p=some (.tup (iw x.2.1))
structure e7(t:Ad)(H:Hp)(r:Addr)(A:RA)(ln:Nat)(is js:List Addr)(g:Sz43.Got):Prop where
 raw:Raw t H r A ln is g.vars g.labels js
 ins:Paired (λa x=>dF t H a (jO g.vars x.2) .au) is g.items
 yf:Paired (λj x=>ye H is j x) js (cH g.items)
 nd:is.Nodup
 nr:∀a∈is,a≠r
 mem:∀x∈g.items,∀n∈varsOf x.2,n∈g.vars
 dQ:g.items.length<=256
 d6:g.vars.length<=64
theorem MY:∀(items:List (Nat×Sz43.Line))(i:Nat),(fS i items).length<=items.length
 |[],_=>aI _
 |x::r,i=>by have ih:=MY r (i+1);show((match cq x.2 with |some n=>[(i,n,x.1)] |none=>[])++fS (i+1) r).length<=_;rw[bo,b6];cases cq x.2<;>simp<;>omega
theorem e7.jl{t:Ad}{H:Hp}{r:Addr}{A:RA}{ln:Nat}{is js:List Addr}{g:Sz43.Got}(D:e7 t H r A ln is js g):js.length<=1000:=by have h1:js.length=(cH g.items).length:=bC D.yf;have h2:=MY g.items 0;have h3:=D.dQ;unfold cH at h1;omega
inductive MZ(t:Ad)(vs:List V)(H:Hp)(Q:VK)(E:XK):Prop
 |mk (r:Addr) (A:RA) (ln:Nat) (is js:List Addr) (g:Sz43.Got) (p:Addr) (w:List Nat):vs=[.ref r,.ref p]->e7 t H r A ln is js g->H p=some (.tup (iw w))->w≠[]->g.labels.length<=1000000->(((isName w=false\/(Sz43.place g.labels w).isSome=true)->∀H',E (.int (ln:Int) 0) none H'))->((¬(isName w=false\/(Sz43.place g.labels w).isSome=true)->∀H',e7 t H' r A ln is js {g with labels:=g.labels++[(w,g.items.length)]}->a_ r A H H'->Q .au H'))->MZ t vs H Q E
inductive M0(t:Ad)(vs:List V)(H:Hp)(Q:VK)(E:XK):Prop
 |mk (r:Addr) (A:RA) (ln:Nat) (is js:List Addr) (g:Sz43.Got) (q:Addr) (ws:List (List Nat)):vs=[.ref r,.ref q]->e7 t H r A ln is js g->b_ H q ws->q≠A.li->q≠A.ju->((∀w∈ws,w≠[]))->ws≠[]->¬(ws.length=2/\ws.getD 0 []=ascii "label")->((Sz43.put g ln ws=none->∀H',E (.int (ln:Int) 0) none H'))->((∀g',Sz43.put g ln ws=some g'->∀is' js' H',e7 t H' r A ln is' js' g'->a_ r A H H'->Q .au H'))->M0 t vs H Q E
inductive M1(t:Ad)(vs:List V)(H:Hp)(Q:VK)(E:XK):Prop
 |mk (r:Addr) (A:RA) (ln:Nat) (is js:List Addr) (g:Sz43.Got) (q:Addr) (ws:List (List Nat)):vs=[.ref r,.ref q]->e7 t H r A ln is js g->b_ H q ws->q≠A.li->q≠A.ju->((∀w∈ws,w≠[]))->g.labels.length<=1000000->((Sz43.put g (ln+1) ws=none->∀H',E (.int ((ln+1:Nat):Int) 0) none H'))->((∀g',Sz43.put g (ln+1) ws=some g'->∀is' js' H',e7 t H' r A (ln+1) is' js' g'->a_ r A H H'->Q .au H'))->M1 t vs H Q E
section
variable{t:Ad}{H H':Hp}{r:Addr}{A:RA}{ln ln':Nat}{is js:List Addr}{g:Sz43.Got}{vars:List (List Nat)}{labs:List (List Nat×Nat)}{is' js':List Addr}
theorem e7.yg(D:e7 t H r A ln is js g)(k:a_ r A H H'):Paired (λa x=>dF t H' a (jO g.vars x.2) .au) is g.items:=Paired.mapM D.ins λa x ha h=>h.mono (λ_ _ e=>D.raw.jr k e) λ_ _ _ e=>D.raw.DT k e (D.nr a ha)
theorem e7.yh(D:e7 t H r A ln is js g)(k:a_ r A H H'):Paired (λj x=>ye H' is j x) js (cH g.items):=Paired.c8 D.yf λj x ⟨a,p,h1,h2,h3⟩=>⟨a,p,h1,D.raw.jr k h2,D.raw.jr k h3⟩
theorem e7.same(D:e7 t H r A ln is js g)(s:ae H H'):e7 t H' r A ln is js g:=⟨D.raw.same s,D.yg (a_.same s),D.yh (a_.same s),D.nd,D.nr,D.mem,D.dQ,D.d6⟩
end
section
variable{P:Program}{w:World}{K:ax}{mg:Str->Option Value}{base:Heap}{t:Ad}
theorem Yc:aQ ["self","word"] ["self","word"] (aC Kh):=aS
theorem Yd(T:Txt K mg t):aG P w K mg base (fu P w t.jq) 4 t.BA t.CU ["self","word"] (MZ t):=by
 refine T.Dt.lD Yc (λvs H Q E h=>?_) (λ_ A _ s H vs Q E hr h=>?_)
 ·obtain⟨_,_,_,_,_,_,_,_,rfl,_⟩:=h;rfl
 ·obtain⟨r,Ad,ln,is,js,g,p,u,rfl,D,hp,hn,hl,kE,k⟩:=h;have hr2:=hr.mono (show 2<=3 by decide);have hu:=kh hr;refine⟨_,aq (aU (PW.pt (lg (qe (jE (aP (DQ T) hr rfl T.xp T.qH.kp (DL T) .nil aH (aa (pv 1) af)))) (k_ (cR (vL hu (pv 1) (aE (pv 0) rfl)))))) (ak (mB T.xc (mQ T) (mK T) hr2 rfl rfl rfl rfl T.ku (aE (pv 0) rfl))) aW)
   (ak (vN hu (aE (pv 0) rfl) (pv 1) (cp dE rfl T.c_ dA (aa (aE (pv 0) rfl) af)) rfl)),?_⟩
  refine⟨_,rfl,p,u,rfl,hp,hn,λH1 s1=>⟨_,rfl,?_⟩⟩;have D1:=D.same s1;have R1:=D1.raw;have hp1:=s1 _ _ hp;have hk1:H1 p=some (.tup ((kw u).map kV)):=by rw[qy];exact hp1
  refine dP (λc1=>?_) (λc1=>?_)
  ·refine aD ?_;exact⟨_,rfl,r,_,_,_,_,rfl,R1.ob,T.bB,T.iV,kA,_,rfl,kE (.inl (by simpa using c1)) H1⟩
  have nm:¬isName u=false:=by intro z;rw[z]at c1;exact c1 rfl
  refine⟨_,rfl,_,rfl,r,_,_,_,_,rfl,R1.ob,T.bB,T.qK,x8,_,_,rfl,dt.t R1.cW hk1,_,rfl,?_⟩;rw[tL];cases hf:Sz43.place g.labels u with
  |some i=>refine aD ?_;exact⟨_,rfl,r,_,_,_,_,rfl,R1.ob,T.bB,T.iV,kA,_,rfl,kE (.inr (by rw[hf];rfl)) H1⟩
  |none=>
   refine aA ?_;have DV:bV (kC g.labels) (kw u)=none:=by rw[tL,hf];rfl
   refine⟨_,rfl,r,_,_,_,_,rfl,R1.ob,T.bB,T.qJ,x6,_,_,rfl,.inl (aj.of R1.lst),_,rfl,r,_,_,_,_,rfl,R1.ob,T.bB,T.qK,x8,_,rfl,_,_,rfl,kg.t R1.cW hk1 (by rw[XX,bg];omega),?_⟩;have le:((is.map V.ref).length:Int)=((g.items.length:Nat):Int):=by rw[aK,bC D.ins]
   rw[MF DV,le,<-XW];have n1:r≠Ad.la:=bp R1.ob R1.cW (by intro z;cases z);have kp:a_ r Ad H1 (upd H1 Ad.la (.dT (kC (g.labels++[(u,g.items.length)])))):=λb o e _ _ _ n _=>by rw[ay n];exact e
   have R2:Raw t (upd H1 Ad.la (.dT (kC (g.labels++[(u,g.items.length)])))) r Ad ln is g.vars (g.labels++[(u,g.items.length)]) js:=⟨by rw[ay n1];exact R1.ob,by rw[ay (bp R1.lst R1.cW (by intro z;cases z))];exact R1.lst,by rw[ay R1.lQ];exact R1.var,aw,by rw[ay (bp R1.dG R1.cW (by intro z;cases z))];exact R1.dG,R1.lP,R1.lQ⟩;refine k ?_ _ ⟨R2,D1.yg kp,D1.yh kp,D1.nd,D1.nr,D1.mem,D1.dQ,D1.d6⟩ ((a_.same s1).trans kp)
   rintro(z |z)
   ·exact nm z
   ·rw[hf]at z;cases z
theorem Ye:aQ ["self","words"] ["self","words"] (aC Ki):=aS
theorem Yf(T:Txt K mg t):aG P w K mg base (fu P w t.jq) 7 t.BB t.CV ["self","words"] (M0 t):=by
 refine T.Du.lD Ye (λvs H Q E h=>?_) (λ_ A _ s H vs Q E hr h=>?_)
 ·obtain⟨_,_,_,_,_,_,_,_,rfl,_⟩:=h;rfl
 ·obtain⟨r,Ad,ln,is,js,g,q,ws,rfl,D,hL,eG,eI,hne,hn,hnl,kE,k⟩:=h;have hr2:=hr.mono (show 2<=6 by decide);have R:=D.raw;rw[MV hn hnl]at kE k;refine⟨_,aq (aU (aX bP (cp dE rfl T.c_ dA (aa (aE (pv 0) rfl) af)) (cU T.LC rfl) (aY _)) (ak (mB T.xc (mQ T) (mK T) hr2 rfl rfl rfl rfl T.ku (aE (pv 0) rfl))) aW)
   (ak (fk (gJ gq j7 j8 jk (aE (pv 0) rfl) (aa (iL (pv 0) T.bB T.Li (X_ T) hr (WJ T) .nil (gL rfl rfl) (aa (pv 1) af)) af)))),?_⟩
  have li:is.length=g.items.length:=bC D.ins;refine⟨_,rfl,r,_,_,_,_,rfl,R.ob,T.bB,T.qJ,x6,_,_,rfl,.inl (aj.of R.lst),rfl,_,rfl,?_⟩;rw[aK,li,show(V.int 256)=V.int ((256:Nat):Int) from rfl,d5];by_cases h256:g.items.length=256
  ·rw[bx h256];refine aD ?_;refine⟨_,rfl,r,_,_,_,_,rfl,R.ob,T.bB,T.iV,kA,_,rfl,kE ?_ H⟩;cases Sz43.lineOf ws with
   |none=>rfl
   |some x=>exact ai (.inl (by omega))
  rw[a9 h256];refine aA ?_;have lt:¬256<=g.items.length:=by have:=D.dQ;omega
  have eM:=XE D.d6 ws hnl;refine⟨_,rfl,r,_,_,_,_,rfl,R.ob,T.bB,T.qJ,x6,.inl ⟨rfl,_,aj.of R.lst⟩,_,rfl,r,_,_,rfl,R.ob,XP,_,rfl,r,Ad,ln,is,g.vars,g.labels,js,q,ws,rfl,R,hL,eG,eI,hne,D.d6,D.jl,λe=>?_,λx ex a js' H1 R1 k1 f1 i1 j1=>?_⟩
  ·refine kE ?_;rw[eM]at e;unfold bO at e;cases hx:Sz43.lineOf ws with
   |none=>rfl
   |some x=>
    rw[hx]at e;have e:(if 64<((varsOf x).foldl aO g.vars).length then none else some (insOf ⟨[],[],(varsOf x).foldl aO g.vars⟩ x,(varsOf x).foldl aO g.vars,cq x))=none:=e;split at e
    ·rename_i z
     exact ai (.inr z)
    ·cases e
  ·refine⟨_,_,_,rfl,rfl,R1.lst,(by rw[aK,bg];have:=D.dQ;omega),?_⟩;rw[eM]at ex;unfold bO at ex;cases hx:Sz43.lineOf ws with
   |none=>rw[hx]at ex;cases ex
   |some y=>
    rw[hx]at ex k;have ex:(if 64<((varsOf y).foldl aO g.vars).length then none else some (insOf ⟨[],[],(varsOf y).foldl aO g.vars⟩ y,(varsOf y).foldl aO g.vars,cq y))=some x:=ex;split at ex
    ·cases ex
    rename_i d6
    cases ex;have k:=k _ (ah (by rintro(z |z)<;>omega));have na:a ∉ is:=λz=>by obtain⟨b,dx,u,op,h1,_⟩:=xW D.ins z;rw[f1]at h1;cases h1
    have nr:a≠r:=(aJ R.ob f1).symm;have nal:a≠Ad.li:=(aJ R.lst f1).symm;have kp:a_ r Ad H1 (upd H1 Ad.li (.lst (is.map V.ref++[.ref a]))):=λb o e _ n _ _ _=>by rw[ay n];exact e
    have R2:Raw t (upd H1 Ad.li (.lst (is.map V.ref++[.ref a]))) r Ad ln (is++[a]) ((varsOf y).foldl aO g.vars) g.labels js':=⟨by rw[ay (bp R1.ob R1.lst (by intro z;cases z))];exact R1.ob,by rw[aw,eU];rfl,by rw[ay (bp R1.var R1.lst (by intro z;cases z))];exact R1.var,by rw[ay (bp R1.cW R1.lst (by intro z;cases z))];exact R1.cW,by rw[ay R1.lP.symm];exact R1.dG,R1.lP,R1.lQ⟩;have k2:=k1.trans kp;obtain⟨m,em⟩:=xY (varsOf y) g.vars;refine k (is++[a]) js' _ ⟨R2,?_,?_,?_,?_,?_,?_,?_⟩ k2
    ·refine Paired.app ?_ (.cons ?_ .nil)
     ·refine Paired.MX (D.yg k2) λb x hx h=>?_
      show dF t _ b (jO ((varsOf y).foldl aO g.vars) x.2) .au;rw[em,Yb (D.mem x hx)];exact h
     ·exact i1.mono (λ_ _ e=>R1.jr kp e) λ_ _ _ e=>by rw[ay nal];exact e
    ·show Paired _ js' (cH (g.items++[(ln,y)]));rw[Ya];have old:Paired (λj x=>ye (upd H1 Ad.li (.lst (is.map V.ref++[.ref a]))) (is++[a]) j x) js (cH g.items):=Paired.c8 (D.yh k2) λj x ⟨b,p,h1,h2,h3⟩=>⟨b,p,by rw[List.getElem?_append_left (bW.mp h1).1];exact h1,h2,h3⟩
     have j1:MQ H H1 ln a js js' (cq y):=j1;show Paired _ js' (cH g.items++(match cq y with |some n=>[(g.items.length,n,ln)] |none=>[]));cases hl:cq y with
     |none=>rw[hl]at j1;have e:js'=js:=j1;rw[e,gk];exact old
     |some n=>rw[hl]at j1;obtain⟨j,p,e,h1,h2⟩:=j1;rw[e];refine Paired.app old (.cons ⟨a,p,?_,R1.jr kp h1,R1.jr kp h2⟩ .nil);show(is++[a])[g.items.length]? =some a;rw[<-li];simp
    ·rw[uZ];exact⟨D.nd,by simp,λx hx y hy=>by
      have:y=a:=by simpa using hy
      rw[this];exact λz=>na (z▸hx)⟩
    ·intro b hb;rcases bN.mp hb with hb |hb
     ·exact D.nr b hb
     ·have:b=a:=by simpa using hb
      rw[this];exact nr
    ·intro x hx n hnn;show n∈(varsOf y).foldl aO g.vars;rcases bN.mp hx with hx |hx
     ·exact xZ (D.mem x hx n hnn)
     ·have:x=(ln,y):=by simpa using hx
      rw[this]at hnn;exact MU hnn
    ·show(g.items++[(ln,y)]).length<=256;rw[bo,cZ];omega
    ·show((varsOf y).foldl aO g.vars).length<=64;omega
end
end My
namespace My
open Sz43
theorem M2:∀(items:List (Nat×Line))(i m idx k:Nat)(n:Bytes),(fS i items)[m]? =some (idx,n,k)->i<=idx/\∃line,items[idx-i]? =some (k,line)/\cq line=some n
 |[],_,_,_,_,_,h=>by simp[fS]at h
 |x::r,i,m,idx,k,n,h=>by
  have later:∀m',(fS (i+1) r)[m']? =some (idx,n,k)->i<=idx/\∃line,(x::r)[idx-i]? =some (k,line)/\cq line=some n:=λm' h=>by
   obtain⟨h1,line,h2,h3⟩:=M2 r (i+1) m' idx k n h;refine⟨by omega,line,?_,h3⟩;have e:idx-i=(idx-(i+1))+1:=by omega
   rw[e,Ge];exact h2
  unfold fS at h;cases hl:cq x.2 with
  |none=>rw[hl]at h;exact later m h
  |some n'=>
   rw[hl]at h;cases m with
   |zero=>
    have h:(i,n',x.1)=(idx,n,k):=cI h;injection h with h1 h2
    injection h2 with h2 h3
    subst h1 h2 h3;exact⟨aI _,x.2,by simp,hl⟩
   |succ m=>exact later m h
theorem M3:∀(items:List (Nat×Line))(i idx:Nat)(x:Nat×Line)(n:Bytes),items[idx]? =some x->cq x.2=some n->i+idx∈(fS i items).map (·.1)
 |[],_,_,_,_,h,_=>by simp at h
 |y::r,i,idx,x,n,h,hl=>by
  unfold fS;rw[eU,bN];cases idx with
  |zero=>
   have h:y=x:=by simpa using h
   subst h;rw[hl];exact .inl (by simp)
  |succ idx=>
   have:=M3 r (i+1) idx x n (by simpa using h) hl;refine .inr ?_;have e:i+(idx+1)=i+1+idx:=by omega
   rw[e];exact this
theorem M4(g:Got):∀(items:List (Nat×Line))(i:Nat),((fS i items).find? λx=>(place g.labels x.2.1).isNone).map (λx=>x.2.2)=(items.find? λx=>gone g x.2).map (λx=>x.1)
 |[],_=>rfl
 |y::r,i=>by
  have ih:=M4 g r (i+1);unfold fS;rw[List.find?_append,kS];have go:gone g y.2=match cq y.2 with |some n=>(place g.labels n).isNone |none=>false:=by cases y.2<;>rfl
  rw[go];cases hl:cq y.2 with
  |none=>simpa using ih
  |some n=>
   cases hp:(place g.labels n).isNone with
   |true=>simp[hp]
   |false=>simpa[hp]using ih
end My
namespace My
open PySem L2
def kG:Ins->V
 | .goto u=>.int (u:Int)
 | .cond _ u=>.int (u:Int)
 |_=>.au
theorem Yg{t:Ad}{H:Hp}{a:Addr}{g:Sz43.Got}{x:Sz43.Line}{pl:V}(h:dF t H a (jO g.vars x) pl):dF t H a (insOf g x) pl:=by cases x<;>exact h
def lR(g:Sz43.Got)(m idx:Nat)(x:Sz43.Line):V:=match cq x with
 |none=>.au
 |some n=>if idx∈((cH g.items).take m).map (·.1)then .int (((Sz43.place g.labels n).getD 0:Nat):Int)else .au
inductive M5(t:Ad)(vs:List V)(H:Hp)(Q:VK)(E:XK):Prop
 |mk (r:Addr) (A:RA) (ln:Nat) (is js:List Addr) (g:Sz43.Got):vs=[.ref r]->e7 t H r A ln is js g->((∀x,((cH g.items).find? λx=>(Sz43.place g.labels x.2.1).isNone)=some x->∀H',E (.int (x.2.2:Int) 0) none H'))->((((cH g.items).find? λx=>(Sz43.place g.labels x.2.1).isNone)=none->∀H',Raw t H' r A ln is g.vars g.labels js->Paired (λa x=>dF t H' a (insOf g x.2) (kG (insOf g x.2))) is g.items->Q .au H'))->M5 t vs H Q E
theorem M6{α β:Type}{F:α->β->Prop}:∀{l₁:List α}{l₂:List β},l₁.length=l₂.length->(∀(i:Nat) a b,l₁[i]? =some a->l₂[i]? =some b->F a b)->Paired F l₁ l₂
 |[],[],_,_=>.nil
 |a::l₁,b::l₂,h,f=>.cons (f 0 a b rfl rfl) (M6 (by simpa using h) λi x y h1 h2=>f (i+1) x y (by simpa using h1) (by simpa using h2))
theorem cE{α β:Type}{F:α->β->Prop}:∀{l₁:List α}{l₂:List β}{i:Nat}{a:α}{b:β},Paired F l₁ l₂->l₁[i]? =some a->l₂[i]? =some b->F a b
 |_,_,_,_,_,.nil,h,_=>by simp at h
 |_,_,0,_,_,.cons r _,h1,h2=>by simp at h1 h2;subst h1 h2;exact r
 |_,_,i+1,_,_,.cons _ t,h1,h2=>cE (i:=i) t (by simpa using h1) (by simpa using h2)
theorem M7{α:Type}{p:α->Bool}:∀{l:List α}{m:Nat}{x:α},l[m]? =some x->p x=true->(∀y∈l.take m,p y=false)->l.find? p=some x
 |[],_,_,h,_,_=>by simp at h
 |a::l,0,x,h,hp,_=>by
  have:a=x:=by simpa using h
  subst this;rw[kS,hp]
 |a::l,m+1,x,h,hp,k=>by rw[kS,k a (by simp)];exact M7 (m:=m) (by simpa using h) hp λy hy=>k y (by simp[hy])
theorem Yh{α:Type}{p:α->Bool}{l:List α}(k:∀y∈l,p y=false):l.find? p=none:=by
 rw[RK];intro y hy;rw[k y hy]
 decide
section
variable{P:Program}{w:World}{K:ax}{mg:Str->Option Value}{base:Heap}{t:Ad}
theorem Yi:aQ ["self","words"] ["self","words"] (aC Kg):=aS
theorem Yj(T:Txt K mg t):aG P w K mg base (fu P w t.jq) 8 t.Bz t.CT ["self","words"] (M1 t):=by
 refine T.Ds.lD Yi (λvs H Q E h=>?_) (λ_ A _ s H vs Q E hr h=>?_)
 ·obtain⟨_,_,_,_,_,_,_,_,rfl,_⟩:=h;rfl
 ·obtain⟨r,Ad,ln,is,js,g,q,ws,rfl,D,hL,eG,eI,hne,hl,kE,k⟩:=h;have hr1:=hr.mono (show 1<=7 by decide);have ik:=hr.mono (show 4<=7 by decide);have R:=D.raw;refine⟨_,aq (gH (pv 0) (bU ji (aE (pv 0) rfl) aL) rfl)
   (aq (aU (aX bP (cp dE rfl T.c_ dA (aa (pv 1) af)) aL (aY _)) (ak SA) aW)
   (ak (aU (PW.pt (jg (aX bP (cp dE rfl T.c_ dA (aa (pv 1) af)) aL (aY _)) (jF (aX (jK hr.units) (bc bA (pv 1) aL (λ_ _=>rfl)) (aP (fC T) hr1 rfl T.eZ T.dX.kp (fA T) .nil aH (aa bJ af)) (aY _))))) (ak (fk (iL (pv 0) T.bB T.Lg (Yd T) ik (WG T) .nil (gL rfl rfl) (aa (bc bA (pv 1) aL (λ_ _=>rfl)) af)))) (ak (fk (iL (pv 0) T.bB T.Lh (Yf T) hr (WH T) .nil (gL rfl rfl) (aa (pv 1) af))))))),?_⟩
  refine⟨_,rfl,r,_,_,_,_,rfl,R.ob,T.bB,T.iV,kA,_,_,rfl,rfl,_,rfl,r,_,_,_,rfl,R.ob,T.bB,T.iV,(by show 5<1000;decide),?_⟩;have eln:V.int ((ln:Int)+1)=V.int ((ln+1:Nat):Int):=by rw[RL];rfl
  rw[XH,eln];obtain⟨H1,fU⟩:∃H1,H1=upd H r (.ins t.eX Ad.dx (fR (.int ((ln+1:Nat):Int)) (.ref Ad.li) (.ref Ad.va) (.ref Ad.la) (.ref Ad.ju))):=⟨_,rfl⟩;rw[<-fU];have k1:a_ r Ad H H1:=λb o e n _ _ _ _=>by rw[fU,ay n];exact e
  have up:∀b o,H b=some o->b≠r->H1 b=some o:=λb o e n=>by rw[fU,ay n];exact e
  have R1:Raw t H1 r Ad (ln+1) is g.vars g.labels js:=⟨by rw[fU];exact aw,up _ _ R.lst (bp R.lst R.ob (by intro z;cases z)),up _ _ R.var (bp R.var R.ob (by intro z;cases z)),up _ _ R.cW (bp R.cW R.ob (by intro z;cases z)),up _ _ R.dG (bp R.dG R.ob (by intro z;cases z)),R.lP,R.lQ⟩;have D1:e7 t H1 r Ad (ln+1) is js g:=⟨R1,D.yg k1,D.yh k1,D.nd,D.nr,D.mem,D.dQ,D.d6⟩;have L1:=R.gP k1 hL eG eI;obtain⟨rs1,hq1,DW,yb⟩:=iY L1;have oY:(rs1.map V.ref).length=ws.length:=by rw[aK,DW]
  refine⟨_,rfl,q,_,rfl,.inl (aj.of hq1),rfl,_,rfl,?_⟩;rw[oY,show(V.int 0)=V.int ((0:Nat):Int) from rfl,d5];by_cases h0:ws.length=0
  ·rw[bx h0];refine aD ?_;have e:ws=[]:=List.length_eq_zero_iff.mp h0;refine k g ?_ is js H1 D1 k1;unfold Sz43.put;rw[ai e]
  rw[a9 h0];refine aA ?_;have hn:ws≠[]:=λz=>h0 (by rw[z];rfl)
  refine⟨_,rfl,q,_,rfl,.inl (aj.of hq1),rfl,_,rfl,?_⟩;rw[oY];refine o6 (ae H1) (decide (ws.length=2/\ws.getD 0 []=ascii "label")) (λc kk=>?_) (λc=>⟨?_,ae.refl H1⟩) λH2 s2=>?_
  ·have c:=je ((d5 ws.length 2).symm.trans c);refine o7 (i:=0) (x:="label") rfl L1 (by omega) (by decide+kernel) (ascii "label") (by decide+kernel) λH' s'=>?_
   have e:decide (ws.length=2/\ws.getD 0 []=ascii "label")=decide (ws.getD 0 []=ascii "label"):=nA.mpr ⟨λz=>z.2,λz=>⟨by omega,z⟩⟩;rw[<-e];exact kk H' s'
  ·have c:=j6 ((d5 ws.length 2).symm.trans c);exact a9 λz=>c z.1
  have D2:=D1.same s2;have L2:=R1.gP (a_.same s2) L1 eG eI;obtain⟨DX,hq2,DY,oZ⟩:=iY L2;have k2:a_ r Ad H H2:=k1.trans (a_.same s2);by_cases t1:ws.length=2/\ws.getD 0 []=ascii "label"
  ·rw[bx t1];refine aD ?_;obtain⟨p1,i1,hp1⟩:=oZ 1 (by omega);have ew:ws=[ascii "label",ws.getD 1 []]:=by
    obtain⟨l2,e⟩:=t1
    match ws,l2,e with
    |[a,b],_,e=>have e:a=ascii "label":=e;rw[e];rfl
   rw[ew,MW]at kE k;refine⟨_,rfl,r,_,_,rfl,D2.raw.ob,XN,_,rfl,q,_,_,_,rfl,rfl,aj.of hq2,bq i1,r,Ad,ln+1,is,js,g,p1,_,rfl,D2,hp1,kF hne (by omega),hl,λe=>kE (ai e),λe H3 D3 k3=>?_⟩;exact k _ (ah e) is js H3 D3 (k2.trans k3)
  ·rw[a9 t1];refine aA ?_;refine⟨_,rfl,r,_,_,rfl,D2.raw.ob,XO,_,rfl,r,Ad,ln+1,is,js,g,q,ws,rfl,D2,L2,eG,eI,hne,hn,t1,kE,λg' e is' js' H3 D3 k3=>?_⟩;exact k g' e is' js' H3 D3 (k2.trans k3)
theorem M8:aQ ["self","instruction","label","line"] ["self"] (aC Kn):=aS
theorem Yk(T:Txt K mg t):aG P w K mg base (fu P w t.jq) 3 t.BG t.C1 ["self"] (M5 t):=by
 refine T.DA.lD M8 (λvs H Q E h=>?_) (λ_ A _ s H vs Q E hr h=>?_)
 ·obtain⟨_,_,_,_,_,_,rfl,_⟩:=h;rfl
 ·obtain⟨r,Ad,ln,is,js,g,rfl,D,kE,k⟩:=h;have hu:=kh hr;have nd:=M8.nd;refine⟨_,ak (gF (IJ rfl rfl rfl) rfl (gC (aE (pv 0) rfl)) (mo rfl (fL (bD (i:=1) nd rfl (Or.inl rfl)) (fL (bD (i:=2) nd rfl (Or.inl rfl)) (fL (bD (i:=3) nd rfl (Or.inl rfl)) mn))))
   (aq (aU (cR (Ag hu (pv 2) (aE (pv 0) rfl))) (ak (mB T.xc (mQ T) (mK T) hr rfl rfl rfl rfl T.ku (pv 3))) aW)
   (ak (gH (pv 1) (sE hu (aE (pv 0) rfl) (pv 2) (λ_ _=>rfl)) rfl)))),?_⟩
  have R:=D.raw;have li:is.length=g.items.length:=bC D.ins;have lj:js.length=(cH g.items).length:=bC D.yf;refine⟨_,rfl,r,_,_,_,_,rfl,R.ob,T.bB,T.xO,MA,Ad.ju,rfl,⟨_,aj.of R.dG⟩,lu (K:=K) (a:=Ad.ju) (xs:=js.map V.ref) (λm σ Hh=>∃v1 v2 v3,σ=[some (.ref r),v1,v2,v3]/\Raw t Hh r Ad ln is g.vars g.labels js/\Paired (λj x=>ye Hh is j x) js (cH g.items)/\
   (∀y∈(cH g.items).take m,(Sz43.place g.labels y.2.1).isNone=false)/\∀(idx:Nat) a x,is[idx]? =some a->g.items[idx]? =some x->dF t Hh a (jO g.vars x.2) (lR g m idx x.2)) ?_ (λi σ Hh _ ⟨_,_,_,_,R,_⟩=>aj.of R.dG) ?_ ?_⟩
  ·refine⟨none,none,none,rfl,R,D.yf,λy hy=>absurd hy (by simp),λidx a x h1 h2=>?_⟩;have:=cE D.ins h1 h2;unfold lR;cases cq x.2<;>simpa using this
  ·rintro m y σ Hh hy ⟨v1,v2,v3,rfl,R1,J1,pl,I1⟩
   rw[bF]at hy;obtain⟨j,hj,rfl⟩:=cK.mp hy;have hm:m<(cH g.items).length:=by have:=(bW.mp hj).1;omega
   obtain⟨⟨idx,n,kk⟩,hx⟩:∃x,(cH g.items)[m]? =some x:=⟨_,aN hm⟩;obtain⟨a,p,h1,h2,h3⟩:=cE J1 hj hx;have h1:is[idx]? =some a:=h1;have h2:Hh j=some (.tup [.ref a,.ref p,.int (kk:Int)]):=h2;have h3:Hh p=some (.tup (iw n)):=h3;obtain⟨_,line,hi,hlb⟩:=M2 g.items 0 m idx kk n hx;rw[Nat.sub_zero]at hi;have hk:Hh p=some (.tup ((kw n).map kV)):=by rw[qy];exact h3
   refine⟨j,_,rfl,a8.of h2,rfl,_,_,rfl,_,_,rfl,_,_,rfl,rfl,?_⟩;refine⟨_,rfl,_,rfl,r,_,_,_,_,rfl,R1.ob,T.bB,T.qK,x8,_,_,rfl,dt.t R1.cW hk,_,rfl,?_⟩;rw[tL];cases hp:Sz43.place g.labels n with
   |none=>refine aD ?_;refine⟨_,rfl,_,rfl,kE (idx,n,kk) (M7 hx (by show(Sz43.place g.labels n).isNone=true;rw[hp];rfl) pl) Hh⟩
   |some u=>
    refine aA ?_;obtain⟨dx,us,op,ha,eV,hop⟩:=I1 idx a _ h1 hi;have ar:a≠r:=D.nr a (bu h1);refine⟨_,rfl,r,_,_,_,_,rfl,R1.ob,T.bB,T.qK,x8,_,rfl,_,.int (u:Int),rfl,?_,_,rfl,a,_,dx,_,rfl,ha,T.cS,T.fv,pW (XF _ _ _ _ _ _) (by decide),?_⟩
    ·have:=dt.t R1.cW hk;rw[tL,hp]at this;exact this
    rw[XG];have tp:∀b xs,Hh b=some (.tup xs)->(upd Hh a (.ins t.iU dx (e6 (Ro (jO g.vars line)) (.ref us) (dZ (jO g.vars line)) (MC (jO g.vars line)) op (.int (u:Int))))) b=some (.tup xs):=λb xs e=>by rw[ay (bp e ha (by intro z;cases z))];exact e
    refine⟨_,_,_,rfl,⟨by rw[ay ar.symm];exact R1.ob,by rw[ay (bp R1.lst ha (by intro z;cases z))];exact R1.lst,by rw[ay (bp R1.var ha (by intro z;cases z))];exact R1.var,by rw[ay (bp R1.cW ha (by intro z;cases z))];exact R1.cW,by rw[ay (bp R1.dG ha (by intro z;cases z))];exact R1.dG,R1.lP,R1.lQ⟩,Paired.c8 J1 λj x ⟨b,q,z1,z2,z3⟩=>⟨b,q,z1,tp _ _ z2,tp _ _ z3⟩,?_,?_⟩
    ·intro y hy;rw[iB,hx]at hy;rcases bN.mp hy with hy |hy
     ·exact pl y hy
     ·have:y=(idx,n,kk):=by simpa using hy
      rw[this];show(Sz43.place g.labels n).isNone=false;rw[hp];rfl
    ·intro i' a' x' e1 e2;by_cases hii:i'=idx
     ·subst hii;rw[h1]at e1;rw[hi]at e2;cases e1;cases e2;refine⟨dx,us,op,?_,tp _ _ eV,hop.mono tp⟩;rw[aw];have ep:lR g (m+1) i' line=.int (u:Int):=by
       unfold lR;rw[hlb];show(if i'∈_ then V.int (((Sz43.place g.labels n).getD 0:Nat):Int)else V.au)=_;rw[ai,hp]
       ·rfl
       ·rw[iB,hx,eU];exact jz _ (by simp)
      rw[ep]
     ·have na:a'≠a:=λz=>hii (by
       rw[z]at e1;obtain⟨q1,w1⟩:=bW.mp e1;obtain⟨q2,w2⟩:=bW.mp h1;exact(Rt D.nd).mp (w1.trans w2.symm))
      have ep:lR g (m+1) i' x'.2=lR g m i' x'.2:=by
       unfold lR;cases cq x'.2 with
       |none=>rfl
       |some n'=>
        show(if i'∈_ then V.int _ else V.au)=(if i'∈_ then V.int _ else V.au);rw[iB,hx,eU];have:(i'∈((cH g.items).take m).map (·.1)++((some (idx,n,kk)).toList).map (·.1)) ↔ (i'∈((cH g.items).take m).map (·.1)):=by
         rw[bN];constructor
         ·rintro(z |z)
          ·exact z
          ·have:i'=idx:=by simpa using z
           exact absurd this hii
         ·exact .inl
        simp only[this]
      rw[ep];exact(I1 i' a' x' e1 e2).mono tp λ_ _ _ e=>by rw[ay na];exact e
  ·rintro σ Hh ⟨v1,v2,v3,rfl,R1,J1,pl,I1⟩
   rw[aK,lj,j0]at pl;refine k (Yh pl) Hh R1 (M6 li λi a x e1 e2=>?_);have:=I1 i a x e1 e2;rw[aK,lj]at this;have ep:lR g (cH g.items).length i x.2=kG (insOf g x.2):=by
    have hm:=λn hn=>M3 g.items 0 i x n e2 hn
    rw[pU]at hm;unfold lR;rw[j0];cases hx:x.2 with
    |goto n=>rw[hx]at hm;show(if i∈(cH g.items).map (·.1)then V.int (((Sz43.place g.labels n).getD 0:Nat):Int)else V.au)=V.int (((Sz43.place g.labels n).getD 0:Nat):Int);rw[ai];exact hm n rfl
    |cond b n=>rw[hx]at hm;show(if i∈(cH g.items).map (·.1)then V.int (((Sz43.place g.labels n).getD 0:Nat):Int)else V.au)=V.int (((Sz43.place g.labels n).getD 0:Nat):Int);rw[ai];exact hm n rfl
    |_=>rfl
   rw[ep]at this;exact Yg this
end
end My
namespace My
open Sz43
theorem M9(f:Nat->Bool):∀t,(parted f t).length<=t.length+1
 |[]=>aI _
 |c::r=>by
  have ih:=M9 f r;obtain⟨l,m,e⟩:=oQ f r;rw[e]at ih;cases h:f c with
  |true=>rw[DR h,e];simp only[b6]at*;omega
  |false=>rw[DS h e];simp only[b6]at*;omega
theorem Yl{g g':Got}{k:Nat}{ws:List Bytes}(h:put g k ws=some g'):g'.labels.length<=g.labels.length+1:=by
 unfold put at h;split at h
 ·cases h;omega
 ·split at h
  ·cases h
  ·split at h
   ·cases h
   ·cases h;simp
  ·dsimp only at h;split at h
   ·cases h
   ·cases h;simp
theorem M_{g:Got}{k:Nat}{ws:List Bytes}{r:List (List Bytes)}:puts g k (ws::r)=match put g k ws with
  |some h=>puts h (k+1) r
  |none=>.error k:=rfl
theorem Rp(t:Bytes):parse t=match puts ⟨[],[],[]⟩ 1 ((parted (λ(c:Nat)=>c==10) t).map words)with
 | .error k=>.error k
 | .ok g=>match (cH g.items).find? (λx=>(place g.labels x.2.1).isNone)with
  |some x=>.error x.2.2
  |none=>.ok ⟨g.vars,g.items.map λ(x:Nat×Line)=>insOf g x.2⟩:=by
 unfold parse;cases puts ⟨[],[],[]⟩ 1 ((parted (λ(c:Nat)=>c==10) t).map words)with
 |error k=>rfl
 |ok g=>
  have h:=M4 g g.items 0;show(match g.items.find? λx=>gone g x.2 with |some x=>_ |none=>_)=(match (cH g.items).find? (λx=>(place g.labels x.2.1).isNone)with |some x=>_ |none=>_);unfold cH;cases h1:(fS 0 g.items).find? (λx=>(place g.labels x.2.1).isNone)with
  |none=>
   rw[h1]at h;cases h2:g.items.find? (λx=>gone g x.2)with
   |none=>rfl
   |some y=>rw[h2]at h;cases h
  |some x=>
   rw[h1]at h;cases h2:g.items.find? (λx=>gone g x.2)with
   |none=>rw[h2]at h;cases h
   |some y=>rw[h2]at h;have h:x.2.2=y.1:=cI h;show Except.error y.1=Except.error x.2.2;rw[h]
end My
namespace L2
open PySem PySem.Spec PyProof.Rows
def NL(H H':Hp):Prop:=∀b o,H b=some o->(∀xs,o≠ .lst xs)->H' b=some o
theorem ae.nl{H H':Hp}(s:ae H H'):NL H H':=λb o e _=>s b o e
theorem NL.qU{H:Hp}{D:Addr}{xs:List V}{o:HO}(h:H D=some (.lst xs)):NL H (upd H D o):=λb u e n=>by rw[ay (bp e h (n xs))];exact e
theorem D0{J:It}{g:TG}{tt:TT}{te:TE}{vs:List Nat}{σ:St}{H1:Hp}{Q:Hp->Prop}{D:Addr}(N:Nat)(kp:Nat->Bool)(R:Nat->V->Hp->Prop)(hD:H1 D=none)(hn:N<=sizeLine) (hR:∀i y H H',R i y H->NL H H'->R i y H')(hstop:∀H,ae H1 H->J.stop N H) (hs:∀i H,i<N->ae H1 H->J.go i H/\∀x H',J.gB i H x H'->∀(A:VK)(B:Hp->Prop),(kp i=true->∀y H4,ae H H4->R i y H4->A y H4)->(kp i=false->∀H3,ae H H3->B H3)->g x (be σ vs) H' λσ2 H2=>be σ2 vs=be σ vs/\tt σ2 H2 λb H3=>if b=true then te σ2 H3 A else B H3) (hd:∀ys H,ae H1 H->H D=some (.lst ys)->Paired (λi y=>R i y H) ((List.range N).filter kp) ys->Q H):∃W:Nat->Nat->Hp->Prop,(∃m,W 0 m (upd H1 D (.lst [])))/\∀i m H,W i m H->(J.stop i H/\Q H)\/(J.go i H/\∃Nx:Hp->Prop,(∀H',Nx H'->∃m',m'<m/\W (i+1) m' H')/\∀x H',J.gB i H x H'->g x (be σ vs) H' λσ2 H2=>be σ2 vs=be σ vs/\tt σ2 H2 λb H3=>if b=true then te σ2 H3 λy H4=>∃acc,H4 D=some (.lst acc)/\acc.length<sizeLine/\Nx (upd H4 D (.lst (acc++[y])))else Nx H3):=by
 let Pv:Nat->Hp->Prop:=λi H=>∃ys,H D=some (.lst ys)/\ae H1 H/\Paired (λx y=>R x y H) ((List.range i).filter kp) ys
 refine⟨λi m H=>m=N-i/\i<=N/\Pv i H,⟨_,rfl,b9 _,[],aw,ae.new hD,.nil⟩,?_⟩
 rintro i m H ⟨rfl,hi,ys,hy,sm,pr⟩
 by_cases hlt:i<N
 ·obtain⟨go,yl⟩:=hs i H hlt sm;have hl:ys.length<=i:=by
   rw[<-bC pr];refine bE (u5 _ _) ?_;rw[gr];exact aI _
  refine .inr ⟨go,Pv (i+1),λH' p=>⟨N-(i+1),by omega,rfl,hlt,p⟩,λx H' y=>yl x H' y _ _ (λk z H4 s4 r4=>?_) λk H3 s3=>?_⟩
  ·have u4:=NL.qU (o:=.lst (ys++[z])) (s4 _ _ hy);refine⟨ys,s4 _ _ hy,by omega,ys++[z],aw,(sm.trans s4).upd hD,?_⟩;rw[rO,rQ,pY,ai k];exact Paired.app (Paired.c8 pr λa b r=>hR _ _ _ _ (hR _ _ _ _ r s4.nl) u4) (.cons (hR _ _ _ _ r4 u4) .nil)
  ·refine⟨ys,s3 _ _ hy,sm.trans s3,?_⟩;rw[rO,rQ,pY,ah (by rw[k];decide),List.filter_nil,gk];exact Paired.c8 pr λa b r=>hR _ _ _ _ r s3.nl
 ·have e:i=N:=by omega
  subst e;exact .inl ⟨hstop H sm,hd ys H sm hy pr⟩
section
variable{K:ax}{a b:Addr}{xs zs:List V}{j j1 j2:Nat}{tt:TT}{te:TE}{vs:List Nat}{σ:St}{H1:Hp}{Q:Hp->Prop}{D:Addr}
theorem yi(kp:Nat->Bool)(R:Nat->V->Hp->Prop)(hD:H1 D=none)(hn:xs.length<=sizeLine)(ha:aj K H1 a xs)(hb:aj K H1 b zs)(hl:xs.length<=zs.length) (hR:∀i y H H',R i y H->NL H H'->R i y H')(hw:∀x y,be (((be σ vs).set j1 (some x)).set j2 (some y)) vs=be σ vs) (hs:∀i x z H,xs[i]? =some x->zs[i]? =some z->ae H1 H->∀(A:VK)(B:Hp->Prop),(kp i=true->∀y H4,ae H H4->R i y H4->A y H4)->(kp i=false->∀H3,ae H H3->B H3)->tt (((be σ vs).set j1 (some x)).set j2 (some z)) H λb H3=>if b=true then te (((be σ vs).set j1 (some x)).set j2 (some z)) H3 A else B H3) (hd:∀ys H,ae H1 H->H D=some (.lst ys)->Paired (λi y=>R i y H) ((List.range xs.length).filter kp) ys->Q H):∃W:Nat->Nat->Hp->Prop,(∃m,W 0 m (upd H1 D (.lst [])))/\∀i m H,W i m H->((sJ K a b).stop i H/\Q H)\/((sJ K a b).go i H/\∃Nx:Hp->Prop,(∀H',Nx H'->∃m',m'<m/\W (i+1) m' H')/\∀x H',(sJ K a b).gB i H x H'->jG K 2 (eC (c6 j1) (eC (c6 j2) kb)) x (be σ vs) H' λσ2 H2=>be σ2 vs=be σ vs/\tt σ2 H2 λb H3=>if b=true then te σ2 H3 λy H4=>∃acc,H4 D=some (.lst acc)/\acc.length<sizeLine/\Nx (upd H4 D (.lst (acc++[y])))else Nx H3):=by
 refine D0 xs.length kp R hD hn hR (λH s=>⟨xs,zs,s.seq ha,s.seq hb,.inl (aI _)⟩) (λi H hi s=>?_) hd;have hx:xs[i]? =some xs[i]:=aN hi;have hz:zs[i]? =some (zs[i]'(by omega)):=aN _;refine⟨⟨xs,zs,_,_,s.seq ha,s.seq hb,hx,hz⟩,λx H' y A B hA hB=>?_⟩;obtain⟨T,x',y',rfl,hT,rfl,e1,e2⟩:=y;have s2:ae H (upd H T (.tup [x',y'])):=ae.new hT;refine⟨T,_,rfl,a8.of aw,rfl,_,_,rfl,_,_,rfl,rfl,hw x' y',?_⟩;exact hs i x' y' _ (e1 xs (s.seq ha)) (e2 zs (s.seq hb)) (s.trans s2) A B (λk y H4 s4 r=>hA k y H4 (s2.trans s4) r) λk H3 s3=>hB k H3 (s2.trans s3)
theorem D6(kp:Nat->Bool)(R:Nat->V->Hp->Prop)(hD:H1 D=none)(hn:xs.length<=sizeLine)(ha:aj K H1 a xs) (hR:∀i y H H',R i y H->NL H H'->R i y H')(hw:∀x y,be (((be σ vs).set j1 (some x)).set j2 (some y)) vs=be σ vs) (hs:∀(i:Nat) x H,xs[i]? =some x->ae H1 H->∀(A:VK)(B:Hp->Prop),(kp i=true->∀y H4,ae H H4->R i y H4->A y H4)->(kp i=false->∀H3,ae H H3->B H3)->tt (((be σ vs).set j1 (some (.int (i:Nat)))).set j2 (some x)) H λb H3=>if b=true then te (((be σ vs).set j1 (some (.int (i:Nat)))).set j2 (some x)) H3 A else B H3) (hd:∀ys H,ae H1 H->H D=some (.lst ys)->Paired (λi y=>R i y H) ((List.range xs.length).filter kp) ys->Q H):∃W:Nat->Nat->Hp->Prop,(∃m,W 0 m (upd H1 D (.lst [])))/\∀i m H,W i m H->((sI K a).stop i H/\Q H)\/((sI K a).go i H/\∃Nx:Hp->Prop,(∀H',Nx H'->∃m',m'<m/\W (i+1) m' H')/\∀x H',(sI K a).gB i H x H'->jG K 2 (eC (c6 j1) (eC (c6 j2) kb)) x (be σ vs) H' λσ2 H2=>be σ2 vs=be σ vs/\tt σ2 H2 λb H3=>if b=true then te σ2 H3 λy H4=>∃acc,H4 D=some (.lst acc)/\acc.length<sizeLine/\Nx (upd H4 D (.lst (acc++[y])))else Nx H3):=by
 refine D0 xs.length kp R hD hn hR (λH s=>⟨xs,s.seq ha,aI _⟩) (λi H hi s=>?_) hd;have hx:xs[i]? =some xs[i]:=aN hi;refine⟨⟨xs,_,s.seq ha,hx⟩,λx H' y A B hA hB=>?_⟩;obtain⟨T,x',rfl,hT,rfl,e1⟩:=y;have s2:ae H (upd H T (.tup [.int (i:Nat),x'])):=ae.new hT;refine⟨T,_,rfl,a8.of aw,rfl,_,_,rfl,_,_,rfl,rfl,hw _ x',?_⟩;exact hs i x' _ (e1 xs (s.seq ha)) (s.trans s2) A B (λk y H4 s4 r=>hA k y H4 (s2.trans s4) r) λk H3 s3=>hB k H3 (s2.trans s3)
theorem tM{J:It}(kp:Nat->Bool)(R:Nat->V->Hp->Prop)(hD:H1 D=none)(hn:xs.length<=sizeLine)(hJ:∀H,ae H1 H->oa J H xs) (hR:∀i y H H',R i y H->NL H H'->R i y H')(hw:∀x,be ((be σ vs).set j (some x)) vs=be σ vs) (hs:∀(i:Nat) x H,xs[i]? =some x->ae H1 H->∀(A:VK)(B:Hp->Prop),(kp i=true->∀y H4,ae H H4->R i y H4->A y H4)->(kp i=false->∀H3,ae H H3->B H3)->tt ((be σ vs).set j (some x)) H λb H3=>if b=true then te ((be σ vs).set j (some x)) H3 A else B H3) (hd:∀ys H,ae H1 H->H D=some (.lst ys)->Paired (λi y=>R i y H) ((List.range xs.length).filter kp) ys->Q H):∃W:Nat->Nat->Hp->Prop,(∃m,W 0 m (upd H1 D (.lst [])))/\∀i m H,W i m H->(J.stop i H/\Q H)\/(J.go i H/\∃Nx:Hp->Prop,(∀H',Nx H'->∃m',m'<m/\W (i+1) m' H')/\∀x H',J.gB i H x H'->c6 j x (be σ vs) H' λσ2 H2=>be σ2 vs=be σ vs/\tt σ2 H2 λb H3=>if b=true then te σ2 H3 λy H4=>∃acc,H4 D=some (.lst acc)/\acc.length<sizeLine/\Nx (upd H4 D (.lst (acc++[y])))else Nx H3):=by
 refine D0 xs.length kp R hD hn hR (λH s=>(hJ H s).2) (λi H hi s=>?_) hd;obtain⟨go,yl⟩:=(hJ H s).1 i hi;refine⟨go,λx H' y A B hA hB=>?_⟩;obtain⟨rfl,rfl⟩:=yl x H' y;exact⟨hw _,hs i _ _ (aN hi) s A B hA hB⟩
end
theorem kH(n:Nat):(List.range n).filter (λ_=>true)=List.range n:=List.filter_eq_self.mpr λ_ _=>rfl
theorem kI{α:Type}{F:α->V->Prop}{l:List α}{ys:List V}(h:Paired (λ(i:Nat) y=>∀x,l[i]? =some x->F x y) (List.range l.length) ys):Paired F l ys:=by
 have gen:∀(l:List α)(k:Nat)(G:Nat->V->Prop)(ys:List V),(∀i x y,l[i]? =some x->G (k+i) y->F x y)->Paired G ((List.range l.length).map (k+ ·)) ys->Paired F l ys:=by
  intro l
  induction l with
  |nil=>intro k G ys _ h;cases h;exact .nil
  |cons x l ih=>
   intro k G ys hG h;rw[b6,FW,bt]at h;cases h with
   |cons r t=>
    refine .cons (hG 0 x _ rfl r) (ih (k+1) G _ (λi z y hz g=>hG (i+1) z y (by simpa using hz) (by rw[show k+(i+1)=k+1+i by omega];exact g)) ?_);rw[eQ]at t;have e:(List.range l.length).map ((k+ ·)∘Nat.succ)=(List.range l.length).map (k+1+ ·):=u7 λi _=>by simp;omega
    rw[e]at t;exact t
 refine gen l 0 (λ(i:Nat) y=>∀x,l[i]? =some x->F x y) ys (λi x y hx g=>g x (by simpa using hx)) ?_;simpa using h
end L2
namespace L2
open PySem PySem.Spec PyProof.Rows
theorem Ym{P:Program}{w:World}{d:Addr}{o:Obj}{es:Array DictEntry}{ep:Nat}(hs:(d==sysModules)=false)(hx:o.ExactDict)(hdt:o.data=.dict es ep):PySem.W.KdlSrc P w "dict" d d es.size (λi v=>∃en,es[i]? =some en/\v=en.key) (λh=>h.get? d=some o) where
 type:=λ_ hm=>⟨o,hm,hx.1⟩
 there:=λ_ hm=>⟨ba hm,ba hm⟩
 keep:=λ_ _ hm hk=>hk d (.inl rfl) o hm
 notList:=by decide
 notTuple:=by decide
 hint:=λ_ _ _ _ hm hq=>PySem.W.kdl_hint_dict ⟨o,hm,hx.1⟩ hq
 iter:=λA s hh hm=>⟨_,λi h=>h.IsKeyIter s.heap.objs.size d i es.size ep/\h.get? d=some o,(λ_ _ hq=>UD hs hm hx hdt hq),{
   sub:=λb hb=>by simp at hb;simp[hb]
   frame:=λ_ _ _ st hk=>⟨st.1.at λo e=>hk _ (by simp) o e,hk d (by simp) o st.2⟩
   item:=λi s' Q E hi st hQ=>by
    refine UE st.1 st.2 hdt rfl (jd hi) λh' hit sb=>?_
    exact hQ _ h' s'.toks ⟨_,jd hi,rfl⟩ ⟨hit,sb.extBut d o (bT (ba hm)) st.2⟩ λb o hb e=>sb.extBut b o (λh=>hb (by simp[h])) e
   done:=λs' Q E st hQ=>UG hh st.1 st.2 hdt rfl (aI _) λh' he=>hQ h' s'.toks λb o hb e=>he b o (λh=>hb (by simp[h])) e
   self:=λ_ _ _ _ st hQ=>wpAny_pyIter_keyiter st.1 hQ},⟨⟨_,cF _ rfl,rfl,rfl⟩,br _ hm⟩⟩
section
variable{X:Cx}
theorem Yn(hcalm:X.calm=true):g_ X (.type "list") (λxs H Q=>∃(d:Addr)(kvs:List (List Key×V)),xs=[.ref d]/\H d=some (.dT kvs)/\ ∀(l:Addr)(qs:List Addr),H l=none->Paired (λ(q:Addr)(kv:List Key×V)=>H q=some (.tup (kv.1.map kV))) qs kvs->Q (.ref l) (upd H l (.lst (qs.map V.ref)))):=by
 intro pins s σ H xs us Q I r h;obtain⟨d,kvs,rfl,hd,q⟩:=h;obtain⟨u,rfl,rx⟩:=vals1 r;cases rx;obtain⟨z,hs,ys,pr,o,es,ep,ho,hx,hdt,he,_⟩:=I.hok d _ hd;have l1:es.size=ys.length:=size_of_entries he;have l2:kvs.length=ys.length:=bC pr;refine PySem.W.kdl_call (Ym hs hx hdt) (I.ok.hd hcalm) ho (by omega) λh' tk acc' c' kp hD hacc=>?_
 have flip:∀{ys:List (List Key×Addr×Value)}{kvs:List (List Key×V)},Paired (λ(p:List Key×V)(q:List Key×Addr×Value)=>p.1=q.1/\H q.2.1=some (.tup (p.1.map kV))/\RelV p.2 q.2.2) kvs ys->
   Paired (λ(q:Addr)(kv:List Key×V)=>H q=some (.tup (kv.1.map kV))) (ys.map λy=>y.2.1) kvs:=by
  intro ys kvs h
  induction h with
  |nil=>exact .nil
  |cons r _ ih=>exact .cons r.2.1 ih
 have ea:acc'.toList=ys.map λy=>Value.ref y.2.1:=by
  refine List.ext_getElem? λj=>?_
  rw[pO,bF];have en:=entry_at he j;cases e:acc'[j]? with
  |none=>have:acc'.size<=j:=Array.getElem?_eq_none_iff.mp e;rw[jA (by have:=hacc.1;omega)];rfl
  |some v=>
   obtain⟨x,e1,e2⟩:=hacc.2 j v e;rw[e1]at en;cases ey:ys[j]? with
   |none=>rw[ey]at en;cases en
   |some y=>rw[ey]at en;have en:some x=some (entryOfKey (tupleKind (bX X.prog X.w)) y):=en;rw[e2,cI en];rfl
 have vals:∀l:List Addr,Vals (l.map V.ref) (l.map Value.ref):=by
  intro l
  induction l with
  |nil=>exact .nil
  |cons a l ih=>exact .cons rfl ih
 have ea':acc'=((ys.map λy=>y.2.1).map Value.ref).toArray:=by rw[eQ];rw[show(Value.ref∘λ(y:List Key×Addr×Value)=>y.2.1)=λy=>Value.ref y.2.1 from rfl,<-ea]
 refine⟨.ref s.heap.objs.size,_,I.laid (t':=tk) kp (aI _) (show ck X.prog X.w _ h' _ (.lst ((ys.map λy=>y.2.1).map V.ref)) from ⟨by rw[aK,aK];omega,_,c',vals _,by rw[<-ea'];exact hD⟩),rfl,q _ _ (I.hok.fresh (aI _)) (flip pr)⟩
theorem Yo(l b:Addr)(xs ys:Array Value)(n m:Nat)(dd:Option Addr)(sl:Array (Option Value))(h0:¬(!xs.isEmpty&&Builtin.List.listTooLong (xs.size+ys.size))=true)(h1:xs.size<=sizeLine)(h2:xs.size+ys.size<=sizeLine+1):Meets (Builtin.«list.extend» ⟨[.ref l,.ref b],[]⟩) (λ_ R s=>s.heap.get? l=some {cls:=.type "list",data:=.seq xs n}/\s.heap.get? b=some ⟨.type "tuple",dd,.seq ys m,sl⟩/\ R (.ok (.ret Value.none)) {s with heap:=s.heap.update l (Obj.mapSeq λx=>x++ys),toks:=s.toks}):=.of_wp λP w A R ⟨hp,g,d,tk,os⟩ ⟨hl,hb,h⟩=>by
  have q1:=AutoSeq1.idx_int;have q2:=AutoSeq1.sub_tuple_tuple;have q3:=AutoSeq1.sub_list_list;have q4:=AutoSeq1.sub_tuple_list;have q5:=AutoSeq1.sub_list_tuple;have z':(xs++ys).size<=sizeLine+1:=by rw[Array.size_append];exact h2
  wp_walk using (wpAny_updateSeq hl rfl (hz:=h1) (_hz':=z')),AutoSeq1.wpAny_loadPart' hl,AutoSeq1.wpAny_loadPart' hb
  exact⟨_,rfl,h⟩
inductive Na(x:V)(vs:List V)(H:Hp)(Q:VK):Prop
 |mk l b xs zs:x=.ref l->vs=[.ref b]->H l=some (.lst xs)->H b=some (.tup zs)->xs.length+zs.length<=sizeLine->Q .au (upd H l (.lst (xs++zs)))->Na x vs H Q
theorem Yp:vE X "list.extend" Na:=by
 intro pins s σ H x vs v us Q I rx rv h;obtain⟨l,b,xs,zs,rfl,rfl,hH,hB,hz,q⟩:=h;cases rx;obtain⟨u,rfl,ru⟩:=rv.one;cases ru;obtain⟨z,its,n,r,hl,e⟩:=I.mx hH;obtain⟨z2,its2,r2,ob,e2,c2,n2,d2⟩:=I.hok b _ hB;have l2:=r2.length;have hsz:its.toArray.size+its2.toArray.size<=sizeLine:=by rw[cJ,cJ];omega
 have zV:¬(!its.toArray.isEmpty&&Builtin.List.listTooLong (its.toArray.size+its2.toArray.size))=true:=by rw[HH hsz,FV];exact cY
 obtain⟨oc,od,Yq,osl⟩:=ob;have c2:oc=.type "tuple":=c2;have d2:Yq=.seq its2.toArray n2:=d2;subst c2 d2;refine uS F.slot_list_extend ⟨_,e,rfl⟩ F.entry_list_extend (F.args_list_extend_2 _ _)
  (Yo l b its.toArray its2.toArray n n2 od osl zV (by rw[cJ];omega) (by omega)) ⟨e,e2,?_⟩
 refine⟨.au,_,I.vF (its':=its++its2) hH e (by simp) (r.append r2) ?_,rfl,q⟩;rw[bo];omega
def Yr:Value->V
 | .bool b=>.bl b
 | .int i _=>.int i
 | .str x _=>.str x
 | .bytes b _=>.gA b
 | .float b _=>.flt b
 | .ref a=>.ref a
 | .type n=>.ty n
 |_=>.au
theorem Nb{v:V}{u:Value}(h:RelV v u):v=Yr u:=by
 cases v with
 |au=>have h:u=Value.none:=h;rw[h];rfl
 |bl b=>have h:u=Value.bool b:=h;rw[h];rfl
 |ref b=>have h:u=Value.ref b:=h;rw[h];rfl
 |ty b=>have h:u=Value.type b:=h;rw[h];rfl
 |int b=>obtain⟨t,h⟩:=h;rw[h];rfl
 |str b=>obtain⟨t,h⟩:=h;rw[h];rfl
 |gA b=>obtain⟨t,h⟩:=h;rw[h];rfl
 |flt b=>obtain⟨t,h⟩:=h;rw[h];rfl
theorem Ys{v v':V}{u:Value}(h:RelV v u)(k:RelV v' u):v=v':=(Nb h).trans (Nb k).symm
open Classical in
noncomputable def rA(its:List Value)(q:Nat->Bool)(y:Value):Bool:=decide (∃j:Nat,its[j]? =some y/\q j=true)
open Classical in
theorem tN{its:List Value}{q:Nat->Bool}{xs:List V}(r:Vals xs its)(hf:∀(j j':Nat) v,xs[j]? =some v->xs[j']? =some v->q j=q j'){j:Nat}{y:Value}(h:its[j]? =some y):rA its q y=q j:=by
 have vl:=r.length;have back:∀(i:Nat),its[i]? =some y->∃v,xs[i]? =some v/\RelV v y:=by
  intro i hi;have hil:i<xs.length:=by have:=(bW.mp hi).1;omega
  obtain⟨u,hu,ru⟩:=r.get (aN hil);rw[hi]at hu;cases hu;exact⟨_,aN hil,ru⟩
 obtain⟨v,hv,rv⟩:=back j h;unfold rA;cases e:q j with
 |true=>exact bx ⟨j,h,e⟩
 |false=>
  refine a9 ?_
  rintro⟨i,hi,qi⟩
  obtain⟨v',hv',D7⟩:=back i hi;rw[Ys D7 rv]at hv';rw[hf i j v hv' hv,e]at qi;cases qi
def D8(xs:List V)(ds:List PyData):Prop:=∀(j j':Nat) v,xs[j]? =some v->xs[j']? =some v->ds[j]? =ds[j']?
theorem D9{K:ax}{H:Hp}:∀{xs:List V}{ds:List PyData},jJ K H xs ds->xs.length=ds.length/\∀(j:Nat) x,xs[j]? =some x->∃d,ds[j]? =some d/\Dp K H x d
 |_,_,.nil=>⟨rfl,λj x h=>by simp at h⟩
 |_::_,_::_,.cons a t=>by
  obtain⟨h1,h2⟩:=D9 t;refine⟨by simp[h1],λj x h=>?_⟩;cases j with
  |zero=>rw[List.getElem?_cons_zero]at h;cases h;exact⟨_,rfl,a⟩
  |succ j=>exact h2 j x (by simpa using h)
inductive Nc(K:ax)(x:V)(y:V)(H:Hp)(Q:VK):Prop
 |mk p xs ds d:y=.ref p->aj K H p xs->jJ K H xs ds->Dp K H x d->((∀e∈ds,SeqAt.shaped e=true))->SeqAt.shaped d=true->D8 xs ds->(Q (.bl (ds.any λe=>PyData.eqv e d)) H)->Nc K x y H Q
theorem Yt(hu:X.A.units+65<cLine):cj X (compareOp .In) (Nc X.K):=by
 intro pins s σ H x y v u Q I rx ry h;obtain⟨l,xs,ds,d,rfl,hl,hds,hd,sh,sd,fn,q⟩:=h;obtain rfl:u=Value.ref l:=ry;obtain⟨its,r,pl,hz⟩:=I.list hl;obtain⟨le,gt⟩:=D9 hds;have vl:=r.length;have hf:∀(j j':Nat) v,xs[j]? =some v->xs[j']? =some v->(λj=>(ds[j]?).any λe=>PyData.eqv e d) j=(λj=>(ds[j]?).any λe=>PyData.eqv e d) j':=λj j' v a b=>by dsimp only;rw[fn j j' v a b]
 refine SeqAt.in_listAt (rA its λj=>(ds[j]?).any λe=>PyData.eqv e d) pl.isList (λy hy=>?_) ⟨.bl _,H,I,rfl,?_⟩
 ·obtain⟨j,hj⟩:=u9 (show y∈its by simpa using hy);rw[tN r hf hj];have hjl:j<xs.length:=by have:=(bW.mp hj).1;omega
  obtain⟨e,he,de⟩:=gt j _ (aN hjl);obtain⟨y',hy',D_⟩:=r.get (aN hjl);rw[hj]at hy';cases hy';obtain⟨as,r1⟩:=Dp.reads I _ _ _ de D_;obtain⟨bs,r2⟩:=Dp.reads I _ _ _ hd rx;have s1:=sh e (bu he);unfold SeqAt.shaped at s1 sd;rw[fe,pZ]at s1 sd;rw[he];show SeqAt.EqAt X.A.in1 s y v (PyData.eqv e d);refine SeqAt.eqAt_reads _ _ _ s _ _ _ _ r1 r2 s1.1 sd.1 ?_;show X.A.units+1+min _ _<cLine;omega
 ·have e:its.toArray.any (rA its λj=>(ds[j]?).any λe=>PyData.eqv e d)=ds.any λe=>PyData.eqv e d:=by
   rw[List.any_toArray,f9,mf,mf];constructor
   ·rintro⟨y,hy,p⟩
    obtain⟨j,hj⟩:=u9 hy;rw[tN r hf hj]at p;cases e:ds[j]? with
    |none=>rw[e]at p;cases p
    |some e'=>rw[e]at p;exact⟨e',bu e,p⟩
   ·rintro⟨e',he,p⟩
    obtain⟨j,hj⟩:=u9 he;have hjl:j<its.length:=by have:=(bW.mp hj).1;omega
    refine⟨its[j],zl hjl,?_⟩;rw[tN r hf (aN hjl),hj];exact p
  rw[e];exact q
inductive Nd(K:ax)(x:V)(xs:List V)(H:Hp)(Q:VK):Prop
 |mk (a:Addr) (ys:List V) (y:V) (ds:List PyData) (d:PyData) (j:Nat):x=V.ref a->xs=[y]->aj K H a ys->jJ K H ys ds->Dp K H y d->((∀e∈ds,SeqAt.shaped e=true))->SeqAt.shaped d=true->D8 ys ds->((ds.findIdx? λe=>PyData.eqv e d)=some j)->Q (.int (j:Nat)) H->Nd K x xs H Q
theorem Yu(hu:X.A.units+65<cLine):zQ X "list.index" (Nd X.K):=by
 intro pins s σ H x xs v us Q I rx rxs h;obtain⟨a,ys,y,ds,d,j,rfl,rfl,hs,hds,hd,sh,sd,fn,hj,q⟩:=h;cases rx;cases rxs with
 |cons ry rt=>
  rename_i uy ut
  cases rt;obtain⟨its,r,⟨⟨cls,dd,data,sl⟩,n,ho,hc,hdn,hd'⟩,hlen⟩:=I.list hs;simp only at hc hd';subst hc hd';obtain⟨le,gt⟩:=D9 hds;have vl:=r.length;have hsl:=bg;have hf:∀(j j':Nat) v,ys[j]? =some v->ys[j']? =some v->(λj=>(ds[j]?).any λe=>PyData.eqv e d) j=(λj=>(ds[j]?).any λe=>PyData.eqv e d) j':=λj j' v a b=>by dsimp only;rw[fn j j' v a b]
  obtain⟨j1,j2,j3⟩:=me.mp hj;have hjl:j<its.toArray.size:=by simp;omega
  have pk:∀(m:Nat)(hm:m<its.toArray.size),rA its (λj=>(ds[j]?).any λe=>PyData.eqv e d) its.toArray[m]=PyData.eqv (ds[m]'(by simp at hm;omega)) d:=λm hm=>by
   have hm':m<its.length:=by simpa using hm
   rw[tN (j:=m) r hf (by simp[hm']),aN (by omega)];rfl
  refine uS PySem.F.slot_list_index ⟨_,ho,rfl⟩ PySem.F.entry_list_index (PySem.F.args_list_index_2 _ _) (SeqAt.list_indexAt a its.toArray n dd sl uy (rA its λj=>(ds[j]?).any λe=>PyData.eqv e d) j hjl (by omega) ?_ ?_) ⟨ho,λu' d7=>?_,?_⟩
  ·rw[pk];exact j2
  ·intro m hm hmj;rw[pk];have:=j3 m hmj;simpa using this
  ·obtain⟨m,hm⟩:=u9 (show u'∈its by simpa using d7);rw[tN r hf hm];have hml:m<ys.length:=by have:=(bW.mp hm).1;omega
   obtain⟨e,he,de⟩:=gt m _ (aN hml);obtain⟨y',hy',D_⟩:=r.get (aN hml);rw[hm]at hy';cases hy';obtain⟨as,r1⟩:=Dp.reads I _ _ _ de D_;obtain⟨bs,r2⟩:=Dp.reads I _ _ _ hd ry;have s1:=sh e (bu he);unfold SeqAt.shaped at s1 sd;rw[fe,pZ]at s1 sd;rw[he];refine SeqAt.eqAt_reads _ _ _ s _ _ _ _ r1 r2 s1.1 sd.1 ?_;show X.A.units+1+min _ _<cLine;omega
  ·exact⟨.int (j:Nat),H,I.tok _,⟨_,rfl⟩,q⟩
end
end L2
namespace My
open PySem L2
def yj(li n:V):List (Str×V):=[("instructions",li),("names",n)]
theorem mR(li n:V):(yj li n).lookup ("instructions" :Str)=some li:=rfl
theorem o8(li n:V):(yj li n).lookup ("names" :Str)=some n:=rfl
def IA(t:Ad)(H:Hp)(a:Addr)(i:Ins):Prop:=dF t H a i (kG i)
theorem IA.nl{t:Ad}{H H':Hp}{a:Addr}{i:Ins}(h:IA t H a i)(k:NL H H'):IA t H' a i:=h.mono (λb xs e=>k b _ e (by intro z q;cases q)) λC dx fs e=>k a _ e (by intro z q;cases q)
def gR(t:Ad)(H:Hp)(li:Addr)(c:Sz43.Code):Prop:=∃is:List Addr,H li=some (.lst (is.map V.ref))/\Paired (λa i=>IA t H a i) is c
theorem gR.same{t:Ad}{H H':Hp}{li:Addr}{c:Sz43.Code}(h:gR t H li c)(s:ae H H'):gR t H' li c:=by obtain⟨is,h1,h2⟩:=h;exact⟨is,s _ _ h1,Paired.c8 h2 λa i q=>q.nl s.nl⟩
def o9(H:Hp)(ns:Addr)(vs:List (List Nat)):Prop:=∃qs:List Addr,H ns=some (.lst (qs.map V.ref))/\iT H qs vs
theorem o9.same{H H':Hp}{ns:Addr}{vs:List (List Nat)}(h:o9 H ns vs)(s:ae H H'):o9 H' ns vs:=by obtain⟨qs,h1,h2⟩:=h;exact⟨qs,s _ _ h1,Paired.c8 h2 λa i q=>s _ _ q⟩
def fD(t:Ad)(H:Hp)(x:Addr)(p:Sz43.Program):Prop:=∃(dx li ns:Addr),H x=some (.ins t.lI dx (yj (.ref li) (.ref ns)))/\gR t H li p.code/\o9 H ns p.vars
theorem fD.same{t:Ad}{H H':Hp}{x:Addr}{p:Sz43.Program}(h:fD t H x p)(s:ae H H'):fD t H' x p:=by obtain⟨dx,li,ns,h1,h2,h3⟩:=h;exact⟨dx,li,ns,s _ _ h1,h2.same s,h3.same s⟩
inductive Ea(t:Ad)(vs:List V)(H:Hp)(Q:VK)(e0:XK):Prop
 |mk (a dx:Addr) (li n:V):vs=[.ref a,li,n]->H a=some (.ins t.lI dx [])->(∀H',H' a=some (.ins t.lI dx (yj li n))->(∀b,b≠a->H' b=H b)->Q .au H')->Ea t vs H Q e0
inductive Nf(t:Ad)(vs:List V)(H:Hp)(Q:VK)(e0:XK):Prop
 |mk (r dx:Addr):vs=[.ref r]->H r=some (.ins t.eX dx [])->(∀A H',e7 t H' r A 0 [] [] ⟨[],[],[]⟩->(∀b o,H b=some o->b≠r->H' b=some o)->Q .au H')->Nf t vs H Q e0
inductive Ng(t:Ad)(K:ax)(vs:List V)(H:Hp)(Q:VK)(E:XK):Prop
 |mk (a:Addr) (tx:List Nat):vs=[.ref a]->(jL K H a (tx.map λ(c:Nat)=>(c:Int)))->((∀k,Sz43.parse tx=.error k->∀H',E (.int (k:Int) 0) none H'))->((∀p,Sz43.parse tx=.ok p->∀x H',fD t H' x p->Q (.ref x) H'))->Ng t K vs H Q E
section
variable{P:Program}{w:World}{K:ax}{mg:Str->Option Value}{base:Heap}{t:Ad}
theorem Yv:aQ ["self","instructions","names"] ["self","instructions","names"] (aC Kc):=aS
theorem Nh(T:Txt K mg t):aG P w K mg base aR 1 t.Bv t.CP ["self","instructions","names"] (Ea t):=by
 refine T.Dm.ok Yv (λvs H Q E h=>?_) (λ_ A _ s H vs Q E hr h=>?_)
 ·obtain⟨_,_,_,_,rfl,_⟩:=h;rfl
 ·obtain⟨a,dx,li,n,rfl,ha,k⟩:=h;refine⟨_,aq (gH (pv 0) (pv 1) rfl) (ak (gH (pv 0) (pv 2) rfl)),?_⟩;refine⟨_,rfl,_,rfl,a,_,dx,_,rfl,ha,T.fz,T.kr,(by show 0<1000;decide),?_⟩;refine⟨_,rfl,_,rfl,a,_,dx,_,rfl,aw,T.fz,T.lK,(by show 1<1000;decide),?_⟩;exact k _ aw λb hb=>by rw[ay hb,ay hb]
theorem wr{H:Hp}{r x C dx:Addr}{fs fs':List (Str×V)}{o:HO}(hr:H r=some (.ins C dx fs))(hx:H x=none):(upd (upd H x o) r (.ins C dx fs')) x=some o/\(upd (upd H x o) r (.ins C dx fs')) r=some (.ins C dx fs')/\(upd H x o) r=some (.ins C dx fs)/\∀b u,H b=some u->b≠r->(upd (upd H x o) r (.ins C dx fs')) b=some u:=by have n:r≠x:=aJ hr hx;refine⟨by rw[ay n.symm];exact aw,aw,by rw[ay n];exact hr,λb u e hb=>?_⟩;rw[ay hb,ay (aJ e hx)];exact e
theorem Yw:aQ ["self"] ["self"] (aC Kf):=aS
theorem Yx(T:Txt K mg t):aG P w K mg base aR 1 t.Bx t.CS ["self"] (Nf t):=by
 refine T.Dr.ok Yw (λvs H Q E h=>?_) (λ_ A _ s H vs Q E hr h=>?_)
 ·obtain⟨_,_,rfl,_⟩:=h;rfl
 ·obtain⟨r,dx,rfl,h0,k⟩:=h;refine⟨_,aq (gH (pv 0) aL rfl) (aq (gH (pv 0) (cD af) rfl) (aq (gH (pv 0) Il rfl) (aq (gH (pv 0) Il rfl) (ak (gH (pv 0) (cD af) rfl))))),?_⟩;refine⟨_,rfl,r,_,dx,_,rfl,h0,T.bB,T.iV,(by show 0<1000;decide),?_⟩;refine⟨b9 _,λli hli=>?_⟩;obtain⟨a1,a2,a3,a4⟩:=wr (o:=.lst []) (fs':=bz "instructions" (.ref li) (bz "line" (.int 0) [])) aw hli;refine⟨_,rfl,r,_,dx,_,rfl,a3,T.bB,T.qJ,(by show 1<1000;decide),?_⟩;intro va hva;obtain⟨b1,b2,b3,b4⟩:=wr (o:=.dT []) (fs':=bz "variables" (.ref va) (bz "instructions" (.ref li) (bz "line" (.int 0) []))) a2 hva;refine⟨_,rfl,r,_,dx,_,rfl,b3,T.bB,T.lL,(by show 2<1000;decide),?_⟩;intro la hla;obtain⟨c1,c2,c3,c4⟩:=wr (o:=.dT []) (fs':=bz "labels" (.ref la) (bz "variables" (.ref va) (bz "instructions" (.ref li) (bz "line" (.int 0) [])))) b2 hla;refine⟨_,rfl,r,_,dx,_,rfl,c3,T.bB,T.qK,(by show 3<1000;decide),?_⟩;refine⟨b9 _,λju hju=>?_⟩;obtain⟨d1,d2,d3,d4⟩:=wr (o:=.lst []) (fs':=bz "jumps" (.ref ju) (bz "labels" (.ref la) (bz "variables" (.ref va) (bz "instructions" (.ref li) (bz "line" (.int 0) []))))) c2 hju;refine⟨_,rfl,r,_,dx,_,rfl,d3,T.bB,T.xO,(by show 4<1000;decide),?_⟩;have tO:li≠r:=(aJ aw hli).symm;have nva:va≠r:=(aJ a2 hva).symm;have nla:la≠r:=(aJ b2 hla).symm;refine k ⟨dx,li,va,la,ju⟩ _ ⟨⟨d2,d4 _ _ (c4 _ _ (b4 _ _ a1 tO) tO) tO,d4 _ _ (c4 _ _ b1 nva) nva,d4 _ _ c1 nla,d1,?_,?_⟩,.nil,.nil,by simp,λa h=>absurd h (by simp),λx h=>absurd h (by simp),b9 _,b9 _⟩ λb o e n=>?_
  ·exact aJ (c4 _ _ (b4 _ _ a1 tO) tO) hju
  ·exact aJ b1 hla
  ·exact d4 _ _ (c4 _ _ (b4 _ _ (a4 _ _ (by rw[ay n];exact e) n) n) n) n
theorem Yy{H:Hp}{qs:List Addr}{vars:List (List Nat)}(h:Paired (λq kv=>H q=some (.tup (kv.1.map kV))) qs (jN vars)):iT H qs vars:=by
 have gen:∀(vars:List (List Nat))(n:Nat)(qs:List Addr),Paired (λq(kv:List Key×V)=>H q=some (.tup (kv.1.map kV))) qs ((vars.zipIdx n).map λx=>(kw x.1,V.int (x.2:Int)))->iT H qs vars:=by
  intro vars
  induction vars with
  |nil=>intro n qs h;cases h;exact .nil
  |cons v r ih=>
   intro n qs h;rw[List.zipIdx_cons,bt]at h;cases h with
   |cons e t=>refine .cons ?_ (ih (n+1) _ t);rw[<-qy];exact e
 exact gen vars 0 qs h
theorem Ni:aQ ["text","reading","words"] ["text"] (aC J_):=aS
theorem Yz(T:Txt K mg t):aG P w K mg base (fu P w t.jq) 9 t.Bt t.CN ["text"] (Ng t K):=by
 refine T.xM.lD Ni (λvs H Q E h=>?_) (λ_ A _ s H vs Q E hr h=>?_)
 ·obtain⟨_,_,rfl,_⟩:=h;rfl
 ·obtain⟨a,tx,rfl,hT,kE,k⟩:=h;have nd:=Ni.nd;have hr1:=hr.mono (show 1<=8 by decide);have hr2:=hr.mono (show 2<=8 by decide);have Eb:=hr.mono (show 3<=8 by decide);refine⟨_,aq (aZ (i:=1) nd rfl (Or.inl rfl) (Te T.Lm (Yx T) hr2 rfl T.Ll (WD T) .nil aH))
   (aq (gF (IJ rfl rfl rfl) rfl (gC (aP (Xx T) hr1 rfl T.KP T.xn.kp (Wi T) .nil aH (aa (pv 0) af))) (bD (i:=2) nd rfl (Or.inl rfl)) (ak (fk (iL (pv 1) T.bB T.Lf (Yj T) hr (WE T) .nil (gL rfl rfl) (aa (pv 2) af)))))
   (aq (fk (Td (pv 1) T.bB T.Lk (Yk T) Eb (WL T) .nil (gL rfl rfl)))
   (ak (aB (qp T.DC (Nh T) hr2 rfl T.DB (L7 T) .nil aH (aa (aE (pv 1) rfl) (aa (mw (Yn rfl) rfl T.DH rfl (aa (aE (pv 1) rfl) af)) af))))))),?_⟩
  intro r dr nr ndr ner;refine⟨r,dr,rfl,aw,λAd H1 D1 kp=>⟨rfl,?_⟩⟩;have s1:ae H H1:=ae.made nr ndr kp;refine⟨_,rfl,a,tx,rfl,jL.same s1 hT,λl ps H2 s2 fl fps hl2 Ec=>?_⟩;have D2:=D1.same s2;have nl1:l≠Ad.li:=(aJ D1.raw.lst fl).symm;have nl2:l≠Ad.ju:=(aJ D1.raw.dG fl).symm;have np:∀q∈ps,q≠Ad.li/\q≠Ad.ju:=λq hq=>⟨(aJ D1.raw.lst (fps q hq)).symm,(aJ D1.raw.dG (fps q hq)).symm⟩
  obtain⟨lines,eL⟩:∃lines,lines=(Sz43.parted (λ(c:Nat)=>c==10) tx).map Sz43.words:=⟨_,rfl⟩;rw[<-eL]at Ec;have eP:=Rp tx;rw[<-eL]at eP;have lnum:lines.length<=100001:=by rw[eL,aK];have h1:=M9 (λ(c:Nat)=>c==10) tx;have h2:=hT.1;rw[aK]at h2;omega
  have lps:ps.length=lines.length:=bC Ec;have hw:∀ws∈lines,∀w∈ws,w≠[]:=λws h w h'=>by rw[eL]at h;exact Xt h h'
  refine⟨l,rfl,⟨_,aj.of hl2⟩,lu (K:=K) (a:=l) (xs:=ps.map V.ref) (λm σ Hh=>∃(v:Option V)(is js:List Addr)(g:Sz43.Got),σ=[some (.ref a),some (.ref r),v]/\e7 t Hh r Ad m is js g/\Hh l=some (.lst (ps.map V.ref))/\Paired (λq ws=>b_ Hh q ws) ps lines/\ Sz43.puts ⟨[],[],[]⟩ 1 lines=Sz43.puts g (m+1) (lines.drop m)/\g.labels.length<=m) ⟨none,[],[],_,rfl,D2,hl2,Ec,rfl,aI _⟩ (λi σ Hh _ ⟨_,_,_,_,_,_,e,_⟩=>aj.of e) ?_ ?_⟩
  ·rintro m y σ Hh hy ⟨v,is,js,g,rfl,D,hl,pl,ep,lb⟩
   rw[bF]at hy;obtain⟨q,hq,rfl⟩:=cK.mp hy;have hm:m<lines.length:=by have:=(bW.mp hq).1;omega
   obtain⟨ws,hws⟩:∃ws,lines[m]? =some ws:=⟨_,aN hm⟩;have edr:lines.drop m=ws::lines.drop (m+1):=by rw[List.drop_eq_getElem_cons hm];rw[aN hm]at hws;rw[cI hws]
   rw[edr,M_]at ep;have L:=cE pl hq hws;have nq:=np q (bu hq);refine⟨_,rfl,r,_,_,rfl,D.raw.ob,XM,_,rfl,r,Ad,m,is,js,g,q,ws,rfl,D,L,nq.1,nq.2,hw ws (bu hws),by omega,λe=>?_,λg' e is' js' H3 D3 k3=>?_⟩
   ·rw[e]at ep;rw[ep]at eP;exact kE _ eP
   ·rw[e]at ep;refine⟨_,is',js',g',rfl,D3,D.raw.MD k3 hl nl1 nl2,Paired.mapM pl λq ws hq h=>D.raw.gP k3 h (np q hq).1 (np q hq).2,ep,?_⟩;have:=Yl e;omega
  ·rintro σ Hh ⟨v,is,js,g,rfl,D,hl,pl,ep,lb⟩
   rw[aK,lps,List.drop_length]at ep;have ep:Sz43.puts ⟨[],[],[]⟩ 1 lines=.ok g:=ep;rw[ep]at eP;refine⟨_,rfl,r,_,_,rfl,D.raw.ob,XR,r,Ad,_,is,js,g,rfl,D,λx e=>?_,λe H3 R3 I3=>?_⟩
   ·refine kE _ ?_;rw[eP];show(match (cH g.items).find? (λx=>(Sz43.place g.labels x.2.1).isNone)with |some x=>Except.error x.2.2 |none=>_)=_;rw[e]
   ·have eP:Sz43.parse tx=.ok ⟨g.vars,g.items.map λ(x:Nat×Sz43.Line)=>insOf g x.2⟩:=by
     rw[eP];show(match (cH g.items).find? (λx=>(Sz43.place g.labels x.2.1).isNone)with |some x=>Except.error x.2.2 |none=>_)=_;rw[e]
    refine⟨_,rfl,r,_,_,_,_,rfl,R3.ob,T.bB,T.qJ,x6,_,rfl,r,_,_,_,_,rfl,R3.ob,T.bB,T.lL,oV,_,_,rfl,R3.var,?_⟩;intro ln qs hln pq;have s0:ae H3 (upd H3 ln (.lst (qs.map V.ref))):=ae.new hln;intro x dx nx cP ij;refine⟨x,dx,_,_,rfl,aw,λH4 h1 h2=>⟨rfl,?_⟩⟩;have s5:=gQ nx cP h2;have s4:=s0.trans s5;have nq:o9 H4 ln g.vars:=⟨qs,s5 _ _ aw,Paired.c8 (Yy pq) λa i q=>s4 _ _ q⟩;refine k _ eP x H4 ⟨dx,Ad.li,ln,h1,⟨is,s4 _ _ R3.lst,?_⟩,nq⟩;have I4:Paired (λa x=>dF t H4 a (insOf g x.2) (kG (insOf g x.2))) is g.items:=Paired.c8 I3 λa x h=>h.mono (λ_ _ e=>s4 _ _ e) λ_ _ _ e=>s4 _ _ e
    clear eP ep;show Paired _ is (g.items.map λ(x:Nat×Sz43.Line)=>insOf g x.2);have mp:∀{is:List Addr}{items:List (Nat×Sz43.Line)},Paired (λa x=>dF t H4 a (insOf g x.2) (kG (insOf g x.2))) is items->Paired (λa i=>dF t H4 a i (kG i)) is (items.map λ(x:Nat×Sz43.Line)=>insOf g x.2):=by
     intro is items h
     induction h with
     |nil=>exact .nil
     |cons r _ ih=>exact .cons r ih
    exact mp I4
end
end My
namespace My
open Sz43
abbrev LL(α:Type):=List (Option α)
abbrev EE(α:Type):=Option (LL α)
abbrev KL:=LL Int
section
variable{α:Type}
def cX(a b:LL α):Prop:=a.length=b.length/\∀(i:Nat)(z:α),a[i]? =some (some z)->b[i]? =some (some z)
def le(x y:EE α):Prop:=∀b,y=some b->∃a,x=some a/\cX a b
theorem yk(a:LL α):cX a a:=⟨rfl,λ_ _ h=>h⟩
theorem YA{a b c:LL α}(h:cX a b)(k:cX b c):cX a c:=⟨h.1.trans k.1,λi z e=>k.2 i z (h.2 i z e)⟩
theorem le_refl(x:EE α):le x x:=λb e=>⟨b,e,yk b⟩
theorem le_trans{x y z:EE α}(h:le x y)(k:le y z):le x z:=λc e=>by obtain⟨b,e2,h2⟩:=k c e;obtain⟨a,e3,h3⟩:=h b e2;exact⟨a,e3,YA h3 h2⟩
theorem o_{x y:Option α}{a b:LL α}:cX (x::a) (y::b) ↔ (x=none\/x=y)/\cX a b:=by
 constructor
 ·rintro⟨h1,h2⟩
  refine⟨?_,by simpa using h1,λi z e=>?_⟩
  ·cases x with
   |none=>exact .inl rfl
   |some z=>
    have:=h2 0 z rfl;have:y=some z:=by simpa using this
    exact .inr this.symm
  ·have:=h2 (i+1) z (by simpa using e);simpa using this
 ·rintro⟨h1,h2,h3⟩
  refine⟨by simp[h2],λi z e=>?_⟩;cases i with
  |zero=>
   have e:x=some z:=by simpa using e
   rcases h1 with h1 |h1
   ·rw[h1]at e;cases e
   ·simp[<-h1,e]
  |succ i=>have:=h3 i z (by simpa using e);simpa using this
theorem Nj:∀{a b:LL α},cX a b->cX b a->a=b
 |[],[],_,_=>rfl
 |[],_::_,h,_=>absurd h.1 (by simp)
 |_::_,[],h,_=>absurd h.1 (by simp)
 |x::a,y::b,h,k=>by
  rw[o_]at h k;rw[Nj h.2 k.2]
  congr 1
  rcases h.1 with e |e
  ·rcases k.1 with e2 |e2
   ·rw[e,e2]
   ·exact e2.symm
  ·exact e
theorem ab2{x y:EE α}(h:le x y)(k:le y x):x=y:=by
 cases x with
 |none=>
  cases y with
  |none=>rfl
  |some b=>obtain⟨a,e,_⟩:=h b rfl;cases e
 |some a=>obtain⟨b,e,h2⟩:=k a rfl;rw[e];obtain⟨a',e',h3⟩:=h b e;cases e';rw[Nj h3 h2]
def Wf(n:Nat)(x:EE α):Prop:=∀l,x=some l->l.length=n
variable [DecidableEq α]
def gh(l m:LL α):LL α:=(l.zip m).map λ(x:Option α×Option α)=>if x.1=x.2 then x.1 else none
def both(e f:EE α):EE α:=match e,f with
 |none,f=>f
 |e,none=>e
 |some l,some m=>some (gh l m)
theorem ym(x y:Option α)(l m:LL α):gh (x::l) (y::m)=(if x=y then x else none)::gh l m:=rfl
theorem Nk{l m:LL α}(h:l.length=m.length):(gh l m).length=l.length:=by unfold gh;rw[aK,List.length_zip,h];omega
theorem Nl:∀{l m:LL α},l.length=m.length->cX (gh l m) l
 |[],[],_=>yk _
 |x::l,y::m,h=>by
  rw[ym,o_];refine⟨?_,Nl (by simpa using h)⟩;by_cases e:x=y
  ·rw[ai e];exact .inr rfl
  ·rw[ah e];exact .inl rfl
theorem Nm:∀{l m:LL α},l.length=m.length->cX (gh l m) m
 |[],[],_=>yk _
 |x::l,y::m,h=>by
  rw[ym,o_];refine⟨?_,Nm (by simpa using h)⟩;by_cases e:x=y
  ·rw[ai e];exact .inr e
  ·rw[ah e];exact .inl rfl
theorem Rq:∀{a l m:LL α},cX a l->cX a m->cX a (gh l m)
 |[],[],[],_,_=>yk _
 |[],[],_::_,_,h=>absurd h.1 (by simp)
 |[],_::_,_,h,_=>absurd h.1 (by simp)
 |_::_,[],_,h,_=>absurd h.1 (by simp)
 |_::_,_::_,[],_,h=>absurd h.1 (by simp)
 |x::a,y::l,z::m,h,k=>by
  rw[o_]at h k;rw[ym,o_];refine⟨?_,Rq h.2 k.2⟩;rcases h.1 with e |e
  ·exact .inl e
  ·rcases k.1 with e2 |e2
   ·exact .inl e2
   ·rw[<-e,<-e2,ai rfl];exact .inr rfl
theorem Nn{n:Nat}{x y:EE α}(hx:Wf n x)(hy:Wf n y):le (both x y) x:=by
 cases x with
 |none=>exact λb e=>by cases e
 |some l=>
  cases y with
  |none=>exact le_refl _
  |some m=>intro b e;cases e;exact⟨_,rfl,Nl ((hx _ rfl).trans (hy _ rfl).symm)⟩
theorem Np{n:Nat}{x y:EE α}(hx:Wf n x)(hy:Wf n y):le (both x y) y:=by
 cases x with
 |none=>exact le_refl _
 |some l=>
  cases y with
  |none=>exact λb e=>by cases e
  |some m=>intro b e;cases e;exact⟨_,rfl,Nm ((hx _ rfl).trans (hy _ rfl).symm)⟩
theorem Nq{z x y:EE α}(h:le z x)(k:le z y):le z (both x y):=by
 cases x with
 |none=>exact k
 |some l=>
  cases y with
  |none=>exact h
  |some m=>intro b e;cases e;obtain⟨a,e1,h1⟩:=h l rfl;obtain⟨a',e2,h2⟩:=k m rfl;rw[e1]at e2;cases e2;exact⟨a,e1,Rq h1 h2⟩
theorem Nr{n:Nat}{x y:EE α}(hx:Wf n x)(hy:Wf n y):Wf n (both x y):=by
 cases x with
 |none=>exact hy
 |some l=>
  cases y with
  |none=>exact hx
  |some m=>intro b e;cases e;show(gh l m).length=n;rw[Nk ((hx _ rfl).trans (hy _ rfl).symm)];exact hx _ rfl
end
section
variable{α:Type}
def cnt(l:LL α):Nat:=l.countP Option.isSome
theorem Nt:∀{a b:LL α},cX a b->cnt a<=cnt b
 |[],[],_=>aI _
 |[],_::_,h=>absurd h.1 (by simp)
 |_::_,[],h=>absurd h.1 (by simp)
 |x::a,y::b,h=>by
  rw[o_]at h;have ih:=Nt h.2;unfold cnt at*;rw[u_,u_];rcases h.1 with e |e
  ·rw[e];simp;omega
  ·rw[e];omega
theorem Nu:∀{a b:LL α},cX a b->a≠b->cnt a<cnt b
 |[],[],_,h=>absurd rfl h
 |[],_::_,h,_=>absurd h.1 (by simp)
 |_::_,[],h,_=>absurd h.1 (by simp)
 |x::a,y::b,h,k=>by
  rw[o_]at h;have i1:=Nt h.2;by_cases e:a=b
  ·subst e;have hx:x=none:=h.1.resolve_right λe=>k (by rw[e])
   subst hx;cases y with
   |none=>exact absurd rfl k
   |some z=>unfold cnt;rw[u_,u_];simp
  ·have i2:=Nu h.2 e;unfold cnt at*;rw[u_,u_];rcases h.1 with e |e
   ·rw[e];simp;omega
   ·rw[e];omega
theorem YB(l:LL α):cnt l<=l.length:=List.countP_le_length
def ht(n:Nat):EE α->Nat
 |none=>n+1
 |some l=>cnt l
theorem qV{n:Nat}{x y:EE α}(hx:Wf n x)(h:le x y)(k:x≠y):ht n x<ht n y:=by
 cases y with
 |none=>
  cases x with
  |none=>exact absurd rfl k
  |some l=>have:=YB l;have:=hx l rfl;show cnt l<n+1;omega
 |some b=>obtain⟨a,e,h2⟩:=h b rfl;subst e;exact Nu h2 λz=>k (by rw[z])
theorem tP{n:Nat}{x y:EE α}(hx:Wf n x)(h:le x y):ht n x<=ht n y:=by
 by_cases e:x=y
 ·rw[e];exact aI _
 ·exact pK (qV hx h e)
theorem yn{n:Nat}{x:EE α}(hx:Wf n x):ht n x<=n+1:=tP (y:=none) hx (λb e=>by cases e)
def hts(n:Nat)(l:List (EE α)):Nat:=(l.map (ht n)).sum
def gt(l:List (EE α))(j:Nat):EE α:=(l[j]?).bind id
theorem Ed{l:List (EE α)}{j:Nat}(h:j<l.length):l[j]? =some (gt l j):=by unfold gt;rw[aN h];rfl
theorem lT{l:List (EE α)}{j:Nat}(h:l.length<=j):gt l j=none:=by unfold gt;rw[jA h];rfl
theorem jt{l:List (EE α)}{j:Nat}{x:EE α}(h:j<l.length):gt (l.set j x) j=x:=by unfold gt;rw[kR h];rfl
theorem kJ{l:List (EE α)}{j k:Nat}{x:EE α}(h:k≠j):gt (l.set j x) k=gt l k:=by unfold gt;rw[m8 (cu h)]
theorem Nv(n:Nat):∀{l:List (EE α)}{j:Nat}{x:EE α},j<l.length->hts n (l.set j x)+ht n (gt l j)=hts n l+ht n x
 |[],_,_,h=>absurd h (by simp)
 |y::r,0,x,_=>by unfold hts;show((x::r).map (ht n)).sum+ht n y=((y::r).map (ht n)).sum+ht n x;rw[bt,bt,iE,iE];omega
 |y::r,j+1,x,h=>by have ih:=Nv n (l:=r) (j:=j) (x:=x) (by simpa using h);unfold hts at*;show((y::r.set j x).map (ht n)).sum+ht n (gt r j)=((y::r).map (ht n)).sum+ht n x;rw[bt,bt,iE,iE];omega
theorem tQ{n:Nat}:∀{l m:List (EE α)},l.length=m.length->(∀j,Wf n (gt l j))->(∀j,le (gt l j) (gt m j))->hts n l<=hts n m/\(l≠m->hts n l<hts n m)
 |[],[],_,_,_=>⟨aI _,λh=>absurd rfl h⟩
 |x::l,y::m,h,hw,hl=>by
  obtain⟨i1,i2⟩:=tQ (n:=n) (l:=l) (m:=m) (by simpa using h) (λj=>hw (j+1)) λj=>hl (j+1)
  have w0:Wf n x:=hw 0;have l0:le x y:=hl 0;have h0:=tP w0 l0;unfold hts at*;rw[bt,bt,iE,iE];refine⟨by omega,λk=>?_⟩;by_cases e:x=y
  ·subst e;have:=i2 λz=>k (by rw[z])
   omega
  ·have:=qV w0 l0 e;omega
end
end My
namespace My
open Sz43
def iZ(i:Ins)(l:KL):Option Int:=match i with
 | .num _ z=>some z
 | .copy _ a=>knows l a
 | .op k _ a b=>(match knows l a,knows l b with
  |some x,some y=>some (reckon k x y)
  |_,_=>none)
 |_=>none
theorem y3(i:Ins)(l:KL):behind i l=match givesOf i with
  |some d=>l.set d (iZ i l)
  |none=>l:=by
 cases i<;>rfl
theorem Nw(i:Ins)(l:KL):(behind i l).length=l.length:=by cases i<;>simp[behind]
theorem yo{a b:KL}(h:cX a b)(v:Nat):knows a v=none\/knows a v=knows b v:=by
 unfold knows;cases e:a[v]? with
 |none=>exact .inl rfl
 |some x=>
  cases x with
  |none=>exact .inl rfl
  |some z=>rw[h.2 v z e];exact .inr rfl
theorem YC{a b:KL}{d:Nat}{x y:Option Int}(h:cX a b)(k:x=none\/x=y):cX (a.set d x) (b.set d y):=by
 refine⟨by rw[gn,gn];exact h.1,λi z e=>?_⟩;by_cases hi:i=d
 ·subst hi;by_cases hl:i<a.length
  ·rw[kR hl]at e;rw[kR (h.1▸hl)];rcases k with k |k
   ·rw[k]at e;cases e
   ·rw[<-k];exact e
  ·rw[jA (by rw[gn];omega)]at e;cases e
 ·rw[m8 (cu hi)]at e ⊢;exact h.2 i z e
theorem tR(k d v u:Nat)(l:KL):iZ (.op k d v u) l=match knows l v,knows l u with
  |some x,some y=>some (reckon k x y)
  |_,_=>none:=rfl
theorem YD{a b:KL}(h:cX a b)(i:Ins):iZ i a=none\/iZ i a=iZ i b:=by
 cases i with
 |num d z=>exact .inr rfl
 |copy d v=>exact yo h v
 |op k d v u=>
  have h1:=yo h v;have h2:=yo h u;rw[tR,tR];rcases h1 with e1 |e1
  ·rw[e1];exact .inl rfl
  ·rcases h2 with e2 |e2
   ·rw[e2];cases knows a v<;>exact .inl rfl
   ·rw[e1,e2];exact .inr rfl
 |_=>exact .inl rfl
theorem Ny{a b:KL}(h:cX a b)(i:Ins):cX (behind i a) (behind i b):=by
 rw[y3,y3];cases givesOf i with
 |none=>exact h
 |some d=>exact YC h (YD h i)
theorem tT(at_ v t:Nat)(l:KL):mayLead at_ (.cond v t) l=match knows l v with
  |some z=>if z=0 then [at_+1]else [t]
  |none=>[t,at_+1]:=rfl
theorem Nz{a b:KL}(h:cX a b){at_ j:Nat}{i:Ins}(k:j∈mayLead at_ i b):j∈mayLead at_ i a:=by
 cases i with
 |cond v t=>
  rw[tT]at k ⊢;rcases yo h v with e |e
  ·rw[e];cases hb:knows b v with
   |none=>rw[hb]at k;exact k
   |some z=>
    rw[hb]at k;dsimp only at k ⊢;split at k
    ·simp at k;simp[k]
    ·simp at k;simp[k]
  ·rw[e];exact k
 |_=>exact k
def eJ(c:Code)(Y:List Env):Prop:=∀(i:Nat)(x:Ins)(l:KL),c[i]? =some x->gt Y i=some l->∀j∈mayLead i x l,le (gt Y j) (some (behind x l))
def bS(n:Nat)(l:List Env):Prop:=∀j,Wf n (gt l j)
theorem ab3(e f:Env):Sz43.both e f=My.both e f:=by cases e<;>cases f<;>rfl
def dH(v:KL)(js:List Nat)(m:List Env):List Env:=js.foldl (λ(m:List Env)(j:Nat)=>m.set j (My.both ((m[j]?).bind id) (some v))) m
theorem tU{n:Nat}{v:KL}(hv:v.length=n):∀(js:List Nat)(m:List Env),bS n m->(dH v js m).length=m.length/\bS n (dH v js m)/\(∀k,le (gt (dH v js m) k) (gt m k))/\(∀j∈js,j<m.length->le (gt (dH v js m) j) (some v))/\ ∀Y:List Env,(∀k,le (gt Y k) (gt m k))->(∀j∈js,le (gt Y j) (some v))->∀k,le (gt Y k) (gt (dH v js m) k)
 |[],m,hw=>⟨rfl,hw,λ_=>le_refl _,λ_ h=>absurd h (by simp),λ_ h _=>h⟩
 |j::js,m,hw=>by
  have wv:Wf n (some v):=λl e=>by cases e;exact hv
  have hw1:bS n (m.set j (My.both (gt m j) (some v))):=λk=>by
   by_cases e:k=j
   ·subst e;by_cases hl:k<m.length
    ·rw[jt hl];exact Nr (hw k) wv
    ·rw[lT (by rw[gn];omega)];exact λl e=>by cases e
   ·rw[kJ e];exact hw k
  have le1:∀k,le (gt (m.set j (My.both (gt m j) (some v))) k) (gt m k):=λk=>by
   by_cases e:k=j
   ·subst e;by_cases hl:k<m.length
    ·rw[jt hl];exact Nn (hw k) wv
    ·rw[lT (l:=m) (by omega)];exact λb e=>by cases e
   ·rw[kJ e];exact le_refl _
  obtain⟨a1,a2,a3,a4,a5⟩:=tU hv js (m.set j (My.both (gt m j) (some v))) hw1;have eb:dH v (j::js) m=dH v js (m.set j (My.both (gt m j) (some v))):=rfl;rw[eb];refine⟨by rw[a1,gn],a2,λk=>le_trans (a3 k) (le1 k),λi hi hl=>?_,λY hY hj=>?_⟩
  ·rcases a6.mp hi with e |e
   ·subst e;refine le_trans (a3 i) ?_;rw[jt hl];exact Np (hw i) wv
   ·exact a4 i e (by rw[gn];exact hl)
  ·refine a5 Y (λk=>?_) λi hi=>hj i (bQ _ hi)
   by_cases e:k=j
   ·subst e;by_cases hl:k<m.length
    ·rw[jt hl];exact Nq (hY k) (hj k (by simp))
    ·rw[show gt (m.set k (My.both (gt m k) (some v))) k=none from lT (by rw[gn];omega)];exact λb e=>by cases e
   ·rw[kJ e];exact hY k
def bM(c:Code)(l:List Env)(m:List Env)(at_:Nat):List Env:=match c[at_]?,(l[at_]?).bind id with
 |some i,some e=>dH (behind i e) (mayLead at_ i e) m
 |_,_=>m
theorem mS(c:Code)(l:List Env):spread c l=(List.range c.length).foldl (bM c l) l:=by unfold spread bM dH;simp only[ab3];rfl
theorem i5{n:Nat}{c:Code}{l:List Env}(hl:bS n l):∀(as:List Nat)(m:List Env),bS n m->(as.foldl (bM c l) m).length=m.length/\bS n (as.foldl (bM c l) m)/\(∀k,le (gt (as.foldl (bM c l) m) k) (gt m k))/\ (∀a∈as,∀i e,c[a]? =some i->gt l a=some e->∀j∈mayLead a i e,j<m.length->le (gt (as.foldl (bM c l) m) j) (some (behind i e)))/\ ∀Y:List Env,(∀k,le (gt Y k) (gt m k))->(∀a∈as,∀i e,c[a]? =some i->gt l a=some e->∀j∈mayLead a i e,le (gt Y j) (some (behind i e)))->∀k,le (gt Y k) (gt (as.foldl (bM c l) m) k)
 |[],m,hw=>⟨rfl,hw,λ_=>le_refl _,λ_ h=>absurd h (by simp),λ_ h _=>h⟩
 |a::as,m,hw=>by
  have one:(bM c l m a).length=m.length/\bS n (bM c l m a)/\(∀k,le (gt (bM c l m a) k) (gt m k))/\(∀i e,c[a]? =some i->gt l a=some e->∀j∈mayLead a i e,j<m.length->le (gt (bM c l m a) j) (some (behind i e)))/\
    ∀Y:List Env,(∀k,le (gt Y k) (gt m k))->(∀i e,c[a]? =some i->gt l a=some e->∀j∈mayLead a i e,le (gt Y j) (some (behind i e)))->∀k,le (gt Y k) (gt (bM c l m a) k):=by
   cases hi:c[a]? with
   |none=>
    have e:bM c l m a=m:=by unfold bM;rw[hi]
    rw[e];exact⟨rfl,hw,λ_=>le_refl _,λ_ _ h=>(by cases h),λ_ h _=>h⟩
   |some i=>
    cases he:gt l a with
    |none=>
     have e:bM c l m a=m:=by unfold bM;unfold gt at he;rw[hi,he]
     rw[e];exact⟨rfl,hw,λ_=>le_refl _,λ_ _ _ h=>(by cases h),λ_ h _=>h⟩
    |some v=>
     have e:bM c l m a=dH (behind i v) (mayLead a i v) m:=by unfold bM;unfold gt at he;rw[hi,he]
     have hv:(behind i v).length=n:=by rw[Nw];exact hl a v he
     obtain⟨b1,b2,b3,b4,b5⟩:=tU hv (mayLead a i v) m hw;rw[e];refine⟨b1,b2,b3,λi' e' h1 h2=>?_,λY hY hj=>b5 Y hY (hj i v rfl rfl)⟩;cases h1;cases h2;exact b4
  obtain⟨o1,o2,o3,o4,o5⟩:=one;obtain⟨f1,f2,f3,f4,f5⟩:=i5 hl as (bM c l m a) o2;rw[rN];refine⟨f1.trans o1,f2,λk=>le_trans (f3 k) (o3 k),λb hb i e h1 h2 j hj hl'=>?_,λY hY hj=>?_⟩
  ·rcases a6.mp hb with z |z
   ·subst z;exact le_trans (f3 j) (o4 i e h1 h2 j hj hl')
   ·exact f4 b z i e h1 h2 j hj (by rw[o1];exact hl')
  ·exact f5 Y (o5 Y hY (hj a (by simp))) λb hb=>hj b (bQ _ hb)
def tV(c:Code):Prop:=∀(i:Nat)(x:Ins)(l:KL),c[i]? =some x->∀j∈mayLead i x l,j<=c.length
theorem gT{c:Code}{i:Nat}{x:Ins}(h:c[i]? =some x):i<c.length:=(bW.mp h).1
section
variable{n:Nat}{c:Code}
theorem tW{l:List Env}(hl:bS n l):(spread c l).length=l.length:=by rw[mS];exact(i5 hl _ l hl).1
theorem pf{l:List Env}(hl:bS n l):bS n (spread c l):=by rw[mS];exact(i5 hl _ l hl).2.1
theorem NA{l:List Env}(hl:bS n l)(k:Nat):le (gt (spread c l) k) (gt l k):=by rw[mS];exact(i5 hl _ l hl).2.2.1 k
theorem Ee{l Y:List Env}(hl:bS n l)(S:eJ c Y)(h:∀k,le (gt Y k) (gt l k))(k:Nat):le (gt Y k) (gt (spread c l) k):=by
 rw[mS];refine(i5 hl (List.range c.length) l hl).2.2.2.2 Y h (λa _ i e h1 h2 j hj=>?_) k;obtain⟨a',e1,l1⟩:=h a e h2;refine le_trans (S a i a' h1 e1 j (Nz l1 hj)) λb eb=>?_
 cases eb;exact⟨_,rfl,Ny l1 i⟩
theorem Ef{l:List Env}(hl:bS n l)(hb:tV c)(ln:l.length=c.length+1)(h:spread c l=l):eJ c l:=by intro i x v h1 h2 j hj;have:=(i5 hl (List.range c.length) l hl).2.2.2.1 i (pJ.mpr (gT h1)) x v h1 h2 j hj (by have:=hb i x v h1 j hj;omega);rw[<-mS,h]at this;exact this
theorem du{α:Type}(f:α->α):∀(k:Nat)(x:α),repeated f (k+1) x=f (repeated f k x)
 |0,_=>rfl
 |k+1,x=>du f k (f x)
theorem yp{α:Type}(f:α->α){x:α}(h:f x=x):∀k,repeated f k x=x
 |0=>rfl
 |k+1=>by show repeated f k (f x)=x;rw[h];exact yp f h k
theorem ph(l:List Env)(hl:bS n l):∀k,(repeated (spread c) k l).length=l.length/\bS n (repeated (spread c) k l)/\∀j,le (gt (repeated (spread c) k l) j) (gt l j)
 |0=>⟨rfl,hl,λ_=>le_refl _⟩
 |k+1=>by obtain⟨h1,h2,h3⟩:=ph l hl k;rw[du];exact⟨(tW h2).trans h1,pf h2,λj=>le_trans (NA h2 j) (h3 j)⟩
theorem tX:∀(k:Nat)(l:List Env),bS n l->hts n l<k->spread c (repeated (spread c) k l)=repeated (spread c) k l
 |0,_,_,h=>absurd h (by omega)
 |k+1,l,hl,h=>by
  by_cases e:spread c l=l
  ·rw[yp _ e,e]
  ·show spread c (repeated (spread c) k (spread c l))=repeated (spread c) k (spread c l);have:=(tQ (tW (c:=c) hl) (pf hl) (NA hl)).2 e;exact tX k _ (pf hl) (by omega)
def cN(n:Nat)(c:Code):List Env:=(some (List.replicate n (some 0)))::List.replicate c.length none
theorem qW(n:Nat)(c:Code):(cN n c).length=c.length+1:=by simp[cN]
theorem mT(n:Nat)(c:Code):gt (cN n c) 0=some (List.replicate n (some 0)):=rfl
theorem i6(n:Nat)(c:Code)(j:Nat):gt (cN n c) (j+1)=none:=by unfold gt cN;rw[Ge,pM];split<;>rfl
theorem jv(n:Nat)(c:Code):bS n (cN n c):=λj=>by
 cases j with
 |zero=>rw[mT];intro l e;cases e;simp
 |succ j=>rw[i6];exact λl e=>by cases e
theorem tY:∀{l:List Env},bS n l->hts n l<=l.length*(n+1)
 |[],_=>b9 _
 |x::l,h=>by
  have ih:=tY (l:=l) λj=>h (j+1)
  have h0:=yn (h 0);unfold hts at*;rw[bt,iE,b6,Nat.add_mul,Nat.one_mul];have:ht n (gt (x::l) 0)=ht n x:=rfl;omega
theorem NB(hb:tV c):(known n c).length=c.length+1/\bS n (known n c)/\eJ c (known n c)/\(∀j,le (gt (known n c) j) (gt (cN n c) j))/\∀Y,eJ c Y->(∀j,le (gt Y j) (gt (cN n c) j))->∀j,le (gt Y j) (gt (known n c) j):=by
 have ek:known n c=repeated (spread c) ((c.length+1)*(n+1)+1) (cN n c):=rfl;rw[ek];obtain⟨h1,h2,h3⟩:=ph (c:=c) (cN n c) (jv n c) ((c.length+1)*(n+1)+1);have ht:=tY (jv n c);rw[qW]at ht h1;refine⟨h1,h2,Ef h2 hb h1 (tX _ _ (jv n c) (by omega)),h3,λY S hY=>?_⟩;have all:∀k j,le (gt Y j) (gt (repeated (spread c) k (cN n c)) j):=by
  intro k
  induction k with
  |zero=>exact hY
  |succ k ih=>rw[du];exact Ee (ph (c:=c) (cN n c) (jv n c) k).2.1 S ih
 exact all _
end
end My
namespace My
open Sz43
section
variable{α:Type} [DecidableEq α]{n:Nat}{c:Code}
def iy(x:EE α)(v:LL α):LL α:=match x with
 |none=>v
 |some l=>gh l v
theorem Eg(x:EE α)(v:LL α):My.both x (some v)=some (iy x v):=by cases x<;>rfl
structure Sys(α:Type)(n:Nat)(c:Code) where
 fst:LL α
 len:fst.length=n
 bh:Ins->LL α->LL α
 bl:∀i l,(bh i l).length=l.length
 ld:Nat->Ins->LL α->List Nat
 bm:∀i a b,cX a b->cX (bh i a) (bh i b)
 lm:∀p i a b j,cX a b->j∈ld p i b->j∈ld p i a
 ib:∀p i l,c[p]? =some i->∀j∈ld p i l,j<=c.length
def Sys.eJ(S:Sys α n c)(Y:List (EE α)):Prop:=∀(i:Nat)(x:Ins)(l:LL α),c[i]? =some x->gt Y i=some l->∀j∈S.ld i x l,le (gt Y j) (some (S.bh x l))
def Sys.start(S:Sys α n c):List (EE α):=some S.fst::List.replicate c.length none
theorem Sys.qW(S:Sys α n c):S.start.length=c.length+1:=by simp[Sys.start]
theorem Sys.mT(S:Sys α n c):gt S.start 0=some S.fst:=rfl
theorem Sys.i6(S:Sys α n c)(j:Nat):gt S.start (j+1)=none:=by unfold gt Sys.start;rw[Ge,pM];split<;>rfl
theorem Sys.jv(S:Sys α n c):∀j,Wf n (gt S.start j):=λj=>by
 cases j with
 |zero=>rw[S.mT];intro l e;cases e;exact S.len
 |succ j=>rw[S.i6];exact λl e=>by cases e
def yq(v:LL α)(s:List (EE α)×List Nat)(w:Nat):List (EE α)×List Nat:=if some (iy (gt s.1 w) v)=gt s.1 w then s else (s.1.set w (some (iy (gt s.1 w) v)),s.2++[w])
def AllP(P:α->Prop)(l:LL α):Prop:=∀z,some z∈l->P z
theorem NC{z:α}:∀{l m:LL α},some z∈gh l m->some z∈l
 |[],_,h=>by simp[gh]at h
 |_::_,[],h=>by simp[gh]at h
 |x::l,y::m,h=>by
  rw[ym]at h;rcases a6.mp h with e |e
  ·by_cases q:x=y
   ·rw[ai q]at e;rw[e];exact dN
   ·rw[ah q]at e;cases e
  ·exact bQ _ (NC e)
theorem ND{P:α->Prop}{x:EE α}{v:LL α}(hx:∀l,x=some l->AllP P l)(hv:AllP P v):AllP P (iy x v):=by
 cases x with
 |none=>exact hv
 |some l=>exact λz h=>hx l rfl z (NC h)
structure fV(S:Sys α n c)(P:α->Prop)(B:List (EE α))(W:List Nat):Prop where
 len:B.length=c.length+1
 wf:∀j,Wf n (gt B j)
 wb:∀p∈W,p<=c.length/\∃l,gt B p=some l
 up:∀Y,S.eJ Y->(∀j,le (gt Y j) (gt S.start j))->∀j,le (gt Y j) (gt B j)
 st:le (gt B 0) (gt S.start 0)
 ap:∀j l,gt B j=some l->AllP P l
 fX:∀i x l,c[i]? =some x->i ∉ W->gt B i=some l->∀j∈S.ld i x l,le (gt B j) (some (S.bh x l))
structure lU(S:Sys α n c)(P:α->Prop)(B:List (EE α))(ws:List Nat)(v:LL α)(js:List Nat)(B':List (EE α))(W':List Nat):Prop where
 len:B'.length=c.length+1
 wf:∀j,Wf n (gt B' j)
 wb:∀p∈W',p<=c.length/\∃l,gt B' p=some l
 up:∀Y,S.eJ Y->(∀j,le (gt Y j) (gt S.start j))->∀j,le (gt Y j) (gt B' j)
 dn:∀j,le (gt B' j) (gt B j)
 ap:∀j l,gt B' j=some l->AllP P l
 sub:∀q∈ws,q∈W'
 chg:∀i,gt B' i≠gt B i->i∈W'
 yr:∀j∈js,le (gt B' j) (some v)
 tZ:2*hts n B'+W'.length<=2*hts n B+ws.length
section
variable{S:Sys α n c}{P:α->Prop}{B:List (EE α)}{ws:List Nat}{p:Nat}{x:Ins}{l:LL α}
theorem fV.init(h0:AllP P S.fst):fV S P S.start [0] where
 len:=S.qW
 wf:=S.jv
 wb:=λp hp=>by
  have:p=0:=by simpa using hp
  rw[this];exact⟨b9 _,_,S.mT⟩
 up:=λ_ _ h=>h
 st:=le_refl _
 ap:=λj l e=>by
  cases j with
  |zero=>rw[S.mT]at e;cases e;exact h0
  |succ j=>rw[S.i6]at e;cases e
 fX:=λi x l _ hi e=>by
  cases i with
  |zero=>exact absurd (by simp) hi
  |succ i=>rw[S.i6]at e;cases e
theorem lU.start(I:fV S P B (ws++[p])){v:LL α}:lU S P B ws v [] B ws where
 len:=I.len
 wf:=I.wf
 wb:=λq hq=>I.wb q (fc _ hq)
 up:=I.up
 dn:=λ_=>le_refl _
 ap:=I.ap
 sub:=λ_ h=>h
 chg:=λ_ h=>absurd rfl h
 yr:=λ_ h=>absurd h (by simp)
 tZ:=aI _
theorem lU.step(I:fV S P B (ws++[p]))(hx:c[p]? =some x)(hl:gt B p=some l)(hv:AllP P (S.bh x l)){js:List Nat}{w:Nat}(hw:w∈S.ld p x l){B':List (EE α)}{W':List Nat}(F:lU S P B ws (S.bh x l) js B' W'):lU S P B ws (S.bh x l) (js++[w]) (yq (S.bh x l) (B',W') w).1 (yq (S.bh x l) (B',W') w).2:=by
 have wl:w<B'.length:=by have:=S.ib p x l hx w hw;have:=F.len;omega
 have vl:(S.bh x l).length=n:=by rw[S.bl];exact I.wf p l hl
 have wv:Wf n (some (S.bh x l)):=λq e=>by cases e;exact vl
 have lr:=Np (F.wf w) wv;have ll:=Nn (F.wf w) wv;have bw:=Nr (F.wf w) wv;rw[Eg]at lr ll bw;have upw:∀Y,S.eJ Y->(∀j,le (gt Y j) (gt S.start j))->le (gt Y w) (some (iy (gt B' w) (S.bh x l))):=λY s hY=>by
  obtain⟨a,e1,l1⟩:=I.up Y s hY p l hl;have h1:=s p x a hx e1 w (S.lm _ _ _ _ _ l1 hw);have h2:le (gt Y w) (some (S.bh x l)):=le_trans h1 λb eb=>by cases eb;exact⟨_,rfl,S.bm x _ _ l1⟩
  have:=Nq (F.up Y s hY w) h2;rw[Eg]at this;exact this
 unfold yq;by_cases e:some (iy (gt B' w) (S.bh x l))=gt B' w
 ·rw[ai e];refine⟨F.len,F.wf,F.wb,F.up,F.dn,F.ap,F.sub,F.chg,λj hj=>?_,F.tZ⟩;rcases bN.mp hj with h |h
  ·exact F.yr j h
  ·have:j=w:=by simpa using h
   rw[this,<-e];exact lr
 ·rw[ah e];have gs:∀j,gt (B'.set w (some (iy (gt B' w) (S.bh x l)))) j=if j=w then some (iy (gt B' w) (S.bh x l))else gt B' j:=λj=>by
   by_cases q:j=w
   ·rw[ai q,q];exact jt wl
   ·rw[ah q];exact kJ q
  have dn1:∀j,le (gt (B'.set w (some (iy (gt B' w) (S.bh x l)))) j) (gt B' j):=λj=>by
   rw[gs];by_cases q:j=w
   ·rw[ai q,q];exact ll
   ·rw[ah q];exact le_refl _
  refine⟨by rw[gn];exact F.len,λj=>?_,λq hq=>?_,λY s hY j=>?_,λj=>le_trans (dn1 j) (F.dn j),λj m em=>?_,λq hq=>fc _ (F.sub q hq),λi hi=>?_,λj hj=>?_,?_⟩
  ·rw[gs];by_cases q:j=w
   ·rw[ai q];exact bw
   ·rw[ah q];exact F.wf j
  ·rw[gs];rcases bN.mp hq with h |h
   ·obtain⟨h1,h2⟩:=F.wb q h;refine⟨h1,?_⟩;by_cases z:q=w
    ·rw[ai z];exact⟨_,rfl⟩
    ·rw[ah z];exact h2
   ·have:q=w:=by simpa using h
    rw[ai this,this];exact⟨by have:=F.len;omega,_,rfl⟩
  ·rw[gs];by_cases q:j=w
   ·rw[ai q,q];exact upw Y s hY
   ·rw[ah q];exact F.up Y s hY j
  ·rw[gs]at em;by_cases q:j=w
   ·rw[ai q]at em;cases em;exact ND (λl' e'=>F.ap w l' e') hv
   ·rw[ah q]at em;exact F.ap j m em
  ·rw[gs]at hi;by_cases q:i=w
   ·rw[q];exact jz _ (by simp)
   ·rw[ah q]at hi;exact fc _ (F.chg i hi)
  ·rcases bN.mp hj with h |h
   ·exact le_trans (dn1 j) (F.yr j h)
   ·have:j=w:=by simpa using h
    rw[gs,ai this];exact lr
  ·have h1:=Nv n (x:=some (iy (gt B' w) (S.bh x l))) wl;have h2:=qV bw ll e;have h3:=F.tZ;show 2*hts n (B'.set w (some (iy (gt B' w) (S.bh x l))))+(W'++[w]).length<=_;rw[bo,cZ];omega
theorem lU.done(I:fV S P B (ws++[p]))(hx:c[p]? =some x)(hl:gt B p=some l){B':List (EE α)}{W' js:List Nat}(hjs:∀j∈S.ld p x l,j∈js)(F:lU S P B ws (S.bh x l) js B' W'):fV S P B' W' where
 len:=F.len
 wf:=F.wf
 wb:=F.wb
 up:=F.up
 st:=le_trans (F.dn 0) I.st
 ap:=F.ap
 fX:=λi y m hi hn em j hj=>by
  have eq:gt B' i=gt B i:=by
   by_cases q:gt B' i=gt B i
   ·exact q
   ·exact absurd (F.chg i q) hn
  rw[eq]at em;by_cases q:i=p
  ·subst q;rw[hx]at hi;cases hi;rw[hl]at em;cases em;exact F.yr j (hjs j hj)
  ·refine le_trans (F.dn j) (I.fX i y m hi (λz=>?_) em j hj);rcases bN.mp z with z |z
   ·exact hn (F.sub i z)
   ·exact q (by simpa using z)
theorem fV.pop(I:fV S P B (ws++[p]))(hp:p=c.length):fV S P B ws:=⟨I.len,I.wf,λq hq=>I.wb q (fc _ hq),I.up,I.st,I.ap,λi y m hi hn em j hj=>I.fX i y m hi (λz=>by
 rcases bN.mp z with z |z
 ·exact hn z
 ·have:i=p:=by simpa using z
  have:=gT hi;omega) em j hj⟩
theorem fV.sol(I:fV S P B []):S.eJ B/\(∀j,le (gt B j) (gt S.start j))/\∀Y,S.eJ Y->(∀j,le (gt Y j) (gt S.start j))->∀j,le (gt Y j) (gt B j):=by
 refine⟨λi x l h1 h2 j hj=>I.fX i x l h1 (by simp) h2 j hj,λj=>?_,I.up⟩;cases j with
 |zero=>exact I.st
 |succ j=>rw[S.i6];exact λb e=>by cases e
end
end
noncomputable def qX(p:Nat)(x:Ins)(l:KL):List Nat:=match x with
 | .stop=>[]
 | .goto t=>[t]
 | .cond a t=>(match knows l a with
  |none=>[p+1,t]
  |some z=>if z=0 then [p+1]else [t])
 |_=>[p+1]
theorem t6{p j:Nat}{x:Ins}{l:KL}:j∈qX p x l ↔ j∈mayLead p x l:=by
 cases x with
 |cond a t=>
  rw[tT];show j∈(match knows l a with |none=>[p+1,t] |some z=>if z=0 then [p+1]else [t]) ↔ _;cases knows l a with
  |none=>simp only[a6,dB,dC];exact Or.comm
  |some z=>exact p_
 |_=>exact p_
theorem YE{P:Int->Prop}{x:Ins}{l:KL}(hl:AllP P l)(h:∀z,iZ x l=some z->P z):AllP P (behind x l):=by
 rw[y3];cases givesOf x with
 |none=>exact hl
 |some d=>
  intro z hz;rcases List.mem_or_eq_of_mem_set hz with e |e
  ·exact hl z e
  ·exact h z e.symm
def Eh(n:Nat){c:Code}(hb:tV c):Sys Int n c where
 fst:=List.replicate n (some 0)
 len:=rE
 bh:=behind
 bl:=Nw
 ld:=qX
 bm:=λi a b h=>Ny h i
 lm:=λp i a b j h k=>t6.mpr (Nz h (t6.mp k))
 ib:=λp i l h j hj=>hb p i l h j (t6.mp hj)
theorem fV.known{n:Nat}{c:Code}{P:Int->Prop}{B:List Env}(hb:tV c)(I:fV (Eh n hb) P B [])(j:Nat):gt B j=knownAt (Sz43.known n c) j:=by obtain⟨k1,k2,k3,k4,k5⟩:=NB (n:=n) hb;obtain⟨s1,s2,s3⟩:=I.sol;refine ab2 (k5 B (λi x l h1 h2 j hj=>s1 i x l h1 h2 j (t6.mpr hj)) s2 j) (s3 _ (λi x l h1 h2 j hj=>k3 i x l h1 h2 j (t6.mp hj)) k4 j)
end My
namespace My
open Sz43
theorem NF{α:Type}{p q:α->Bool}:∀(l:List α),(∀j∈l,p j=true->q j=true)->(l.filter p).length<=(l.filter q).length/\(l.filter p=l.filter q\/(l.filter p).length<(l.filter q).length)
 |[],_=>⟨aI _,.inl rfl⟩
 |a::l,h=>by
  obtain⟨i1,i2⟩:=NF l λj hj=>h j (bQ _ hj)
  have h0:=h a dN;rw[pY,pY];cases hp:p a with
  |true=>
   rw[h0 hp,ai rfl,ai rfl,b6,b6];refine⟨by omega,?_⟩;rcases i2 with e |e
   ·exact .inl (by rw[e])
   ·exact .inr (by omega)
  |false=>
   cases hq:q a with
   |true=>rw[ah (by decide),ai rfl,b6];exact⟨by omega,.inr (by omega)⟩
   |false=>rw[ah (by decide),ah (by decide)];exact⟨i1,i2⟩
def dk(n:Nat)(p:List Nat->Nat->Bool)(l:List Nat):List Nat:=(List.range n).filter (p l)
theorem jP{n:Nat}{p:List Nat->Nat->Bool}{l:List Nat}{j:Nat}:j∈dk n p l ↔ j<n/\p l j=true:=by unfold dk;rw[fb,pJ]
section
variable{n:Nat}{p:List Nat->Nat->Bool}(mono:∀l m,(∀x∈l,x∈m)->∀j,p l j=true->p m j=true)
include mono
theorem NG:∀k,∀x∈repeated (dk n p) k [],x∈repeated (dk n p) (k+1) []
 |0,x,h=>nomatch h
 |k+1,x,h=>by rw[du]at h ⊢;rw[jP]at h ⊢;exact⟨h.1,mono _ _ (NG k) _ h.2⟩
theorem Ei:∀k,repeated (dk n p) (k+1) []=repeated (dk n p) k []\/k<(repeated (dk n p) (k+1) []).length
 |0=>by
  cases e:repeated (dk n p) (0+1) []with
  |nil=>exact .inl rfl
  |cons a l=>exact .inr (by simp)
 |k+1=>by
  rcases Ei k with e |e
  ·exact .inl ((du _ _ _).trans ((f7 _ e).trans (du _ _ _).symm))
  ·have h1:repeated (dk n p) (k+1) []=(List.range n).filter (p (repeated (dk n p) k [])):=by
    rw[du];rfl
   have h2:repeated (dk n p) (k+2) []=(List.range n).filter (p (repeated (dk n p) (k+1) [])):=by rw[du];rfl
   have:=(NF (p:=p (repeated (dk n p) k [])) (q:=p (repeated (dk n p) (k+1) [])) (List.range n) (λj _=>mono _ _ (NG (n:=n) mono k) j)).2;rw[<-h1,<-h2]at this;rcases this with e2 |e2
   ·exact .inl e2.symm
   ·exact .inr (pW e e2)
theorem yt:dk n p (repeated (dk n p) (n+1) [])=repeated (dk n p) (n+1) []:=by
 have hl:(repeated (dk n p) (n+1) []).length<=n:=by rw[du];exact bE (u5 _ _) (by rw[gr];exact aI _)
 rcases Ei (n:=n) mono n with e |e
 ·exact(f7 (dk n p) e).trans (du _ _ _).symm
 ·omega
end
inductive Reach(c:Code):Nat->Prop
 |zero:0<c.length->Reach c 0
 |step {i j:Nat} {x:Ins}:Reach c i->c[i]? =some x->j∈nexts i x->j<c.length->Reach c j
def rP(c:Code)(l:List Nat)(j:Nat):Bool:=j==0||l.any λ(i:Nat)=>((c[i]?).map (nexts i)).any λm=>m.contains j
theorem yu{c:Code}{l:List Nat}{j:Nat}:rP c l j=true ↔ j=0\/∃i∈l,∃x,c[i]? =some x/\j∈nexts i x:=by
 unfold rP;rw[zm,jX,mf];constructor
 ·rintro(h |⟨i,hi,h⟩)
  ·exact .inl h
  ·refine .inr ⟨i,hi,?_⟩;cases e:c[i]? with
   |none=>rw[e]at h;cases h
   |some x=>rw[e]at h;exact⟨x,rfl,by simpa using h⟩
 ·rintro(h |⟨i,hi,x,e,h⟩)
  ·exact .inl h
  ·refine .inr ⟨i,hi,?_⟩;rw[e];simpa using h
theorem YF(c:Code):reached c=repeated (dk c.length (rP c)) (c.length+1) []:=rfl
theorem NH(c:Code)(l m:List Nat)(h:∀x∈l,x∈m)(j:Nat)(k:rP c l j=true):rP c m j=true:=by
 rw[yu]at k ⊢;rcases k with k |⟨i,hi,r⟩
 ·exact .inl k
 ·exact .inr ⟨i,h i hi,r⟩
theorem YG{c:Code}{j:Nat}:j∈reached c ↔ Reach c j:=by
 rw[YF];constructor
 ·generalize c.length+1=k;intro h
  induction k generalizing j with
  |zero=>exact nomatch h
  |succ k ih=>
   rw[du,jP,yu]at h;obtain⟨hj,h |⟨i,hi,x,e,h⟩⟩:=h
   ·subst h;exact .zero hj
   ·exact .step (ih hi) e h hj
 ·intro h
  induction h with
  |zero h=>rw[<-yt (NH c),jP,yu];exact⟨h,.inl rfl⟩
  |step h1 h2 h3 h4 ih=>rw[<-yt (NH c),jP,yu];exact⟨h4,.inr ⟨_,ih,_,h2,h3⟩⟩
inductive jQ(c:Code)(v:Nat):Nat->Prop
 |use {i:Nat} {x:Ins}:c[i]? =some x->v∈usesOf x->jQ c v i
 |pass {i j:Nat} {x:Ins}:c[i]? =some x->j∈nexts i x->givesOf x≠some v->jQ c v j->jQ c v i
def nP(c:Code)(v:Nat)(l:List Nat)(i:Nat):Bool:=match c[i]? with
 |some x=>(usesOf x).contains v||(givesOf x !=some v&&(nexts i x).any λj=>l.contains j)
 |none=>false
theorem t7{c:Code}{v:Nat}{l:List Nat}{i:Nat}:nP c v l i=true ↔ ∃x,c[i]? =some x/\(v∈usesOf x\/(givesOf x≠some v/\∃j∈nexts i x,j∈l)):=by
 unfold nP;cases e:c[i]? with
 |none=>
  constructor
  ·intro h;cases h
  ·rintro⟨x,h,_⟩
   cases h
 |some x=>
  constructor
  ·intro h;refine⟨x,rfl,?_⟩;simpa using h
  ·rintro⟨y,h,k⟩
   cases h;simpa using k
theorem NJ(c:Code)(v:Nat)(l m:List Nat)(h:∀x∈l,x∈m)(j:Nat)(k:nP c v l j=true):nP c v m j=true:=by
 rw[t7]at k ⊢;obtain⟨x,e,k⟩:=k;refine⟨x,e,k.imp_right ?_⟩
 rintro⟨g,i,hi,r⟩
 exact⟨g,i,hi,h i r⟩
theorem YH{c:Code}{l:List (List Nat)}{i v:Nat}:v∈(needOnce c l).getD i [] ↔ ∃x,c[i]? =some x/\(v∈usesOf x\/(givesOf x≠some v/\∃j∈nexts i x,v∈l.getD j [])):=by
 unfold needOnce;rw[fJ,bF,RM];cases e:c[i]? with
 |none=>
  constructor
  ·intro h;exact nomatch h
  ·rintro⟨x,h,_⟩
   cases h
 |some x=>
  show v∈List.eraseDups _ ↔ _;rw[List.mem_eraseDups,bN,fb,zo];constructor
  ·rintro(h |⟨h,g⟩)
   ·exact⟨x,rfl,.inl h⟩
   ·exact⟨x,rfl,.inr ⟨by simpa using g,by simpa using h⟩⟩
  ·rintro⟨y,h,k⟩
   cases h;rcases k with k |⟨g,j,hj,k⟩
   ·exact .inl k
   ·exact .inr ⟨⟨j,by simpa using hj,k⟩,by simpa using g⟩
theorem Ej{c:Code}{v:Nat}:∀(k i:Nat),v∈(repeated (needOnce c) k (c.map λ_=>[])).getD i [] ↔ i∈repeated (dk c.length (nP c v)) k []
 |0,i=>by show v∈(c.map λ_=>([]:List Nat)).getD i [] ↔ i∈[];rw[fJ,bF];cases c[i]? <;>simp
 |k+1,i=>by
  rw[du,du,YH,jP,t7];constructor
  ·rintro⟨x,e,h⟩
   refine⟨gT e,x,e,h.imp_right ?_⟩
   rintro⟨g,j,hj,r⟩
   exact⟨g,j,hj,(Ej k j).mp r⟩
  ·rintro⟨_,x,e,h⟩
   refine⟨x,e,h.imp_right ?_⟩
   rintro⟨g,j,hj,r⟩
   exact⟨g,j,hj,(Ej k j).mpr r⟩
theorem YI{c:Code}{i v:Nat}:v∈(needed c).getD i [] ↔ jQ c v i:=by
 show v∈(repeated (needOnce c) (c.length+1) (c.map λ_=>[])).getD i [] ↔ _;rw[Ej];constructor
 ·generalize c.length+1=k;intro h
  induction k generalizing i with
  |zero=>exact nomatch h
  |succ k ih=>
   rw[du,jP,t7]at h;obtain⟨_,x,e,h |⟨g,j,hj,r⟩⟩:=h
   ·exact .use e h
   ·exact .pass e hj g (ih r)
 ·intro h
  induction h with
  |use e h=>rw[<-yt (NJ c v),jP,t7];exact⟨gT e,_,e,.inl h⟩
  |pass e hj g _ ih=>rw[<-yt (NJ c v),jP,t7];exact⟨gT e,_,e,.inr ⟨g,_,hj,ih⟩⟩
theorem YJ{c:Code}{i v:Nat}{x:Ins}:v∈neededBehind c i x ↔ ∃j∈nexts i x,jQ c v j:=by unfold neededBehind;rw[zo];exact exists_congr λj=>and_congr_right λ_=>YI
end My
namespace My.F
open Sz43
abbrev FE:=Option (List Fact)
def le(x y:FE):Prop:=∀b,y=some b->∃a,x=some a/\∀f∈a,f∈b
def sb(x y:FE):Prop:=∀b,y=some b->∃a,x=some a/\a.Sublist b
theorem FN(x:FE):le x none:=λb e=>by cases e
theorem Ek(x:FE):sb x none:=λb e=>by cases e
theorem le_refl(x:FE):le x x:=λb e=>⟨b,e,λ_ h=>h⟩
theorem pj(x:FE):sb x x:=λb e=>⟨b,e,List.Sublist.refl b⟩
theorem NK{x y:FE}(h:sb x y):le x y:=λb e=>by obtain⟨a,e2,h2⟩:=h b e;exact⟨a,e2,λf hf=>h2.subset hf⟩
theorem le_trans{x y z:FE}(h:le x y)(k:le y z):le x z:=λc e=>by obtain⟨b,e2,h2⟩:=k c e;obtain⟨a,e3,h3⟩:=h b e2;exact⟨a,e3,λf hf=>h2 f (h3 f hf)⟩
theorem El{x y z:FE}(h:sb x y)(k:sb y z):sb x z:=λc e=>by obtain⟨b,e2,h2⟩:=k c e;obtain⟨a,e3,h3⟩:=h b e2;exact⟨a,e3,h3.trans h2⟩
def makes(i:Ins):Option Fact:=match i with
 | .copy d a=>if d=a then none else some (d,.same a)
 | .op k d a b=>if d=a\/d=b then none else some (d,.made k a b)
 |_=>none
def U(c:Code):List Fact:=c.filterMap makes
theorem YK(c:Code):(U c).length<=c.length:=List.length_filterMap_le _ _
def mU(c:Code)(l:List Fact):Prop:=l.Nodup/\∀f∈l,f∈U c
def Wf(c:Code)(x:FE):Prop:=∀l,x=some l->mU c l
theorem yw{α:Type} [BEq α] [LawfulBEq α]:∀{l m:List α},l.Nodup->(∀x∈l,x∈m)->l.length<=m.length
 |[],_,_,_=>b9 _
 |a::l,m,hn,h=>by
  rw[uO]at hn;have ha:a∈m:=h a dN;have:=yw (l:=l) (m:=m.erase a) hn.2 λx hx=>by refine(List.mem_erase_of_ne ?_).mpr (h x (bQ _ hx));intro e;subst e;exact hn.1 hx
  rw[List.length_erase_of_mem ha]at this;have:=List.length_pos_of_mem ha;rw[b6];omega
theorem YL{c:Code}{l:List Fact}(h:mU c l):l.length<=c.length:=bE (yw h.1 h.2) (YK c)
theorem YM(x y:FE):sb (common x y) x:=by
 cases x with
 |none=>exact Ek _
 |some l=>
  cases y with
  |none=>exact pj _
  |some m=>intro b e;cases e;exact⟨_,rfl,List.filter_sublist⟩
theorem YN(x y:FE):le (common x y) y:=by
 cases x with
 |none=>exact le_refl _
 |some l=>
  cases y with
  |none=>exact FN _
  |some m=>intro b e;cases e;exact⟨_,rfl,λf hf=>by simpa using (fb.mp hf).2⟩
theorem YO{z x y:FE}(h:le z x)(k:le z y):le z (common x y):=by
 cases x with
 |none=>exact k
 |some l=>
  cases y with
  |none=>exact h
  |some m=>intro b e;cases e;obtain⟨a,e1,h1⟩:=h l rfl;obtain⟨a',e2,h2⟩:=k m rfl;rw[e1]at e2;cases e2;exact⟨a,e1,λf hf=>fb.mpr ⟨h1 f hf,by simpa using h2 f hf⟩⟩
theorem YP{c:Code}{l:List Fact}(h:mU c l)(p:Fact->Bool):mU c (l.filter p):=⟨h.1.filter p,λf hf=>h.2 f (fb.mp hf).1⟩
theorem YQ{c:Code}{x y:FE}(hx:Wf c x)(hy:Wf c y):Wf c (common x y):=by
 cases x with
 |none=>exact hy
 |some l=>
  cases y with
  |none=>exact hx
  |some m=>intro b e;cases e;exact YP (hx l rfl) _
def ht(n:Nat):FE->Nat
 |none=>n+1
 |some l=>l.length
theorem qV{c:Code}{x y:FE}(hx:Wf c x)(h:sb x y)(k:x≠y):ht c.length x<ht c.length y:=by
 cases y with
 |none=>
  cases x with
  |none=>exact absurd rfl k
  |some l=>exact Nat.lt_succ_of_le (YL (hx l rfl))
 |some b=>
  obtain⟨a,e,h2⟩:=h b rfl;subst e;show a.length<b.length;have:=h2.length_le;by_cases e:b.length<=a.length
  ·exact absurd (by rw[h2.eq_of_length_le e]) k
  ·omega
theorem tP{c:Code}{x y:FE}(hx:Wf c x)(h:sb x y):ht c.length x<=ht c.length y:=by
 by_cases e:x=y
 ·rw[e];exact aI _
 ·exact pK (qV hx h e)
theorem yn{c:Code}{x:FE}(hx:Wf c x):ht c.length x<=c.length+1:=tP (y:=none) hx (Ek _)
def hts(n:Nat)(l:List FE):Nat:=(l.map (ht n)).sum
def gt(l:List FE)(j:Nat):FE:=(l[j]?).bind id
theorem lT{l:List FE}{j:Nat}(h:l.length<=j):gt l j=none:=by unfold gt;rw[jA h];rfl
theorem jt{l:List FE}{j:Nat}{x:FE}(h:j<l.length):gt (l.set j x) j=x:=by unfold gt;rw[kR h];rfl
theorem kJ{l:List FE}{j k:Nat}{x:FE}(h:k≠j):gt (l.set j x) k=gt l k:=by unfold gt;rw[m8 (cu h)]
def bS(c:Code)(l:List FE):Prop:=∀j,Wf c (gt l j)
theorem tQ{c:Code}:∀{l m:List FE},l.length=m.length->bS c l->(∀j,sb (gt l j) (gt m j))->hts c.length l<=hts c.length m/\(l≠m->hts c.length l<hts c.length m)
 |[],[],_,_,_=>⟨aI _,λh=>absurd rfl h⟩
 |x::l,y::m,h,hw,hl=>by
  obtain⟨i1,i2⟩:=tQ (c:=c) (l:=l) (m:=m) (by simpa using h) (λj=>hw (j+1)) λj=>hl (j+1)
  have w0:Wf c x:=hw 0;have l0:sb x y:=hl 0;have h0:=tP w0 l0;unfold hts at*;rw[bt,bt,iE,iE];refine⟨by omega,λk=>?_⟩;by_cases e:x=y
  ·subst e;have:=i2 λz=>k (by rw[z])
   omega
  ·have:=qV w0 l0 e;omega
theorem tY{c:Code}:∀{l:List FE},bS c l->hts c.length l<=l.length*(c.length+1)
 |[],_=>b9 _
 |x::l,h=>by
  have ih:=tY (c:=c) (l:=l) λj=>h (j+1)
  have h0:ht c.length x<=c.length+1:=yn (h 0);unfold hts at*;rw[bt,iE,b6,Nat.add_mul,Nat.one_mul];omega
theorem NM(i:Ins)(l:List Fact):told i l=match givesOf i with
  |none=>l
  |some d=>(match i with
   | .copy d a=>if d=a then l else (l.filter λ(f:Fact)=> !speaksOf d f)++(makes i).toList
   |_=>(l.filter λ(f:Fact)=> !speaksOf d f)++(makes i).toList):=by
 cases i with
 |copy d a=>
  show(if d=a then l else _)=if d=a then l else _
  split
  ·rfl
  ·next h=>simp only[makes,ah h];rfl
 |op k d a b=>
  show(if d=a\/d=b then _ else _)=_++_;simp only[makes];split
  ·exact(gk _).symm
  ·rfl
 |num d z=>exact(gk _).symm
 |read d=>exact(gk _).symm
 |_=>rfl
def fY:Ins->Bool
 | .copy d a=>d==a
 |_=>false
theorem yx{i:Ins}{l:List Fact}{f:Fact}:f∈told i l ↔ (match givesOf i with
  |none=>f∈l
  |some d=>if fY i=true then f∈l else (f∈l/\speaksOf d f=false)\/makes i=some f):=by
 rw[NM];cases i with
 |copy d a=>
  show f∈(if d=a then l else _) ↔ if _ then _ else _
  by_cases h:d=a
  ·subst h;rw[ai rfl,ai (by simp[fY])]
  ·rw[ah h,ah (by simpa[fY]using h),bN,fb,Gf];simp
 |op k d a b=>
  show f∈_++_ ↔ if _ then _ else _
  rw[ah (by simp[fY]),bN,fb,Gf];simp
 |num d z=>
  show f∈_++_ ↔ if _ then _ else _
  rw[ah (by simp[fY]),bN,fb,Gf];simp
 |read d=>
  show f∈_++_ ↔ if _ then _ else _
  rw[ah (by simp[fY]),bN,fb,Gf];simp
 |print a=>exact p_
 |goto a=>exact p_
 |cond a b=>exact p_
 |stop=>exact p_
theorem NN{a b:List Fact}(h:∀f∈a,f∈b)(i:Ins):∀f∈told i a,f∈told i b:=by
 intro f hf;rw[yx]at hf ⊢;cases e:givesOf i with
 |none=>rw[e]at hf;exact h f hf
 |some d=>
  rw[e]at hf;dsimp only at hf ⊢;split at hf
  ·next k=>rw[ai k];exact h f hf
  ·next k=>rw[ah k];exact hf.imp_left λz=>⟨h f z.1,z.2⟩
theorem YR{i:Ins}{f:Fact}{d:Nat}(h:makes i=some f)(g:givesOf i=some d):speaksOf d f=true:=by
 cases i with
 |copy d a=>
  cases g;unfold makes at h;simp only at h;split at h
  ·cases h
  ·cases h;simp[speaksOf]
 |op k d a b=>
  cases g;unfold makes at h;simp only at h;split at h
  ·cases h
  ·cases h;simp[speaksOf]
 |_=>cases h
theorem YS{i:Ins}{l:List Fact}(h:l.Nodup):(told i l).Nodup:=by
 rw[NM];have main:∀d,givesOf i=some d->((l.filter λ(f:Fact)=> !speaksOf d f)++(makes i).toList).Nodup:=by
  intro d g;cases e:makes i with
  |none=>rw[Option.toList_none,gk];exact h.filter _
  |some f=>rw[Option.toList_some,uZ];refine⟨h.filter _,by simp,?_⟩;intro x hx y hy;have:=(fb.mp hx).2;simp at hy this;subst hy;intro z;subst z;rw[YR e g]at this;cases this
 cases i with
 |copy d a=>
  show(if d=a then l else _).Nodup;split
  ·exact h
  ·exact main d rfl
 |op k d a b=>exact main d rfl
 |num d z=>exact main d rfl
 |read d=>exact main d rfl
 |_=>exact h
theorem YT{c:Code}{i:Nat}{x:Ins}{l:List Fact}(hx:c[i]? =some x)(h:mU c l):mU c (told x l):=by
 refine⟨YS h.1,λf hf=>?_⟩;rw[yx]at hf;cases e:givesOf x with
 |none=>rw[e]at hf;exact h.2 f hf
 |some d=>
  rw[e]at hf;dsimp only at hf;split at hf
  ·exact h.2 f hf
  ·rcases hf with hf |hf
   ·exact h.2 f hf.1
   ·exact m_.mpr ⟨x,bu hx,hf⟩
end My.F
namespace My.F
open Sz43
def eJ(c:Code)(Y:List FE):Prop:=∀(i:Nat)(x:Ins)(l:List Fact),c[i]? =some x->gt Y i=some l->∀j∈nexts i x,le (gt Y j) (some (told x l))
def dH(v:List Fact)(js:List Nat)(m:List FE):List FE:=js.foldl (λ(m:List FE)(j:Nat)=>m.set j (common ((m[j]?).bind id) (some v))) m
theorem tU{c:Code}{v:List Fact}(hv:mU c v):∀(js:List Nat)(m:List FE),bS c m->(dH v js m).length=m.length/\bS c (dH v js m)/\(∀k,sb (gt (dH v js m) k) (gt m k))/\(∀j∈js,j<m.length->le (gt (dH v js m) j) (some v))/\ ∀Y:List FE,(∀k,le (gt Y k) (gt m k))->(∀j∈js,le (gt Y j) (some v))->∀k,le (gt Y k) (gt (dH v js m) k)
 |[],m,hw=>⟨rfl,hw,λ_=>pj _,λ_ h=>absurd h (by simp),λ_ h _=>h⟩
 |j::js,m,hw=>by
  have wv:Wf c (some v):=λl e=>by cases e;exact hv
  have hw1:bS c (m.set j (common (gt m j) (some v))):=λk=>by
   by_cases e:k=j
   ·subst e;by_cases hl:k<m.length
    ·rw[jt hl];exact YQ (hw k) wv
    ·rw[lT (by rw[gn];omega)];exact λl e=>by cases e
   ·rw[kJ e];exact hw k
  have le1:∀k,sb (gt (m.set j (common (gt m j) (some v))) k) (gt m k):=λk=>by
   by_cases e:k=j
   ·subst e;by_cases hl:k<m.length
    ·rw[jt hl];exact YM _ _
    ·rw[lT (l:=m) (by omega)];exact Ek _
   ·rw[kJ e];exact pj _
  obtain⟨a1,a2,a3,a4,a5⟩:=tU hv js (m.set j (common (gt m j) (some v))) hw1;have eb:dH v (j::js) m=dH v js (m.set j (common (gt m j) (some v))):=rfl;rw[eb];refine⟨by rw[a1,gn],a2,λk=>El (a3 k) (le1 k),λi hi hl=>?_,λY hY hj=>?_⟩
  ·rcases a6.mp hi with e |e
   ·subst e;refine le_trans (NK (a3 i)) ?_;rw[jt hl];exact YN _ _
   ·exact a4 i e (by rw[gn];exact hl)
  ·refine a5 Y (λk=>?_) λi hi=>hj i (bQ _ hi)
   by_cases e:k=j
   ·subst e;by_cases hl:k<m.length
    ·rw[jt hl];exact YO (hY k) (hj k (by simp))
    ·rw[show gt (m.set k (common (gt m k) (some v))) k=none from lT (by rw[gn];omega)];exact FN _
   ·rw[kJ e];exact hY k
def bM(c:Code)(l:List FE)(m:List FE)(at_:Nat):List FE:=match c[at_]?,(l[at_]?).bind id with
 |some i,some e=>dH (told i e) (nexts at_ i) m
 |_,_=>m
theorem mS(c:Code)(l:List FE):spreadFacts c l=(List.range c.length).foldl (bM c l) l:=rfl
theorem i5{c:Code}{l:List FE}(hl:bS c l):∀(as:List Nat)(m:List FE),bS c m->(as.foldl (bM c l) m).length=m.length/\bS c (as.foldl (bM c l) m)/\(∀k,sb (gt (as.foldl (bM c l) m) k) (gt m k))/\ (∀a∈as,∀i e,c[a]? =some i->gt l a=some e->∀j∈nexts a i,j<m.length->le (gt (as.foldl (bM c l) m) j) (some (told i e)))/\ ∀Y:List FE,(∀k,le (gt Y k) (gt m k))->(∀a∈as,∀i e,c[a]? =some i->gt l a=some e->∀j∈nexts a i,le (gt Y j) (some (told i e)))->∀k,le (gt Y k) (gt (as.foldl (bM c l) m) k)
 |[],m,hw=>⟨rfl,hw,λ_=>pj _,λ_ h=>absurd h (by simp),λ_ h _=>h⟩
 |a::as,m,hw=>by
  have one:(bM c l m a).length=m.length/\bS c (bM c l m a)/\(∀k,sb (gt (bM c l m a) k) (gt m k))/\(∀i e,c[a]? =some i->gt l a=some e->∀j∈nexts a i,j<m.length->le (gt (bM c l m a) j) (some (told i e)))/\
    ∀Y:List FE,(∀k,le (gt Y k) (gt m k))->(∀i e,c[a]? =some i->gt l a=some e->∀j∈nexts a i,le (gt Y j) (some (told i e)))->∀k,le (gt Y k) (gt (bM c l m a) k):=by
   cases hi:c[a]? with
   |none=>
    have e:bM c l m a=m:=by unfold bM;rw[hi]
    rw[e];exact⟨rfl,hw,λ_=>pj _,λ_ _ h=>(by cases h),λ_ h _=>h⟩
   |some i=>
    cases he:gt l a with
    |none=>
     have e:bM c l m a=m:=by unfold bM;unfold gt at he;rw[hi,he]
     rw[e];exact⟨rfl,hw,λ_=>pj _,λ_ _ _ h=>(by cases h),λ_ h _=>h⟩
    |some v=>
     have e:bM c l m a=dH (told i v) (nexts a i) m:=by unfold bM;unfold gt at he;rw[hi,he]
     have hv:mU c (told i v):=YT hi (hl a v he);obtain⟨b1,b2,b3,b4,b5⟩:=tU hv (nexts a i) m hw;rw[e];refine⟨b1,b2,b3,λi' e' h1 h2=>?_,λY hY hj=>b5 Y hY (hj i v rfl rfl)⟩;cases h1;cases h2;exact b4
  obtain⟨o1,o2,o3,o4,o5⟩:=one;obtain⟨f1,f2,f3,f4,f5⟩:=i5 hl as (bM c l m a) o2;rw[rN];refine⟨f1.trans o1,f2,λk=>El (f3 k) (o3 k),λb hb i e h1 h2 j hj hl'=>?_,λY hY hj=>?_⟩
  ·rcases a6.mp hb with z |z
   ·subst z;exact le_trans (NK (f3 j)) (o4 i e h1 h2 j hj hl')
   ·exact f4 b z i e h1 h2 j hj (by rw[o1];exact hl')
  ·exact f5 Y (o5 Y hY (hj a (by simp))) λb hb=>hj b (bQ _ hb)
def fE(c:Code):Prop:=∀(i:Nat)(x:Ins),c[i]? =some x->∀j∈nexts i x,j<=c.length
section
variable{c:Code}
theorem tW{l:List FE}(hl:bS c l):(spreadFacts c l).length=l.length:=(i5 hl _ l hl).1
theorem pf{l:List FE}(hl:bS c l):bS c (spreadFacts c l):=(i5 hl _ l hl).2.1
theorem NO{l:List FE}(hl:bS c l)(k:Nat):sb (gt (spreadFacts c l) k) (gt l k):=(i5 hl _ l hl).2.2.1 k
theorem Ee{l Y:List FE}(hl:bS c l)(S:eJ c Y)(h:∀k,le (gt Y k) (gt l k))(k:Nat):le (gt Y k) (gt (spreadFacts c l) k):=by
 refine(i5 hl (List.range c.length) l hl).2.2.2.2 Y h (λa _ i e h1 h2 j hj=>?_) k;obtain⟨a',e1,l1⟩:=h a e h2;refine le_trans (S a i a' h1 e1 j hj) λb eb=>?_
 cases eb;exact⟨_,rfl,NN l1 i⟩
theorem Ef{l:List FE}(hl:bS c l)(hb:fE c)(ln:l.length=c.length+1)(h:spreadFacts c l=l):eJ c l:=by intro i x v h1 h2 j hj;have:=(i5 hl (List.range c.length) l hl).2.2.2.1 i (pJ.mpr (gT h1)) x v h1 h2 j hj (by have:=hb i x h1 j hj;omega);rw[<-mS,h]at this;exact this
theorem ph(l:List FE)(hl:bS c l):∀k,(repeated (spreadFacts c) k l).length=l.length/\bS c (repeated (spreadFacts c) k l)/\∀j,sb (gt (repeated (spreadFacts c) k l) j) (gt l j)
 |0=>⟨rfl,hl,λ_=>pj _⟩
 |k+1=>by obtain⟨h1,h2,h3⟩:=ph l hl k;rw[du];exact⟨(tW h2).trans h1,pf h2,λj=>El (NO h2 j) (h3 j)⟩
theorem tX:∀(k:Nat)(l:List FE),bS c l->hts c.length l<k->spreadFacts c (repeated (spreadFacts c) k l)=repeated (spreadFacts c) k l
 |0,_,_,h=>absurd h (by omega)
 |k+1,l,hl,h=>by
  by_cases e:spreadFacts c l=l
  ·rw[yp _ e,e]
  ·show spreadFacts c (repeated (spreadFacts c) k (spreadFacts c l))=repeated (spreadFacts c) k (spreadFacts c l);have:=(tQ (tW (c:=c) hl) (pf hl) (NO hl)).2 e;exact tX k _ (pf hl) (by omega)
def cN(c:Code):List FE:=some []::List.replicate c.length none
theorem qW(c:Code):(cN c).length=c.length+1:=by simp[cN]
theorem mT(c:Code):gt (cN c) 0=some []:=rfl
theorem i6(c:Code)(j:Nat):gt (cN c) (j+1)=none:=by unfold gt cN;rw[Ge,pM];split<;>rfl
theorem jv(c:Code):bS c (cN c):=λj=>by
 cases j with
 |zero=>rw[mT];intro l e;cases e;exact⟨zb,λf h=>nomatch h⟩
 |succ j=>rw[i6];exact λl e=>by cases e
theorem yy(hb:fE c):(facts c).length=c.length+1/\bS c (facts c)/\eJ c (facts c)/\gt (facts c) 0=some []/\∀Y,eJ c Y->gt Y 0=some []->∀j,le (gt Y j) (gt (facts c) j):=by
 have ek:facts c=repeated (spreadFacts c) ((c.length+1)*(c.length+2)+1) (cN c):=rfl;rw[ek];obtain⟨h1,h2,h3⟩:=ph (c:=c) (cN c) (jv c) ((c.length+1)*(c.length+2)+1);have ht:=tY (jv c);rw[qW]at ht h1;have hm:(c.length+1)*(c.length+1)<=(c.length+1)*(c.length+2):=Nat.mul_le_mul_left _ (by omega);refine⟨h1,h2,Ef h2 hb h1 (tX _ _ (jv c) (by omega)),?_,λY S hY=>?_⟩
 ·obtain⟨a,e,s⟩:=h3 0 [] (mT c);rw[e,List.sublist_nil.mp s]
 ·have all:∀k j,le (gt Y j) (gt (repeated (spreadFacts c) k (cN c)) j):=by
   intro k
   induction k with
   |zero=>
    intro j;cases j with
    |zero=>show le (gt Y 0) (some []);rw[hY];exact le_refl _
    |succ j=>show le _ (gt (cN c) (j+1));rw[i6];exact FN _
   |succ k ih=>rw[du];exact Ee (ph (c:=c) (cN c) (jv c) k).2.1 S ih
  exact all _
theorem YU(hb:fE c){Y:List FE}(S:eJ c Y)(h0:gt Y 0=some [])(up:∀j,le (gt (facts c) j) (gt Y j))(j:Nat):(gt (facts c) j=none ↔ gt Y j=none)/\∀a b,gt (facts c) j=some a->gt Y j=some b->∀f,f∈a ↔ f∈b:=by
 have dn:=(yy hb).2.2.2.2 Y S h0 j;refine⟨⟨λe=>?_,λe=>?_⟩,λa b ea eb f=>⟨λh=>?_,λh=>?_⟩⟩
 ·cases hy:gt Y j with
  |none=>rfl
  |some b=>obtain⟨a,ea,_⟩:=up j b hy;rw[e]at ea;cases ea
 ·cases hy:gt (facts c) j with
  |none=>rfl
  |some b=>obtain⟨a,ea,_⟩:=dn b hy;rw[e]at ea;cases ea
 ·obtain⟨a',e',k⟩:=up j b eb;rw[ea]at e';cases e';exact k f h
 ·obtain⟨a',e',k⟩:=dn a ea;rw[eb]at e';cases e';exact k f h
end
end My.F
namespace My
open Sz43
theorem NP{n:Nat}{p:List Nat->Nat->Bool}(mono:∀l m,(∀x∈l,x∈m)->∀j,p l j=true->p m j=true):repeated (dk n p) (n+1) []=repeated (dk n p) n []:=by
 have hl:(repeated (dk n p) (n+1) []).length<=n:=by rw[du];exact bE (u5 _ _) (by rw[gr];exact aI _)
 rcases Ei (n:=n) mono n with e |e
 ·exact e
 ·omega
inductive Ends(c:Code):Nat->Nat->Prop
 |here {t:Nat}:(∀u,c[t]? ≠some (.goto u))->Ends c t t
 |on {t u v:Nat}:c[t]? =some (.goto u)->Ends c u v->Ends c t v
theorem NQ{c:Code}{n t u:Nat}(h:c[t]? =some (.goto u)):follow c (n+1) t=follow c n u:=by
 show(match c[t]? with
  |some (.goto u)=>follow c n u
  |_=>some t)=_
 rw[h]
theorem NR{c:Code}{n t:Nat}(h:∀u,c[t]? ≠some (.goto u)):follow c (n+1) t=some t:=by
 show(match c[t]? with
  |some (.goto u)=>follow c n u
  |_=>some t)=_
 split
 ·next u e=>exact absurd e (h u)
 ·rfl
theorem Em(c:Code)(t:Nat):(∃u,c[t]? =some (.goto u))\/∀u,c[t]? ≠some (.goto u):=by
 by_cases h:∃u,c[t]? =some (.goto u)
 ·exact .inl h
 ·exact .inr λu e=>h ⟨u,e⟩
theorem t8{c:Code}:∀{n t u:Nat},follow c n t=some u->Ends c t u
 |0,_,_,h=>nomatch h
 |n+1,t,u,h=>by
  rcases Em c t with ⟨w,e⟩ |e
  ·rw[NQ e]at h;exact .on e (t8 h)
  ·rw[NR e]at h;cases h;exact .here e
theorem YV{c:Code}{t u v:Nat}(h:Ends c t u)(k:Ends c t v):u=v:=by
 induction h with
 |here e=>
  cases k with
  |here _=>rfl
  |on e2 _=>exact absurd e2 (e _)
 |on e _ ih=>
  cases k with
  |here e2=>exact absurd e (e2 _)
  |on e2 k=>rw[e]at e2;cases e2;exact ih k
def fP(c:Code)(l:List Nat)(t:Nat):Bool:=match c[t]? with
 |some (.goto u)=>l.contains u
 |_=>true
theorem En{c:Code}{l:List Nat}{t u:Nat}(h:c[t]? =some (.goto u)):fP c l t=l.contains u:=by unfold fP;rw[h]
theorem Eo{c:Code}{l:List Nat}{t:Nat}(h:∀u,c[t]? ≠some (.goto u)):fP c l t=true:=by
 unfold fP;split
 ·next u e=>exact absurd e (h u)
 ·rfl
theorem NS(c:Code)(l m:List Nat)(h:∀x∈l,x∈m)(t:Nat)(k:fP c l t=true):fP c m t=true:=by
 rcases Em c t with ⟨w,e⟩ |e
 ·rw[En e]at k ⊢;simpa using h w (by simpa using k)
 ·exact Eo e
theorem NT{c:Code}(hb:F.fE c):∀(k t:Nat),t<=c.length->(t∈repeated (dk (c.length+1) (fP c)) k [] ↔ (follow c k t).isSome=true)
 |0,t,_=>by
  constructor
  ·intro h;exact nomatch h
  ·intro h;cases h
 |k+1,t,ht=>by
  rw[du,jP];rcases Em c t with ⟨w,e⟩ |e
  ·rw[En e,NQ e,<-NT hb k w (hb t _ e w (by simp[nexts]))];constructor
   ·rintro⟨_,h⟩
    simpa using h
   ·intro h;exact⟨by omega,by simpa using h⟩
  ·rw[Eo e,NR e];exact⟨λ_=>rfl,λ_=>⟨by omega,rfl⟩⟩
theorem NU{c:Code}(hb:F.fE c){t u:Nat}(h:Ends c t u)(ht:t<=c.length):follow c (c.length+1) t=some u:=by
 have key:(follow c (c.length+1) t).isSome=true:=by
  rw[<-NT hb _ t ht]
  induction h with
  |here e=>rw[<-NP (NS c),du,jP];exact⟨by omega,Eo e⟩
  |on e _ ih=>rw[<-NP (NS c),du,jP];refine⟨by omega,?_⟩;rw[En e];simpa using ih (hb _ _ e _ (by simp[nexts]))
 obtain⟨v,e⟩:=rD.mp key;rw[e,YV h (t8 e)]
theorem YW{c:Code}(hb:F.fE c){t u:Nat}(ht:t<=c.length):follow c (c.length+1) t=some u ↔ Ends c t u:=⟨t8,λh=>NU hb h ht⟩
theorem YX{c:Code}(hb:F.fE c){t:Nat}(ht:t<=c.length):follow c (c.length+1) t=none ↔ ¬ ∃u,Ends c t u:=by
 constructor
 ·rintro e ⟨u,h⟩
  rw[NU hb h ht]at e;cases e
 ·intro h;cases e:follow c (c.length+1) t with
  |none=>rfl
  |some u=>exact absurd ⟨u,t8 e⟩ h
theorem Ep:∀(l:List Nat)(b:Nat),∃m,l.foldl (λ(b:Option Nat)(x:Nat)=>match b with
  |some y=>some (min x y)
  |none=>some x) (some b)=some m/\(m=b\/m∈l)/\m<=b/\∀x∈l,m<=x
 |[],b=>⟨b,rfl,.inl rfl,aI _,λx h=>nomatch h⟩
 |a::l,b=>by
  obtain⟨m,e,h1,h2,h3⟩:=Ep l (min a b);refine⟨m,e,?_,by omega,λx hx=>?_⟩
  ·rcases h1 with h1 |h1
   ·by_cases k:a<=b
    ·exact .inr (by rw[h1,Nat.min_eq_left k];exact dN)
    ·exact .inl (by omega)
   ·exact .inr (bQ _ h1)
  ·rcases a6.mp hx with e |e
   ·omega
   ·exact h3 x e
theorem qY{l:List Nat}{m:Nat}:least l=some m ↔ m∈l/\∀x∈l,m<=x:=by
 cases l with
 |nil=>
  constructor
  ·intro h;cases h
  ·rintro⟨h,_⟩
   exact nomatch h
 |cons a l=>
  obtain⟨k,e,h1,h2,h3⟩:=Ep l a;have el:least (a::l)=some k:=e;have hk:k∈a::l:=h1.elim (λz=>z▸dN) λz=>bQ _ z
  have hm:∀x∈a::l,k<=x:=λx hx=>(a6.mp hx).elim (λz=>z▸h2) (h3 x)
  rw[el];constructor
  ·intro z;cases z;exact⟨hk,hm⟩
  ·rintro⟨g1,g2⟩
   have:=hm m g1;have:=g2 k hk
   congr 1
   omega
theorem yz{l:List Nat}:least l=none ↔ l=[]:=by
 cases l with
 |nil=>exact⟨λ_=>rfl,λ_=>rfl⟩
 |cons a l=>obtain⟨k,e,_⟩:=Ep l a;have el:least (a::l)=some k:=e;rw[el];exact⟨λh=>(by cases h),λh=>(by cases h)⟩
theorem NV{l m:List Nat}(h:∀x,x∈l ↔ x∈m):least l=least m:=by
 cases e:least l with
 |none=>
  rw[yz]at e;subst e;refine(yz.mpr ?_).symm;cases m with
  |nil=>rfl
  |cons a m=>exact nomatch (h a).mpr dN
 |some k=>rw[qY]at e;refine(qY.mpr ⟨(h k).mp e.1,λx hx=>e.2 x ((h x).mpr hx)⟩).symm
def qZ(a:Nat)(f:Fact):Option Nat:=match f with
 |(d,.same y)=>if d=a then some y else none
 |_=>none
theorem y4(l:List Fact)(a:Nat):root l a=(least (l.filterMap (qZ a))).getD a:=rfl
theorem NW{a y:Nat}{f:Fact}:qZ a f=some y ↔ f=(a,.same y):=by
 obtain⟨d,h⟩:=f;cases h with
 |same z=>
  show(if d=a then some z else none)=some y ↔ _;by_cases e:d=a
  ·subst e;simp
  ·simp[e]
 |made k b c=>
  constructor
  ·intro h;cases h
  ·intro h;cases h
theorem yA{l:List Fact}{a y:Nat}:y∈l.filterMap (qZ a) ↔ (a,Holds.same y)∈l:=by
 rw[m_];constructor
 ·rintro⟨f,hf,e⟩
  rw[NW]at e;exact e▸hf
 ·intro h;exact⟨_,h,NW.mpr rfl⟩
theorem yB{l m:List Fact}(h:∀f,f∈l ↔ f∈m)(a:Nat):root l a=root m a:=by rw[y4,y4,NV λx=>yA.trans ((h _).trans yA.symm)]
theorem NX{l m:List Fact}(h:∀f,f∈l ↔ f∈m)(f:Fact):l.contains f=m.contains f:=by rw[f9];simpa using h f
theorem YY{l m:List Fact}(h:∀f,f∈l ↔ f∈m)(i:Ins):shared l i=shared m i:=by
 cases i with
 |copy d a=>unfold shared;simp only[yB h,NX h]
 |op k d a b=>
  unfold shared;have e:least ((l.filter λ(f:Fact)=>f.2==.made k (root m a) (root m b)).map λ(f:Fact)=>f.1)=least ((m.filter λ(f:Fact)=>f.2==.made k (root m a) (root m b)).map λ(f:Fact)=>f.1):=by
   refine NV λx=>?_
   simp only[d_,fb,h]
  simp only[yB h,NX h,e]
 |print a=>unfold shared;simp only[yB h]
 |cond a t=>unfold shared;simp only[yB h]
 |_=>rfl
end My
namespace My
open Sz43
def tgt:Ins->Option Nat
 | .goto t=>some t
 | .cond _ t=>some t
 |_=>none
structure i7(P:Int->Prop)(n m:Nat)(i:Ins):Prop where
 us:∀v∈usesOf i,v<n
 gv:∀d,givesOf i=some d->d<n
 nm:∀d z,i=.num d z->P z
 op:∀k d a b,i=.op k d a b->k<12
 tg:∀t,tgt i=some t->t<=m
def GoodC(P:Int->Prop)(n:Nat)(c:Code):Prop:=∀i∈c,i7 P n c.length i
section
variable{P:Int->Prop}{n:Nat}{c:Code}
theorem YZ{i m:Nat}{x:Ins}(h:∀t,tgt x=some t->t<=m)(hi:i<m):∀j∈nexts i x,j<=m:=by
 intro j hj;cases x with
 |goto t=>simp[nexts]at hj;subst hj;exact h _ rfl
 |cond a t=>
  simp[nexts]at hj;rcases hj with e |e
  ·subst e;exact h _ rfl
  ·omega
 |stop=>simp[nexts]at hj
 |num d z=>simp[nexts]at hj;omega
 |copy d a=>simp[nexts]at hj;omega
 |op k d a b=>simp[nexts]at hj;omega
 |read d=>simp[nexts]at hj;omega
 |print a=>simp[nexts]at hj;omega
theorem GoodC.kK(G:GoodC P n c):F.fE c:=λi x hx=>YZ (G x (bu hx)).tg (gT hx)
theorem Y1{i:Nat}{x:Ins}{l:KL}:∀j∈mayLead i x l,j∈nexts i x:=by
 intro j hj;cases x with
 |cond a t=>
  rw[tT]at hj;cases h:knows l a with
  |none=>rw[h]at hj;exact hj
  |some z=>
   rw[h]at hj;dsimp only at hj;split at hj
   ·simp at hj;simp[nexts,hj]
   ·simp at hj;simp[nexts,hj]
 |_=>exact hj
theorem GoodC.bounds(G:GoodC P n c):tV c:=λi x _ hx j hj=>G.kK i x hx j (Y1 j hj)
theorem q_{l:KL}(hl:AllP P l){v:Nat}{z:Int}(e:knows l v=some z):P z:=by
 unfold knows at e;cases hv:l[v]? with
 |none=>rw[hv]at e;cases e
 |some x=>rw[hv]at e;have e:x=some z:=e;exact hl z (by rw[<-e];exact bu hv)
def kL(P:Int->Prop)(m:List Env):Prop:=∀j l,gt m j=some l->AllP P l
theorem Y2{m:List Env}{j:Nat}{x:Env}(h:kL P m)(hx:∀l,x=some l->AllP P l):kL P (m.set j x):=by
 intro k l e;by_cases q:k=j
 ·subst q;by_cases hl:k<m.length
  ·rw[jt hl]at e;exact hx l e
  ·rw[lT (by rw[gn];omega)]at e;cases e
 ·rw[kJ q]at e;exact h k l e
theorem NY{v:KL}(hv:AllP P v):∀(js:List Nat)(m:List Env),kL P m->kL P (dH v js m)
 |[],_,h=>h
 |j::js,m,h=>by show kL P (dH v js (m.set j (both (gt m j) (some v))));refine NY hv js _ (Y2 h λl e=>?_);rw[Eg]at e;cases e;exact ND (λl e=>h j l e) hv
variable(rk:∀k x y,P x->P y->P (reckon k x y))
include rk
theorem NZ{i:Ins}{m:Nat}(O:i7 P n m i){l:KL}(hl:AllP P l):AllP P (behind i l):=by
 refine YE hl λz e=>?_
 cases i with
 |num d y=>have e:some y=some z:=e;cases e;exact O.nm d _ rfl
 |copy d v=>exact q_ hl e
 |op k d v u=>
  rw[tR]at e;cases h1:knows l v with
  |none=>rw[h1]at e;cases e
  |some x=>
   cases h2:knows l u with
   |none=>rw[h1,h2]at e;cases e
   |some y=>rw[h1,h2]at e;have e:some (reckon k x y)=some z:=e;cases e;exact rk _ _ _ (q_ hl h1) (q_ hl h2)
 |_=>cases e
theorem Y3(G:GoodC P n c){l:List Env}(hl:kL P l):kL P (spread c l):=by
 rw[mS];have:∀(as:List Nat)(m:List Env),kL P m->kL P (as.foldl (bM c l) m):=by
  intro as
  induction as with
  |nil=>exact λ_ h=>h
  |cons a as ih=>
   intro m h;rw[rN];refine ih _ ?_;unfold bM;split
   ·next i e hi he=>exact NY (NZ rk (G i (bu hi)) (hl a e he)) _ _ h
   ·exact h
 exact this _ _ hl
theorem Y4(h0:P 0)(G:GoodC P n c):kL P (known n c):=by
 have ek:known n c=repeated (spread c) ((c.length+1)*(n+1)+1) (cN n c):=rfl;rw[ek];generalize (c.length+1)*(n+1)+1=k
 induction k with
 |zero=>
  intro j l e;cases j with
  |zero=>have e:some (List.replicate n (some (0:Int)))=some l:=e;cases e;intro z hz;have:=(List.mem_replicate.mp hz).2;cases this;exact h0
  |succ j=>have e:gt (cN n c) (j+1)=some l:=e;rw[i6]at e;cases e
 |succ k ih=>rw[du];exact Y3 rk G ih
omit rk
def bK(l:List (Option Ins))(t:Nat):Nat:=((l.take t).filter λ(y:Option Ins)=>y.isSome).length
theorem Rr(l:List (Option Ins)):closed l=l.filterMap λ(x:Option Ins)=>x.map (sent (bK l)):=rfl
theorem Er{g:Ins->Ins}:∀(l:List (Option Ins)),(l.filterMap λ(x:Option Ins)=>x.map g).length=(l.filter λ(y:Option Ins)=>y.isSome).length
 |[]=>rfl
 |none::l=>Er l
 |some x::l=>by show(g x::l.filterMap λ(x:Option Ins)=>x.map g).length=(some x::l.filter λ(y:Option Ins)=>y.isSome).length;rw[b6,b6,Er l]
theorem Es(l:List (Option Ins)):(closed l).length=(l.filter λ(y:Option Ins)=>y.isSome).length:=Er l
theorem Y5(l:List (Option Ins)):(closed l).length<=l.length:=by rw[Es];exact u5 _ _
theorem Y6(l:List (Option Ins))(t:Nat):bK l t<=(closed l).length:=by rw[Es];exact((Rw t l).filter _).length_le
theorem N0{m m':Nat}{f:Nat->Nat}{i:Ins}(O:i7 P n m i)(hf:∀t,t<=m->f t<=m'):i7 P n m' (sent f i):=by
 cases i with
 |goto t=>exact⟨O.us,O.gv,λ_ _ e=>(by cases e),λ_ _ _ _ e=>(by cases e),λu e=>by cases e;exact hf _ (O.tg _ rfl)⟩
 |cond a t=>exact⟨O.us,O.gv,λ_ _ e=>(by cases e),λ_ _ _ _ e=>(by cases e),λu e=>by cases e;exact hf _ (O.tg _ rfl)⟩
 |_=>exact⟨O.us,O.gv,O.nm,O.op,λu e=>(by cases e)⟩
theorem Y7{l:List (Option Ins)}{m:Nat}(h:∀y,some y∈l->i7 P n m y):GoodC P n (closed l):=by
 intro i hi;have hi':=hi;rw[Rr,m_]at hi';obtain⟨x,hx,e⟩:=hi';cases x with
 |none=>cases e
 |some y=>cases e;exact N0 (h y hx) λt _=>Y6 l t
theorem yC{g:Ins×Nat->Option Ins}(h:∀i x y,c[i]? =some x->g (x,i)=some y->i7 P n c.length y):GoodC P n (closed (c.zipIdx.map g))/\(closed (c.zipIdx.map g)).length<=c.length:=by refine⟨Y7 (m:=c.length) λy hy=>?_,bE (Y5 _) (by simp)⟩;obtain⟨⟨x,i⟩,hx,e⟩:=d_.mp hy;have:=RN.mp hx;exact h i x y (by simpa using this) e
theorem Et{m d:Nat}{z:Int}(hd:d<n)(hz:P z):i7 P n m (.num d z):=⟨λv h=>(by simp[usesOf]at h),λe h=>(by cases h;exact hd),λ_ _ e=>(by cases e;exact hz),λ_ _ _ _ e=>(by cases e),λ_ e=>(by cases e)⟩
theorem Eu{m d a:Nat}(hd:d<n)(ha:a<n):i7 P n m (.copy d a):=⟨λv h=>(by simp[usesOf]at h;omega),λe h=>(by cases h;exact hd),λ_ _ e=>(by cases e),λ_ _ _ _ e=>(by cases e),λ_ e=>(by cases e)⟩
include rk in
theorem Ew(h0:P 0)(G:GoodC P n c):GoodC P n (fold n c)/\(fold n c).length<=c.length:=by
 refine yC (g:=λ(x:Ins×Nat)=>folded (knownAt (known n c) x.2) x.1) λi x y hx e=>?_
 have O:=G x (bu hx);have e:folded (knownAt (known n c) i) x=some y:=e;cases hk:knownAt (known n c) i with
 |none=>rw[hk]at e;cases e
 |some l=>
  have hl:AllP P l:=Y4 rk h0 G i l hk;rw[hk]at e;cases x with
  |num d z=>
   have e:(if knows l d=some z then none else some (Ins.num d z))=some y:=e;split at e
   ·cases e
   ·cases e;exact O
  |copy d a=>
   have e:(match knows l a with
    |some z=>if knows l d=some z then none else some (Ins.num d z)
    |none=>some (.copy d a))=some y:=e
   split at e
   ·next z hz=>
    split at e
    ·cases e
    ·cases e;exact Et (O.gv d rfl) (q_ hl hz)
   ·cases e;exact O
  |op k d a b=>
   have e:(match knows l a,knows l b with
    |some x,some y=>if knows l d=some (reckon k x y)then none else some (.num d (reckon k x y))
    |_,_=>some (.op k d a b))=some y:=e
   split at e
   ·next u v hu hv=>
    split at e
    ·cases e
    ·cases e;exact Et (O.gv d rfl) (rk _ _ _ (q_ hl hu) (q_ hl hv))
   ·cases e;exact O
  |cond a t=>
   have e:(match knows l a with
    |some z=>if z=0 then none else some (Ins.goto t)
    |none=>some (.cond a t))=some y:=e
   split at e
   ·split at e
    ·cases e
    ·cases e;exact⟨λv h=>(by simp[usesOf]at h),λe h=>(by cases h),λ_ _ e=>(by cases e),λ_ _ _ _ e=>(by cases e),λu e=>(by cases e;exact O.tg _ rfl)⟩
   ·cases e;exact O
  |read d=>cases e;exact O
  |print d=>cases e;exact O
  |goto d=>cases e;exact O
  |stop=>cases e;exact O
theorem N1(G:GoodC P n c){f:Fact}(h:f∈F.U c):f.1<n/\∀y,f.2=.same y->y<n:=by
 obtain⟨i,hi,e⟩:=m_.mp h;have O:=G i hi;cases i with
 |copy d a=>
  unfold F.makes at e;simp only at e;split at e
  ·cases e
  ·cases e;exact⟨O.gv d rfl,λy h=>by cases h;exact O.us _ (by simp[usesOf])⟩
 |op k d a b=>
  unfold F.makes at e;simp only at e;split at e
  ·cases e
  ·cases e;exact⟨O.gv d rfl,λy h=>(by cases h)⟩
 |_=>cases e
theorem Y8{l:List Fact}(h:∀f∈l,∀y,f.2=.same y->y<n){a:Nat}(ha:a<n):root l a<n:=by
 rw[y4];cases e:least (l.filterMap (qZ a))with
 |none=>exact ha
 |some m=>exact h _ (yA.mp (qY.mp e).1) m rfl
theorem Y9(G:GoodC P n c)(i:Nat):∀f∈factsAt (facts c) i,f∈F.U c:=by
 intro f hf;unfold factsAt at hf;cases e:((facts c)[i]?).bind id with
 |none=>rw[e]at hf;exact nomatch hf
 |some l=>rw[e]at hf;exact((F.yy G.kK).2.1 i l e).2 f hf
theorem N2(G:GoodC P n c):GoodC P n (share c)/\(share c).length<=c.length:=by
 refine yC (g:=λ(x:Ins×Nat)=>shared (factsAt (facts c) x.2) x.1) λi x y hx e=>?_
 have O:=G x (bu hx);have e:shared (factsAt (facts c) i) x=some y:=e;have hU:=Y9 G i;generalize factsAt (facts c) i=l at e hU;have r:∀a,a<n->root l a<n:=λa ha=>Y8 (λf hf=>(N1 G (hU f hf)).2) ha
 cases x with
 |copy d a=>
  have e:(if root l a=d\/l.contains (d,Holds.same (root l a))=true then none else some (Ins.copy d (root l a)))=some y:=e;split at e
  ·cases e
  ·cases e;exact Eu (O.gv d rfl) (r a (O.us _ (by simp[usesOf])))
 |op k d a b=>
  have e:(if l.contains (d,Holds.made k (root l a) (root l b))=true then none
   else match least ((l.filter λ(f:Fact)=>f.2==Holds.made k (root l a) (root l b)).map λ(f:Fact)=>f.1)with
   |some w=>some (Ins.copy d w)
   |none=>some (.op k d (root l a) (root l b)))=some y:=e
  have ha:=r a (O.us _ (by simp[usesOf]));have hb:=r b (O.us _ (by simp[usesOf]));split at e
  ·cases e
  ·split at e
   ·next w hw=>cases e;obtain⟨f,hf,ew⟩:=d_.mp (qY.mp hw).1;exact Eu (O.gv d rfl) (ew▸(N1 G (hU f (fb.mp hf).1)).1)
   ·cases e;exact⟨λv h=>(by simp[usesOf]at h;omega),O.gv,λ_ _ e=>(by cases e),λ_ _ _ _ e=>(by cases e;exact O.op _ _ _ _ rfl),λ_ e=>(by cases e)⟩
 |print a=>have e:some (Ins.print (root l a))=some y:=e;cases e;have ha:=r a (O.us _ (by simp[usesOf]));exact⟨λv h=>(by simp[usesOf]at h;omega),λ_ e=>(by cases e),λ_ _ e=>(by cases e),λ_ _ _ _ e=>(by cases e),λ_ e=>(by cases e)⟩
 |cond a t=>have e:some (Ins.cond (root l a) t)=some y:=e;cases e;have ha:=r a (O.us _ (by simp[usesOf]));exact⟨λv h=>(by simp[usesOf]at h;omega),λ_ e=>(by cases e),λ_ _ e=>(by cases e),λ_ _ _ _ e=>(by cases e),λu e=>(by cases e;exact O.tg _ rfl)⟩
 |num d z=>cases e;exact O
 |read d=>cases e;exact O
 |goto d=>cases e;exact O
 |stop=>cases e;exact O
theorem N3{g:Ins×Nat->Bool}(G:GoodC P n c):GoodC P n (closed (c.zipIdx.map λ(x:Ins×Nat)=>if g x=true then none else some x.1))/\(closed (c.zipIdx.map λ(x:Ins×Nat)=>if g x=true then none else some x.1)).length<=c.length:=by
 refine yC λi x y hx e=>?_
 split at e
 ·cases e
 ·cases e;exact G x (bu hx)
theorem N4(G:GoodC P n c):GoodC P n (spare c)/\(spare c).length<=c.length:=N3 (g:=needless c) G
theorem Y_(G:GoodC P n c):GoodC P n (onward c)/\(onward c).length<=c.length:=N3 (g:=λ(x:Ins×Nat)=>leads (x.2+1) x.1) G
theorem N5(G:GoodC P n c):GoodC P n (pruned c)/\(pruned c).length<=c.length:=by
 refine yC (g:=λ(x:Ins×Nat)=>if (reached c).contains x.2=true then some x.1 else none) λi x y hx e=>?_
 dsimp only at e;split at e
 ·cases e;exact G x (bu hx)
 ·cases e
theorem Za(hb:F.fE c){t u:Nat}(h:Ends c t u)(ht:t<=c.length):u<=c.length:=by
 induction h with
 |here _=>exact ht
 |on e _ ih=>exact ih (hb _ _ e _ (by simp[nexts]))
theorem N6(G:GoodC P n c):GoodC P n (straight c)/\(straight c).length<=c.length:=by
 have el:(straight c).length=c.length:=aK _;refine⟨λi hi=>?_,nc el⟩;obtain⟨x,hx,e⟩:=d_.mp hi;subst e;refine N0 (G x hx) λt ht=>?_
 rw[el];cases e:follow c (c.length+1) t with
 |none=>exact ht
 |some u=>exact Za G.kK (t8 e) ht
include rk in
theorem Zb(h0:P 0)(G:GoodC P n c):GoodC P n (once n c)/\(once n c).length<=c.length:=by obtain⟨g1,l1⟩:=Ew rk h0 G;obtain⟨g2,l2⟩:=N2 g1;obtain⟨g3,l3⟩:=N4 g2;obtain⟨g4,l4⟩:=N6 g3;obtain⟨g5,l5⟩:=N5 g4;obtain⟨g6,l6⟩:=Y_ g5;exact⟨g6,by unfold once;omega⟩
include rk in
theorem Ex(h0:P 0)(G:GoodC P n c):∀k,GoodC P n (repeated (once n) k c)/\(repeated (once n) k c).length<=c.length
 |0=>⟨G,aI _⟩
 |k+1=>by obtain⟨g,l⟩:=Ex h0 G k;rw[du];obtain⟨g2,l2⟩:=Zb rk h0 g;exact⟨g2,bE l2 l⟩
end
end My
namespace My
open Sz43
theorem t9{c:Code}{t:Nat}:t∈targets c ↔ t<=c.length/\c.any (leads t)=true:=by unfold targets;rw[fb,pJ];exact and_congr_left λ_=>Nat.lt_succ_iff
theorem N7{t:Nat}{i:Ins}:leads t i=true ↔ tgt i=some t:=by cases i<;>simp[leads,tgt]
theorem Ey{c:Code}{t:Nat}:c.any (leads t)=true ↔ ∃i∈c,tgt i=some t:=by rw[mf];exact exists_congr λi=>and_congr_right λ_=>N7
def eK(n:Nat):List Nat:=if h:n<10 then [48+n]else eK (n/10)++[48+n%10]
termination_by n
theorem ra{n:Nat}(h:n<10):eK n=[48+n]:=by rw[eK,dif_pos h]
theorem t_{n:Nat}(h:¬n<10):eK n=eK (n/10)++[48+n%10]:=by rw[eK,dif_neg h]
theorem N8:∀{d:Nat},d<10->(Nat.digitChar d).toNat=48+d:=by decide
theorem N9:∀(f n:Nat)(ds:List Char),n<f->(Nat.toDigitsCore 10 f n ds).map (λc=>c.toNat)=eK n++ds.map λc=>c.toNat
 |0,_,_,h=>absurd h (by omega)
 |f+1,n,ds,h=>by
  rw[Nat.toDigitsCore];by_cases hn:n<10
  ·have e:n/10=0:=by omega
   rw[ai e,ra hn,bt,N8 (Nat.mod_lt n (by omega)),Nat.mod_eq_of_lt hn];rfl
  ·have e:n/10≠0:=by omega
   rw[ah e,N9 f (n/10) _ (by omega),t_ hn,bt,N8 (Nat.mod_lt n (by omega)),nE];rfl
theorem N_(n:Nat):(Nat.toDigits 10 n).map (λc=>c.toNat)=eK n:=by unfold Nat.toDigits;rw[N9 _ _ _ (by omega)];exact gk _
theorem rb(z:Int):decimal z=if z<0 then 45::eK z.natAbs else eK z.natAbs:=by unfold decimal;rw[N_]
theorem Oa(n:Nat):∀c∈eK n,48<=c/\c<=57:=by
 induction n using Nat.strongRecOn with
 |ind n ih=>
  by_cases h:n<10
  ·rw[ra h];intro c hc;simp at hc;omega
  ·rw[t_ h];intro c hc;rcases bN.mp hc with e |e
   ·exact ih (n/10) (by omega) c e
   ·simp at e;omega
end My
namespace My
open Sz43
abbrev HL:=LL Holds
def fZ:Holds->List Nat
 | .same y=>[y]
 | .made _ a b=>[a,b]
noncomputable def lV:Ins->Option Holds
 | .copy d a=>if d=a then none else some (.same a)
 | .op k d a b=>if d=a\/d=b then none else some (.made k a b)
 |_=>none
def mV(d:Nat)(o:Option Holds):Option Holds:=o.bind λh=>if d∈fZ h then none else some h
def f6(i:Ins)(l:HL):HL:=match givesOf i with
 |none=>l
 |some d=>if F.fY i=true then l else (l.map (mV d)).set d (lV i)
def e8(p:Nat):Ins->List Nat
 | .stop=>[]
 | .goto t=>[t]
 | .cond _ t=>[p+1,t]
 |_=>[p+1]
theorem pw{p j:Nat}{x:Ins}:j∈e8 p x ↔ j∈nexts p x:=by
 cases x with
 |cond a t=>simp only[e8,nexts,a6,dB,dC];exact Or.comm
 |_=>exact p_
theorem Ob(i:Ins)(l:HL):(f6 i l).length=l.length:=by
 unfold f6;split
 ·rfl
 ·split
  ·rfl
  ·simp
theorem Zc(i:Ins)(a b:HL)(h:cX a b):cX (f6 i a) (f6 i b):=by
 unfold f6;split
 ·exact h
 ·next d _=>
  split
  ·exact h
  ·refine⟨by simpa using h.1,λe z q=>?_⟩;by_cases ed:e=d
   ·subst ed;by_cases hl:e<a.length
    ·rw[kR (by simpa using hl)]at q;rw[kR (by rw[aK,<-h.1];exact hl)];exact q
    ·rw[jA (by simp;omega)]at q;cases q
   ·rw[m8 (cu ed),bF]at q ⊢;cases ea:a[e]? with
    |none=>rw[ea]at q;cases q
    |some o=>
     rw[ea]at q;cases o with
     |none=>cases q
     |some hh=>rw[h.2 e hh ea];exact q
def ua(n:Nat){c:Code}(hb:F.fE c):Sys Holds n c where
 fst:=List.replicate n none
 len:=rE
 bh:=f6
 bl:=Ob
 ld:=λp i _=>e8 p i
 bm:=Zc
 lm:=λp i a b j _ k=>k
 ib:=λp i l h j hj=>hb p i h j (pw.mp hj)
def toF(l:HL):List Fact:=l.zipIdx.filterMap λ(x:Option Holds×Nat)=>x.1.map λh=>(x.2,h)
theorem kM{l:HL}{d:Nat}{h:Holds}:(d,h)∈toF l ↔ l[d]? =some (some h):=by
 unfold toF;rw[m_];constructor
 ·rintro⟨⟨o,j⟩,hm,e⟩
  obtain⟨hh,eo,e2⟩:=cK.mp e;cases e2;have:=List.mem_zipIdx' hm;obtain⟨h1,h2⟩:=this;have eo:o=some h:=eo;rw[aN h1,<-h2,eo]
 ·intro e;refine⟨(some h,d),?_,rfl⟩;exact List.mk_mem_zipIdx_iff_getElem?.mpr e
theorem Ez(i:Ins)(d:Nat)(g:givesOf i=some d):F.makes i=(lV i).map λh=>(d,h):=by
 cases i with
 |copy e a=>cases g;unfold F.makes lV;dsimp only;split<;>rfl
 |op k e a b=>cases g;unfold F.makes lV;dsimp only;split<;>rfl
 |_=>rfl
theorem yD(d e:Nat)(h:Holds):speaksOf d (e,h)=false ↔ e≠d/\d ∉ fZ h:=by
 unfold speaksOf;cases h with
 |same y=>simp[fZ];intro _;exact⟨λh e=>h e.symm,λh e=>h e.symm⟩
 |made k a b=>simp[fZ];intro _;exact⟨λh=>⟨λe=>h.1 e.symm,λe=>h.2 e.symm⟩,λh=>⟨λe=>h.1 e.symm,λe=>h.2 e.symm⟩⟩
theorem Oc{i:Ins}{l:HL}(hd:∀d,givesOf i=some d->d<l.length)(f:Fact):f∈told i (toF l) ↔ f∈toF (f6 i l):=by
 obtain⟨e,h⟩:=f;rw[F.yx];unfold f6;cases g:givesOf i with
 |none=>exact p_
 |some d=>
  dsimp only;by_cases sc:F.fY i=true
  ·rw[ai sc,ai sc]
  ·rw[ah sc,ah sc,kM,kM,Ez i d g];by_cases ed:e=d
   ·subst ed;rw[kR (by simpa using hd e g),yD];constructor
    ·rintro(h1 |h1)
     ·exact absurd rfl h1.2.1
     ·obtain⟨x,ex,e2⟩:=cK.mp h1;cases e2;rw[ex]
    ·intro h1
     right
     have h1:lV i=some h:=by simpa using h1
     rw[h1];rfl
   ·rw[m8 (cu ed),bF,yD];constructor
    ·rintro(h1 |h1)
     ·rw[h1.1];show some (if d∈fZ h then none else some h)=_;rw[ah h1.2.2]
     ·obtain⟨x,ex,e2⟩:=cK.mp h1;cases e2;exact absurd rfl ed
    ·intro h1
     left
     cases ea:l[e]? with
     |none=>rw[ea]at h1;cases h1
     |some o=>
      rw[ea]at h1;cases o with
      |none=>cases h1
      |some x=>
       have h1:some (if d∈fZ x then none else some x)=some (some h):=h1;by_cases q:d∈fZ x
       ·rw[ai q]at h1;cases h1
       ·rw[ah q]at h1;cases h1;exact⟨rfl,ed,q⟩
def Fn(l:List Fact):Prop:=∀d h h',(d,h)∈l->(d,h')∈l->h=h'
def mW(x:F.FE):Prop:=∀l,x=some l->Fn l
theorem Zd{i:Ins}{l:List Fact}(h:Fn l):Fn (told i l):=by
 intro d x y hx hy;rw[F.yx]at hx hy;cases g:givesOf i with
 |none=>rw[g]at hx hy;exact h d x y hx hy
 |some e=>
  rw[g]at hx hy;dsimp only at hx hy;by_cases sc:F.fY i=true
  ·rw[ai sc]at hx hy;exact h d x y hx hy
  ·rw[ah sc,Ez i e g]at hx hy;rcases hx with hx |hx<;>rcases hy with hy |hy
   ·exact h d x y hx.1 hy.1
   ·obtain⟨z,ez,e2⟩:=cK.mp hy;cases e2;exact absurd rfl ((yD _ _ x).mp hx.2).1
   ·obtain⟨z,ez,e2⟩:=cK.mp hx;cases e2;exact absurd rfl ((yD _ _ y).mp hy.2).1
   ·obtain⟨z,ez,e2⟩:=cK.mp hx;obtain⟨z',ub,e2'⟩:=cK.mp hy;cases e2;cases e2';rw[ez]at ub;cases ub;rfl
theorem Od{v:List Fact}(hv:Fn v):∀(js:List Nat)(m:List F.FE),(∀j,mW (F.gt m j))->∀j,mW (F.gt (F.dH v js m) j)
 |[],_,h=>h
 |w::js,m,h=>by
  refine Od hv js _ λj=>?_
  by_cases e:j=w
  ·subst e;by_cases hl:j<m.length
   ·rw[F.jt hl];have hj:=h j;unfold F.gt at hj;cases q:(m[j]?).bind id with
    |none=>intro l z;cases z;exact hv
    |some a=>intro l z;cases z;rw[q]at hj;intro d x y hx hy;exact hj a rfl d x y (fb.mp hx).1 (fb.mp hy).1
   ·rw[F.lT (by rw[gn];omega)];intro l z;cases z
  ·rw[F.kJ e];exact h j
theorem Ze{c:Code}{l:List F.FE}(h:∀j,mW (F.gt l j)):∀j,mW (F.gt (spreadFacts c l) j):=by
 have all:∀(as:List Nat)(m:List F.FE),(∀j,mW (F.gt m j))->∀j,mW (F.gt (as.foldl (F.bM c l) m) j):=by
  intro as
  induction as with
  |nil=>exact λm h=>h
  |cons a as ih=>
   intro m hm;refine ih _ λj=>?_
   unfold F.bM;split
   ·next i e h1 h2=>exact Od (Zd (h a e h2)) _ m hm j
   ·exact hm j
 exact all _ l h
theorem EA(c:Code):∀j,mW (F.gt (facts c) j):=by
 have all:∀k,∀j,mW (F.gt (repeated (spreadFacts c) k (F.cN c)) j):=by
  intro k
  induction k with
  |zero=>
   intro j;cases j with
   |zero=>intro l e;cases e;intro d x y hx;exact nomatch hx
   |succ j=>rw[show repeated (spreadFacts c) 0 (F.cN c)=F.cN c from rfl,F.i6];intro l e;cases e
  |succ k ih=>rw[du];exact Ze ih
 exact all _
def kN(n:Nat)(l:List Fact):HL:=(List.range n).map λd=>(l.find? λf=>f.1==d).map λf=>f.2
theorem yE(n:Nat)(l:List Fact):(kN n l).length=n:=by simp[kN]
theorem yF{n:Nat}{l:List Fact}(hl:Fn l){d:Nat}{h:Holds}:(kN n l)[d]? =some (some h) ↔ d<n/\(d,h)∈l:=by
 unfold kN;rw[bF];by_cases hd:d<n
 ·rw[RO hd];show some _=some _ ↔ _;constructor
  ·intro e;have e:=cI e;obtain⟨f,e1,e2⟩:=cK.mp e;have h1:=List.find?_some e1;have h2:=RP e1;have h1:f.1=d:=by simpa using h1
   refine⟨hd,?_⟩;rw[<-h1,<-e2];exact h2
  ·rintro⟨_,hm⟩
   cases q:l.find? λf=>f.1==d with
   |none=>have:=RK.mp q _ hm;simp at this
   |some f=>
    have h1:=List.find?_some q;have h2:=RP q;obtain⟨f1,f2⟩:=f;have h1:f1=d:=by simpa using h1
    subst h1;show some ((l.find? λf=>f.1==f1).map λf=>f.2)=_;rw[q,<-hl f1 f2 h h2 hm];rfl
 ·rw[jA (by simp;omega)];constructor
  ·intro e;cases e
  ·intro e;exact absurd e.1 hd
theorem Zf{α β:Type}(f:LL α->β)(l:List (EE α))(j:Nat):((l.map (Option.map f))[j]?).bind id=(gt l j).map f:=by
 unfold gt;rw[bF];cases l[j]? with
 |none=>rfl
 |some x=>rfl
theorem Zg{n:Nat}{c:Code}(hb:F.fE c)(hg:∀i∈c,∀d,givesOf i=some d->d<n){B:List (EE Holds)}(ln:B.length=c.length+1)(wf:∀j,Wf n (gt B j))(S:(ua n hb).eJ B)(st:le (gt B 0) (some (List.replicate n none))) (up:∀Y,(ua n hb).eJ Y->(∀j,le (gt Y j) (gt (ua n hb).start j))->∀j,le (gt Y j) (gt B j))(j:Nat):(F.gt (facts c) j=none ↔ gt B j=none)/\∀l,gt B j=some l->∀f,f∈factsAt (facts c) j ↔ f∈toF l:=by
 have gy:∀j,F.gt (B.map (Option.map toF)) j=(gt B j).map toF:=Zf toF B;obtain⟨k1,k2,k3,k4,k5⟩:=F.yy hb;have fwf:∀j l,F.gt (facts c) j=some l->∀f∈l,f.1<n:=by
  intro j l e f hf;have:=(k2 j l e).2 f hf;obtain⟨i,hi,em⟩:=m_.mp this;cases g:givesOf i with
  |none=>cases i<;>first |(cases g;done) |(cases em;done)
  |some d=>rw[Ez i d g]at em;obtain⟨x,_,e2⟩:=cK.mp em;rw[<-e2];exact hg i hi d g
 have SY:F.eJ c (B.map (Option.map toF)):=by intro i x l hx hl w hw;rw[gy]at hl;obtain⟨l',e1,e2⟩:=cK.mp hl;subst e2;intro b eb;cases eb;obtain⟨a,ea,la⟩:=S i x l' hx e1 w (pw.mpr hw) _ rfl;refine⟨toF a,by rw[gy,ea];rfl,λf hf=>?_⟩;rw[Oc λd g=>by rw[wf i l' e1];exact hg x (bu hx) d g];obtain⟨d,h⟩:=f;rw[kM]at hf ⊢;exact la.2 d h hf
 have Y0:F.gt (B.map (Option.map toF)) 0=some []:=by
  obtain⟨a,ea,la⟩:=st _ rfl;rw[gy,ea];show some (toF a)=some []
  congr 1
  rw[ab6]
  rintro⟨d,h⟩ hf
  rw[kM]at hf;have:=la.2 d h hf;rw[pM]at this;split at this<;>cases this
 have upF:∀j,F.le (F.gt (facts c) j) (F.gt (B.map (Option.map toF)) j):=by
  intro j b eb;rw[gy]at eb;obtain⟨b',e1,e2⟩:=cK.mp eb;subst e2;have gz:∀j,gt ((facts c).map (Option.map (kN n))) j=(F.gt (facts c) j).map (kN n):=λj=>by
   unfold gt F.gt;rw[bF];cases(facts c)[j]? with
   |none=>rfl
   |some x=>rfl
  have Z:=up ((facts c).map (Option.map (kN n))) (λi x l hx hl w hw=>?_) (λj=>?_) j
  ·obtain⟨a,ea,la⟩:=Z b' e1;rw[gz]at ea;obtain⟨a0,e3,e4⟩:=cK.mp ea;subst e4;refine⟨a0,e3,λf hf=>?_⟩;obtain⟨d,h⟩:=f;rw[kM];exact la.2 d h ((yF (EA c j a0 e3)).mpr ⟨fwf j a0 e3 _ hf,hf⟩)
  ·rw[gz]at hl;obtain⟨l',e3,e4⟩:=cK.mp hl;subst e4;intro q eq;cases eq;obtain⟨a,ea,la⟩:=k3 i x l' hx e3 w (pw.mp hw) _ rfl;refine⟨kN n a,by rw[gz,ea];rfl,?_,λd h hf=>?_⟩
   ·show _=(f6 x (kN n l')).length;rw[Ob,yE,yE]
   ·obtain⟨_,hm⟩:=(yF (EA c w a ea)).mp hf;have h1:=la _ hm;show(f6 x (kN n l'))[d]? =some (some h);rw[<-kM,<-Oc λd g=>by rw[yE];exact hg x (bu hx) d g];refine F.NN (λf hf=>?_) x _ h1;obtain⟨d',h'⟩:=f;rw[kM,yF (EA c i l' e3)];exact⟨fwf i l' e3 _ hf,hf⟩
  ·cases j with
   |zero=>rw[gz,k4];intro q eq;cases eq;refine⟨_,rfl,by rw[yE];exact rE.symm,λd h hf=>?_⟩;obtain⟨_,hm⟩:=(yF (l:=[]) λd h h' e=>nomatch e).mp hf;exact nomatch hm
   |succ j=>rw[Sys.i6];exact λb e=>by cases e
 obtain⟨m1,m2⟩:=F.YU hb SY Y0 upF j;refine⟨m1.trans ?_,λl el f=>?_⟩
 ·rw[gy];cases gt B j<;>simp
 ·have ey:F.gt (B.map (Option.map toF)) j=some (toF l):=by rw[gy,el];rfl
  cases ef:F.gt (facts c) j with
  |none=>rw[m1.mp ef]at ey;cases ey
  |some a=>
   have:factsAt (facts c) j=a:=by unfold factsAt;unfold F.gt at ef;rw[ef];rfl
   rw[this];exact m2 a _ ef ey f
end My
namespace My
open Sz43
noncomputable def dv(l:HL)(v:Nat):Nat:=match (l[v]?).bind id with
 |some (.same y)=>y
 |_=>v
noncomputable def yG(l:HL):Ins->Option Ins
 | .copy d a=>if dv l a=d\/l[d]? =some (some (.same (dv l a)))then none else some (.copy d (dv l a))
 | .op k d a b=>if l[d]? =some (some (.made k (dv l a) (dv l b)))then none else (match l.findIdx? λo=>o==some (.made k (dv l a) (dv l b))with
  |some w=>some (.copy d w)
  |none=>some (.op k d (dv l a) (dv l b)))
 | .print a=>some (.print (dv l a))
 | .cond a t=>some (.cond (dv l a) t)
 |i=>some i
theorem uc(l:HL)(v:Nat):root (toF l) v=dv l v:=by
 rw[y4];unfold dv;have key:∀y,y∈(toF l).filterMap (qZ v) ↔ l[v]? =some (some (.same y)):=λy=>yA.trans kM
 cases e:least ((toF l).filterMap (qZ v))with
 |none=>
  rw[yz]at e;rw[e]at key;show v=_;cases q:(l[v]?).bind id with
  |none=>rfl
  |some h=>
   cases h with
   |same y=>
    have:l[v]? =some (some (.same y)):=by
     cases z:l[v]? with
     |none=>rw[z]at q;cases q
     |some o=>rw[z]at q;have q:o=some (.same y):=q;rw[q]
    exact nomatch (key y).mpr this
   |made k a b=>rfl
 |some m=>have:=(key m).mp (qY.mp e).1;rw[this];rfl
theorem Oe{l:HL}{d:Nat}{h:Holds}:(toF l).contains (d,h)=true ↔ l[d]? =some (some h):=by rw[<-kM];simp
theorem Zh(l:HL)(h:Holds):least (((toF l).filter λ(f:Fact)=>f.2==h).map λ(f:Fact)=>f.1)=l.findIdx? λo=>o==some h:=by
 have key:∀x,x∈((toF l).filter λ(f:Fact)=>f.2==h).map (λ(f:Fact)=>f.1) ↔ l[x]? =some (some h):=by
  intro x;rw[d_,<-kM];constructor
  ·rintro⟨⟨d,h'⟩,hf,e⟩
   obtain⟨h1,h2⟩:=fb.mp hf;have h2:h'=h:=by simpa using h2
   have e:d=x:=e;subst h2 e;exact h1
  ·intro hm;exact⟨_,fb.mpr ⟨hm,by simp⟩,rfl⟩
 cases e:l.findIdx? λo=>o==some h with
 |none=>rw[yz,ab6];intro x hx;rw[key]at hx;have:=Gg.mp e _ (bu hx);simp at this
 |some m=>
  obtain⟨h1,h2,h3⟩:=me.mp e;rw[qY,key];have h2:l[m]=some h:=by simpa using h2
  refine⟨by rw[aN h1,h2],λx hx=>?_⟩;rw[key]at hx;by_cases q:m<=x
  ·exact q
  ·have hxl:x<l.length:=(bW.mp hx).1;have:=h3 x (by omega);rw[aN hxl]at hx;rw[cI hx]at this;simp at this
theorem rf{α:Type}{p q:Prop} [Decidable p] [Decidable q](h:p ↔ q)(a b:α):(if p then a else b)=if q then a else b:=by
 by_cases k:p
 ·rw[ai k,ai (h.mp k)]
 ·rw[ah k,ah λz=>k (h.mpr z)]
theorem ab4(l:HL)(i:Ins):shared (toF l) i=yG l i:=by
 cases i with
 |copy d a=>show(if root (toF l) a=d\/(toF l).contains (d,Holds.same (root (toF l) a))=true then none else some (Ins.copy d (root (toF l) a)))=_;rw[uc];exact rf (or_congr_right Oe) _ _
 |op k d a b=>
  show(if (toF l).contains (d,Holds.made k (root (toF l) a) (root (toF l) b))=true then none else match least (((toF l).filter λ(f:Fact)=>f.2==Holds.made k (root (toF l) a) (root (toF l) b)).map λ(f:Fact)=>f.1)with
   |some w=>some (Ins.copy d w)
   |none=>some (.op k d (root (toF l) a) (root (toF l) b)))=_
  rw[uc,uc,Zh];exact rf Oe _ _
 |print a=>show some (Ins.print (root (toF l) a))=_;rw[uc];rfl
 |cond a t=>show some (Ins.cond (root (toF l) a) t)=_;rw[uc];rfl
 |_=>rfl
theorem EB(L:List (Option Ins)):bK L 0=0:=by simp[bK]
theorem Of{L:List (Option Ins)}{q:Nat}{x:Ins}(h:L[q]? =some (some x)):bK L (q+1)=bK L q+1:=by unfold bK;rw[iB,h,rQ,bo];rfl
theorem Og{L:List (Option Ins)}{q:Nat}(h:L[q]? =some none):bK L (q+1)=bK L q:=by unfold bK;rw[iB,h,rQ,bo];rfl
theorem Oh{g:Ins->Ins}:∀{L:List (Option Ins)}{q:Nat}{x:Ins},L[q]? =some (some x)->(L.filterMap λ(x:Option Ins)=>x.map g)[bK L q]? =some (g x)
 |[],_,_,h=>(by simp at h)
 |o::L,0,x,h=>by
  have h:o=some x:=by simpa using h
  subst h;rw[EB];rfl
 |o::L,q+1,x,h=>by
  have ih:=Oh (g:=g) (L:=L) (q:=q) (x:=x) (by simpa using h);cases o with
  |none=>
   have e:bK (none::L) (q+1)=bK L q:=by simp[bK]
   rw[e];exact ih
  |some y=>
   have e:bK (some y::L) (q+1)=bK L q+1:=by simp[bK]
   rw[e];exact ih
theorem Zi{L:List (Option Ins)}{q:Nat}{x:Ins}(h:L[q]? =some (some x)):(closed L)[bK L q]? =some (sent (bK L) x):=Oh h
theorem EC:∀(L:List (Option Ins))(j:Nat),j<(L.filter λ(y:Option Ins)=>y.isSome).length->∃q x,L[q]? =some (some x)/\bK L q=j
 |[],j,h=>absurd h (by simp)
 |none::L,j,h=>by obtain⟨q,x,h1,h2⟩:=EC L j h;exact⟨q+1,x,by simpa using h1,by rw[<-h2];simp[bK]⟩
 |some y::L,0,h=>⟨0,y,rfl,EB _⟩
 |some y::L,j+1,h=>by obtain⟨q,x,h1,h2⟩:=EC L j (by simpa using h);exact⟨q+1,x,by simpa using h1,by rw[<-h2];simp[bK]⟩
theorem Zj{l:KL}{x y:Ins}{i j:Nat}(h:folded (some l) x=some y)(k:j∈mayLead i x l):j∈nexts i y:=by
 cases x with
 |num d z=>
  have h:(if knows l d=some z then none else some (Ins.num d z))=some y:=h;split at h
  ·cases h
  ·cases h;exact k
 |copy d a=>
  have h:(match knows l a with
   |some z=>if knows l d=some z then none else some (Ins.num d z)
   |none=>some (.copy d a))=some y:=h
  split at h
  ·split at h<;>cases h
   exact k
  ·cases h;exact k
 |op n d a b=>
  have h:(match knows l a,knows l b with
   |some x,some y=>if knows l d=some (reckon n x y)then none else some (.num d (reckon n x y))
   |_,_=>some (.op n d a b))=some y:=h
  split at h
  ·split at h<;>cases h
   exact k
  ·cases h;exact k
 |cond a t=>
  have h:(match knows l a with
   |some z=>if z=0 then none else some (Ins.goto t)
   |none=>some (.cond a t))=some y:=h
  rw[tT]at k;cases q:knows l a with
  |none=>rw[q]at h k;cases h;exact k
  |some z=>
   rw[q]at h k;dsimp only at h k;split at h
   ·cases h
   ·next hz=>rw[ah hz]at k;cases h;exact k
 |_=>cases h;exact k
theorem Zk{l:KL}{x:Ins}{i j:Nat}(h:folded (some l) x=none)(k:j∈mayLead i x l):j=i+1:=by
 cases x with
 |cond a t=>
  have h:(match knows l a with
   |some z=>if z=0 then none else some (Ins.goto t)
   |none=>some (.cond a t))=none:=h
  rw[tT]at k;cases q:knows l a with
  |none=>rw[q]at h;cases h
  |some z=>
   rw[q]at h k;dsimp only at h k;split at h
   ·next hz=>rw[ai hz]at k;simpa using k
   ·cases h
 |num d z=>simpa[mayLead,nexts]using k
 |copy d a=>simpa[mayLead,nexts]using k
 |op n d a b=>simpa[mayLead,nexts]using k
 |_=>cases h
theorem Zl{f:Nat->Nat}{y:Ins}{i j:Nat}(hf:f (i+1)=f i+1)(k:j∈nexts i y):f j∈nexts (f i) (sent f y):=by
 cases y with
 |goto t=>simp[nexts]at k;simp[nexts,sent,k]
 |cond a t=>
  simp[nexts]at k;rcases k with k |k
  ·simp[nexts,sent,k]
  ·simp[nexts,sent,k,hf]
 |stop=>simp[nexts]at k
 |_=>simp[nexts]at k;simp[nexts,sent,k,hf]
theorem Zn{P:Int->Prop}{n:Nat}{c:Code}(rk:∀k x y,P x->P y->P (reckon k x y))(h0:P 0)(G:GoodC P n c)(j:Nat)(hj:j<(fold n c).length):F.gt (facts (fold n c)) j≠none:=by
 obtain⟨L,eL⟩:∃L,L=c.zipIdx.map λ(x:Ins×Nat)=>folded (knownAt (known n c) x.2) x.1:=⟨_,rfl⟩
 have ef:fold n c=closed L:=by rw[eL];rfl
 have G':=(Ew rk h0 G).1;rw[ef]at hj G' ⊢;obtain⟨_,_,fs,f0,_⟩:=F.yy G'.kK;obtain⟨k1,k2,k3,k4,k5⟩:=NB (n:=n) G.bounds;have getL:∀q x,c[q]? =some x->L[q]? =some (folded (gt (known n c) q) x):=by intro q x h;rw[eL,bF,RM,h];simp;rfl
 obtain⟨R,eR⟩:∃R:Nat->Bool,R=λq=>(F.gt (facts (closed L)) (bK L q)).isSome:=⟨_,rfl⟩
 obtain⟨Y,eY⟩:∃Y:List Env,Y=(List.range (c.length+1)).map λq=>if R q=true then gt (known n c) q else none:=⟨_,rfl⟩
 have gY:∀q,q<=c.length->gt Y q=if R q=true then gt (known n c) q else none:=by intro q hq;unfold gt;rw[eY,bF,RO (by omega)];rfl
 have SY:eJ c Y:=by
  intro i x l hx hl w hw;have hi:=gT hx;rw[gY i (by omega)]at hl;by_cases ri:R i=true
  ·rw[ai ri]at hl;have hwl:=G.bounds i x l hx w hw;have rw_:R w=true:=by
    have gl:=getL i x hx;rw[hl]at gl;cases hf:folded (some l) x with
    |none=>rw[hf]at gl;rw[Zk hf hw];rw[eR]at ri ⊢;dsimp only at ri ⊢;rw[Og gl];exact ri
    |some y=>rw[hf]at gl;have hc:=Zi gl;have hn:=Zl (f:=bK L) (Of gl) (Zj hf hw);rw[eR]at ri ⊢;dsimp only at ri ⊢;obtain⟨fl,efl⟩:=rD.mp ri;obtain⟨a,ea,_⟩:=fs _ _ fl hc efl _ hn _ rfl;rw[ea];rfl
   rw[gY w hwl,ai rw_];exact k3 i x l hx hl w hw
  ·rw[ah ri]at hl;cases hl
 have Yle:∀q,le (gt Y q) (gt (cN n c) q):=by
  intro q;cases q with
  |zero=>
   have r0:R 0=true:=by rw[eR];dsimp only;rw[EB,f0];rfl
   rw[gY 0 (by omega),ai r0];exact k4 0
  |succ q=>rw[i6];exact λb e=>by cases e
 rw[Es]at hj;obtain⟨q,x,hq,eq⟩:=EC L j hj;rw[<-eq];have ud:q<c.length:=by have:=(bW.mp hq).1;rw[eL]at this;simpa using this
 have gl:=getL q c[q] (aN ud);rw[hq]at gl;have gl:=cI gl;cases hk:gt (known n c) q with
 |none=>rw[hk]at gl;cases gl
 |some l=>
  obtain⟨a,ea,_⟩:=k5 Y SY Yle q l hk;rw[gY q (by omega)]at ea;by_cases ri:R q=true
  ·intro z;rw[eR]at ri;dsimp only at ri;rw[z]at ri;cases ri
  ·rw[ah ri]at ea;cases ea
end My
namespace My
open Sz43
def mX(b m:Nat):Nat:=b-(b&&& m)
theorem Zo(v b m:Nat):(mX b m).testBit v=(b.testBit v&& !m.testBit v):=by
 have e:=Bits.Ao b (b&&& m);rw[<-Nat.and_assoc,Nat.and_self]at e;have l:mX b m=b^^^(b&&& m):=by unfold mX;omega
 rw[l,uX,jB];cases b.testBit v<;>cases m.testBit v<;>rfl
def ue(i:Ins):Nat:=(usesOf i).foldl (λb v=>b|||2^v) 0
def lW(N:List Nat)(ws:List Nat):Nat:=ws.foldl (λb w=>b|||N.getD w 0) 0
def dw(p:Nat)(i:Ins)(N:List Nat):Nat:=(match givesOf i with
 |some d=>mX (lW N (e8 p i)) (2^d)
 |none=>lW N (e8 p i))|||ue i
theorem ED(f:Nat->Nat)(v:Nat):∀(l:List Nat)(b:Nat),(l.foldl (λb x=>b|||f x) b).testBit v=true ↔ b.testBit v=true\/∃x∈l,(f x).testBit v=true
 |[],b=>by simp
 |x::l,b=>by
  rw[rN,ED f v l,rL,zm];simp only[a6];constructor
  ·rintro((h |h) |⟨y,hy,h⟩)
   ·exact .inl h
   ·exact .inr ⟨x,.inl rfl,h⟩
   ·exact .inr ⟨y,.inr hy,h⟩
  ·rintro(h |⟨y,rfl |hy,h⟩)
   ·exact .inl (.inl h)
   ·exact .inl (.inr h)
   ·exact .inr ⟨y,hy,h⟩
theorem uf{p v:Nat}{i:Ins}{N:List Nat}:(dw p i N).testBit v=true ↔ v∈usesOf i\/(givesOf i≠some v/\∃w∈nexts p i,(N.getD w 0).testBit v=true):=by
 unfold dw;rw[rL,zm,or_comm];have hu:(ue i).testBit v=true ↔ v∈usesOf i:=by unfold ue;rw[ED (λv=>2^v) v];simp[RQ]
 have hw:(lW N (e8 p i)).testBit v=true ↔ ∃w∈nexts p i,(N.getD w 0).testBit v=true:=by unfold lW;rw[ED (λw=>N.getD w 0) v];simp only[RR,pQ,false_or];exact exists_congr λw=>and_congr_left λ_=>pw
 rw[hu];refine or_congr_right ?_;cases g:givesOf i with
 |none=>dsimp only;rw[hw];simp
 |some d=>dsimp only;rw[Zo,fe,hw,RQ];simp;exact and_comm
structure gf(c:Code)(n:Nat)(N:List Nat):Prop where
 len:N.length=c.length+1
 snd:∀p v,(N.getD p 0).testBit v=true->jQ c v p
 up:∀p i v,c[p]? =some i->(N.getD p 0).testBit v=true->(dw p i N).testBit v=true
def kO(n:Nat)(N:List Nat):Nat:=(N.map λb=>2^n-b).sum
section
variable{P:Int->Prop}{n:Nat}{c:Code}
theorem Oi(G:GoodC P n c){v p:Nat}(h:jQ c v p):v<n:=by
 induction h with
 |use e hv=>exact(G _ (bu e)).us _ hv
 |pass _ _ _ _ ih=>exact ih
theorem EF{N:List Nat}{p q b:Nat}(h:p<N.length):(N.set p b).getD q 0=if q=p then b else N.getD q 0:=by
 rw[fJ,fJ];by_cases e:q=p
 ·subst e;rw[ai rfl,kR h];rfl
 ·rw[ah e,m8 (cu e)]
theorem gf.start:gf c n (List.replicate (c.length+1) 0):=by
 have z:∀p,(List.replicate (c.length+1) 0).getD p 0=0:=λp=>by rw[fJ,pM];split<;>rfl
 exact⟨rE,λp v h=>(by rw[z]at h;simp at h),λp i v _ h=>(by rw[z]at h;simp at h)⟩
theorem gf.lt(G:GoodC P n c){N:List Nat}(I:gf c n N)(p:Nat):N.getD p 0<2^n:=by
 refine Nat.lt_pow_two_of_testBit _ λv hv=>?_
 cases q:(N.getD p 0).testBit v with
 |false=>rfl
 |true=>have:=Oi G (I.snd p v q);omega
theorem gf.needs{N:List Nat}(I:gf c n N){p:Nat}{i:Ins}(hi:c[p]? =some i){v:Nat}(h:(dw p i N).testBit v=true):jQ c v p:=by
 rw[uf]at h;rcases h with h |⟨g,w,hw,h⟩
 ·exact .use hi h
 ·exact .pass hi hw g (I.snd w v h)
theorem gf.blt(G:GoodC P n c){N:List Nat}(I:gf c n N){p:Nat}{i:Ins}(hi:c[p]? =some i):dw p i N<2^n:=by
 refine Nat.lt_pow_two_of_testBit _ λv hv=>?_
 cases q:(dw p i N).testBit v with
 |false=>rfl
 |true=>have:=Oi G (I.needs hi q);omega
theorem sum_set(f:Nat->Nat):∀{N:List Nat}{p b:Nat},p<N.length->((N.set p b).map f).sum+f (N.getD p 0)=(N.map f).sum+f b
 |[],_,_,h=>absurd h (by simp)
 |y::r,0,b,_=>by show((b::r).map f).sum+f y=((y::r).map f).sum+f b;rw[bt,bt,iE,iE];omega
 |y::r,p+1,b,h=>by have ih:=sum_set f (N:=r) (p:=p) (b:=b) (by simpa using h);show((y::r.set p b).map f).sum+f (r.getD p 0)=((y::r).map f).sum+f b;rw[bt,bt,iE,iE];omega
theorem gf.step(G:GoodC P n c){N:List Nat}(I:gf c n N){p:Nat}{i:Ins}(hi:c[p]? =some i)(ne:dw p i N≠N.getD p 0):gf c n (N.set p (dw p i N))/\kO n (N.set p (dw p i N))<kO n N:=by
 have hp:p<N.length:=by have:=gT hi;have:=I.len;omega
 have grow:∀q v,(N.getD q 0).testBit v=true->((N.set p (dw p i N)).getD q 0).testBit v=true:=by
  intro q v h;rw[EF hp];split
  ·next e=>subst e;exact I.up q i v hi h
  ·exact h
 refine⟨⟨by rw[gn];exact I.len,λq v h=>?_,λq x v hx h=>?_⟩,?_⟩
 ·rw[EF hp]at h;split at h
  ·next e=>subst e;exact I.needs hi h
  ·exact I.snd q v h
 ·have mono:(dw q x N).testBit v=true->(dw q x (N.set p (dw p i N))).testBit v=true:=by
   rw[uf,uf]
   rintro(k |⟨g,w,hw,k⟩)
   ·exact .inl k
   ·exact .inr ⟨g,w,hw,grow w v k⟩
  refine mono ?_;rw[EF hp]at h;split at h
  ·next e=>subst e;rw[hi]at hx;cases hx;exact h
  ·exact I.up q x v hx h
 ·have hs:=sum_set (λb=>2^n-b) (b:=dw p i N) hp;have le:N.getD p 0<=dw p i N:=by
   have:N.getD p 0|||dw p i N=dw p i N:=pX λv=>by
    rw[rL];cases q:(N.getD p 0).testBit v with
    |false=>rfl
    |true=>rw[I.up p i v hi q];rfl
   rw[<-this];exact Nat.left_le_or
  have h1:=I.blt G hi;unfold kO;have h2:=I.lt G p;generalize N.getD p 0=y at*;generalize dw p i N=z at*;omega
theorem gf.done{N:List Nat}(I:gf c n N)(h:∀p i,c[p]? =some i->N.getD p 0=dw p i N){p v:Nat}:(N.getD p 0).testBit v=true ↔ jQ c v p:=by
 refine⟨I.snd p v,λk=>?_⟩
 induction k with
 |use e hv=>rw[h _ _ e,uf];exact .inl hv
 |pass e hj g _ ih=>rw[h _ _ e,uf];exact .inr ⟨g,_,hj,ih⟩
noncomputable def yH(b:Nat)(i:Ins):Option Ins:=match i with
 | .num d _=>if b&&& 2^d=0 then none else some i
 | .copy d _=>if b&&& 2^d=0 then none else some i
 | .op _ d _ _=>if b&&& 2^d=0 then none else some i
 |i=>some i
theorem Zp{b d:Nat}:b&&& 2^d=0 ↔ b.testBit d=false:=by
 constructor
 ·intro h;have:(b&&& 2^d).testBit d=false:=by rw[h];exact RR d
  rw[jB,Nat.testBit_two_pow_self,Gb]at this;exact this
 ·intro h;refine pX λv=>?_
  rw[jB,RQ,RR];by_cases e:d=v
  ·subst e;rw[h];rfl
  ·simp[e]
theorem Zq{b i:Nat}{x:Ins}(hb:∀v,b.testBit v=true ↔ jQ c v (i+1)):(if needless c (x,i)=true then none else some x)=yH b x:=by
 have one:∀d,nexts i x=[i+1]->((!(neededBehind c i x).contains d)=true ↔ b&&& 2^d=0):=by intro d hn;rw[Zp,Bool.not_eq_true',<-nB,<-nB,hb];refine not_congr ?_;rw[zj,YJ,hn];simp
 cases x with
 |num d z=>exact rf (one d rfl) _ _
 |copy d a=>exact rf (one d rfl) _ _
 |op k d a e=>exact rf (one d rfl) _ _
 |_=>rfl
end
structure iq(c:Code)(t:Nat)(S:List Nat)(at_:Nat):Prop where
 nd:S.Nodup
 lt:∀s∈S,s<c.length
 go:∀s∈S,∃u,c[s]? =some (.goto u)/\(u∈S\/u=at_)
 fst:t∈S\/t=at_
 le:at_<=c.length
 ends:∀u,Ends c at_ u->Ends c t u
theorem iq.round{c:Code}{t a:Nat}{S:List Nat}(hb:F.fE c)(ht:t<=c.length)(I:iq c t S a)(h:a∈S):(follow c (c.length+1) t).getD t=t:=by
 have no:∀s u,Ends c s u->s∈S->False:=by
  intro s u e
  induction e with
  |here k=>intro hs;obtain⟨u,e,_⟩:=I.go _ hs;exact k u e
  |on e _ ih=>intro hs;obtain⟨u,e2,k⟩:=I.go _ hs;rw[e]at e2;cases e2;exact ih (k.elim id λz=>z▸h)
 have:follow c (c.length+1) t=none:=(YX hb ht).mpr λ⟨u,e⟩=>no t u e (I.fst.elim id λz=>z▸h)
 rw[this];rfl
theorem iq.stop{c:Code}{t a:Nat}{S:List Nat}(hb:F.fE c)(ht:t<=c.length)(I:iq c t S a)(h:∀u,c[a]? ≠some (.goto u)):(follow c (c.length+1) t).getD t=a:=by rw[(YW hb ht).mpr (I.ends a (.here h))];rfl
theorem iq.next{c:Code}{t a u:Nat}{S:List Nat}(hb:F.fE c)(I:iq c t S a)(h:c[a]? =some (.goto u))(hn:a ∉ S):iq c t (S++[a]) u where
 nd:=by
  rw[uZ];refine⟨I.nd,by simp,λx hx y hy=>?_⟩;have:y=a:=by simpa using hy
  rintro rfl
  exact hn (this▸hx)
 lt:=λs hs=>by
  rcases bN.mp hs with k |k
  ·exact I.lt s k
  ·have:s=a:=by simpa using k
   rw[this];exact gT h
 go:=λs hs=>by
  rcases bN.mp hs with k |k
  ·obtain⟨w,e,k⟩:=I.go s k;refine⟨w,e,.inl (bN.mpr ?_)⟩;exact k.imp_right λz=>by simp[z]
  ·have:s=a:=by simpa using k
   rw[this];exact⟨u,h,.inr rfl⟩
 fst:=.inl (bN.mpr (I.fst.imp_right λz=>by simp[z]))
 le:=hb a _ h u (by simp[nexts])
 ends:=λw e=>I.ends w (.on h e)
theorem iq.start{c:Code}{t:Nat}(ht:t<=c.length):iq c t [] t:=⟨zb,λs h=>(nomatch h),λs h=>(nomatch h),.inr rfl,ht,λu e=>e⟩
theorem iq.size{c:Code}{t a:Nat}{S:List Nat}(I:iq c t S a):S.length<=c.length:=by
 have:=F.yw (m:=List.range c.length) I.nd λx hx=>pJ.mpr (I.lt x hx)
 rwa [gr]at this
structure jw(c:Code)(S W:List Nat):Prop where
 nd:S.Nodup
 le:∀s∈S,s<=c.length
 zero:0∈S
 rc:∀s∈S,s<c.length->Reach c s
 sub:∀p∈W,p∈S
 fX:∀s x,s∈S->s ∉ W->c[s]? =some x->∀j∈nexts s x,j∈S
theorem jw.start{c:Code}:jw c [0] [0]:=⟨by simp,λs h=>by simp at h;omega,by simp,λs h k=>by
 have:s=0:=by simpa using h
 subst this;exact .zero k,λp h=>h,λs x h k=>absurd h k⟩
theorem jw.done{c:Code}{S:List Nat}(I:jw c S []){j:Nat}(hj:j<c.length):j∈S ↔ (reached c).contains j=true:=by
 rw[zj,YG];refine⟨λh=>I.rc j h hj,λh=>?_⟩
 induction h with
 |zero _=>exact I.zero
 |step h1 h2 h3 h4 ih=>exact I.fX _ _ (ih (gT h2)) (by simp) h2 _ h3
structure jx(c:Code)(p:Nat)(x:Ins)(ws:List Nat)(js:List Nat)(S W:List Nat):Prop where
 nd:S.Nodup
 le:∀s∈S,s<=c.length
 zero:0∈S
 rc:∀s∈S,s<c.length->Reach c s
 sub:∀q∈W,q∈S
 fX:∀s y,s∈S->s ∉ W->s≠p->c[s]? =some y->∀j∈nexts s y,j∈S
 got:∀j∈js,j∈S
 pin:p∈S
theorem jx.start{c:Code}{p:Nat}{x:Ins}{S ws:List Nat}(I:jw c S (ws++[p])):jx c p x ws [] S ws where
 nd:=I.nd
 le:=I.le
 zero:=I.zero
 rc:=I.rc
 sub:=λq h=>I.sub q (fc _ h)
 fX:=λs y h k ne e=>I.fX s y h (λz=>(bN.mp z).elim k λz=>ne (by simpa using z)) e
 got:=λj h=>nomatch h
 pin:=I.sub p (by simp)
theorem jx.old{c:Code}{p:Nat}{x:Ins}{ws js S W:List Nat}(I:jx c p x ws js S W){w:Nat}(h:w∈S):jx c p x ws (js++[w]) S W:=⟨I.nd,I.le,I.zero,I.rc,I.sub,I.fX,λj hj=>(bN.mp hj).elim (I.got j) λz=>by
  have:j=w:=by simpa using z
  rw[this];exact h,I.pin⟩
theorem jx.new{c:Code}{p:Nat}{x:Ins}{ws js S W:List Nat}(hb:F.fE c)(hx:c[p]? =some x)(I:jx c p x ws js S W){w:Nat}(hw:w∈nexts p x)(h:w ∉ S):jx c p x ws (js++[w]) (S++[w]) (W++[w]) where
 nd:=by
  rw[uZ];refine⟨I.nd,by simp,λx hx y hy=>?_⟩;have:y=w:=by simpa using hy
  rintro rfl
  exact h (this▸hx)
 le:=λs hs=>by
  rcases bN.mp hs with k |k
  ·exact I.le s k
  ·have:s=w:=by simpa using k
   rw[this];exact hb p x hx w hw
 zero:=fc _ I.zero
 rc:=λs hs hl=>by
  rcases bN.mp hs with k |k
  ·exact I.rc s k hl
  ·have:s=w:=by simpa using k
   subst this;exact .step (I.rc p I.pin (gT hx)) hx hw hl
 sub:=λq hq=>by
  rcases bN.mp hq with k |k
  ·exact fc _ (I.sub q k)
  ·exact jz _ k
 fX:=λs y hs hn ne e j hj=>by
  rcases bN.mp hs with k |k
  ·exact fc _ (I.fX s y k (λz=>hn (fc _ z)) ne e j hj)
  ·exact absurd (jz _ k) hn
 got:=λj hj=>by
  rcases bN.mp hj with k |k
  ·exact fc _ (I.got j k)
  ·exact jz _ k
 pin:=fc _ I.pin
theorem jx.done{c:Code}{p:Nat}{x:Ins}{ws js S W:List Nat}(hx:c[p]? =some x)(hj:∀j∈nexts p x,j∈js)(I:jx c p x ws js S W):jw c S W where
 nd:=I.nd
 le:=I.le
 zero:=I.zero
 rc:=I.rc
 sub:=I.sub
 fX:=λs y h k e j h'=>by
  by_cases q:s=p
  ·subst q;rw[hx]at e;cases e;exact I.got j (hj j h')
  ·exact I.fX s y h k q e j h'
theorem jw.pop{c:Code}{S ws:List Nat}(I:jw c S (ws++[c.length])):jw c S ws where
 nd:=I.nd
 le:=I.le
 zero:=I.zero
 rc:=I.rc
 sub:=λq h=>I.sub q (fc _ h)
 fX:=λs y h k e j hj=>I.fX s y h (λz=>(bN.mp z).elim k λz=>by
  have:s=c.length:=by simpa using z
  have:=gT e;omega) e j hj
end My
namespace My
open Sz43
noncomputable def a7(v l:Nat->Bytes):Ins->List Bytes
 | .num d z=>[v d,ascii "=",decimal z]
 | .copy d a=>[v d,ascii "=",v a]
 | .op k d a b=>[v d,ascii "=",v a,ops.getD k [],v b]
 | .read d=>[v d,ascii "=",ascii "read"]
 | .print a=>[ascii "print",v a]
 | .goto t=>[ascii "goto",l t]
 | .cond a t=>[ascii "if",v a,ascii "goto",l t]
 | .stop=>[ascii "end"]
def vM(vs:List Bytes)(i:Nat):Bytes:=vs.getD i []
def lM(c:Code)(t:Nat):Bytes:=108::decimal (((targets c).findIdx? λu=>u==t).getD 0:Nat)
def d8(vs:List Bytes)(c:Code)(i:Nat):List (List Bytes):=((c[i]?).map λx=>[a7 (vM vs) (lM c) x]).getD []
def fF(vs:List Bytes)(c:Code)(i:Nat):List (List Bytes):=(if (targets c).contains i=true then [[ascii "label",lM c i]]else [])++d8 vs c i
def gg(vs:List Bytes)(c:Code):List (List Bytes):=(List.range (c.length+1)).flatMap (fF vs c)
def dh(ws:List Bytes):Bytes:=List.intercalate [32] ws++[10]
theorem FO(p:Program):p.text=(gg p.vars p.code).flatMap dh:=by
 unfold Program.text gg;rw[List.flatMap_assoc];dsimp only
 congr 1
 funext i;unfold fF d8;rw[nF]
 congr 1
 ·split
  ·simp[dh,lM]
  ·rfl
 ·cases p.code[i]? with
  |none=>rfl
  |some x=>show _=List.flatMap dh [a7 (vM p.vars) (lM p.code) x];rw[RS];cases x<;>rfl
theorem yI(f:Nat->Bool)(c:Nat)(r:Bytes):parted f (c::r)=match parted f r with
  |l::m=>if f c=true then []::l::m else (c::l)::m
  |[]=>[[c]]:=rfl
theorem EG{f:Nat->Bool}{x:Nat}(hx:f x=true){r:Bytes}:∀{a:Bytes},(∀y∈a,f y=false)->parted f (a++x::r)=a::parted f r
 |[],_=>by
  show parted f (x::r)=_;rw[yI];cases h:parted f r with
  |nil=>
   cases r with
   |nil=>cases h
   |cons y r=>
    rw[yI]at h;split at h
    ·split at h<;>cases h
    ·cases h
  |cons l m=>simp[hx]
 |y::a,h=>by
  have ih:=EG hx (r:=r) (a:=a) λz hz=>h z (bQ _ hz)
  show parted f (y::(a++x::r))=_;rw[yI,ih];simp[h y dN]
theorem Oj{f:Nat->Bool}:∀{a:Bytes},(∀y∈a,f y=false)->parted f a=[a]
 |[],_=>rfl
 |y::a,h=>by
  have ih:=Oj (f:=f) (a:=a) λz hz=>h z (bQ _ hz)
  rw[yI,ih];simp[h y dN]
def ug(k c:Nat):Bool:=c==k
theorem Ol:∀{ws:List Bytes},ws≠[]->(∀w∈ws,∀y∈w,ug 32 y=false)->parted (ug 32) (List.intercalate [32] ws)=ws
 |[],h,_=>absurd rfl h
 |[w],_,h=>by
  have e:List.intercalate [32] [w]=w:=by simp[List.intercalate,List.intersperse]
  rw[e];exact Oj (h w (by simp))
 |w::u::ws,_,h=>by
  have e:List.intercalate [32] (w::u::ws)=w++32::List.intercalate [32] (u::ws):=by simp[List.intercalate,List.intersperse]
  rw[e,EG (by decide) (h w (by simp)),Ol (by simp) λx hx=>h x (bQ _ hx)]
theorem Zr{ws:List Bytes}{y:Nat}(h:y∈List.intercalate [32] ws):y=32\/∃w∈ws,y∈w:=by
 induction ws with
 |nil=>simp[List.intercalate]at h
 |cons w ws ih=>
  cases ws with
  |nil=>
   have e:List.intercalate [32] [w]=w:=by simp[List.intercalate,List.intersperse]
   rw[e]at h;exact .inr ⟨w,by simp,h⟩
  |cons u ws=>
   have e:List.intercalate [32] (w::u::ws)=w++32::List.intercalate [32] (u::ws):=by simp[List.intercalate,List.intersperse]
   rw[e,bN,a6]at h;rcases h with h |h |h
   ·exact .inr ⟨w,by simp,h⟩
   ·exact .inl h
   ·exact(ih h).imp_right λ⟨x,hx,k⟩=>⟨x,bQ _ hx,k⟩
def pz(w:Bytes):Prop:=∀y∈w,y≠32/\y≠10
def PlainL(ws:List Bytes):Prop:=ws≠[]/\∀w∈ws,pz w
theorem EH:∀{L:List (List Bytes)},(∀ws∈L,PlainL ws)->parted (ug 10) (L.flatMap dh)=L.map (List.intercalate [32])++[[]]
 |[],_=>rfl
 |ws::L,h=>by
  have ih:=EH (L:=L) λx hx=>h x (bQ _ hx)
  rw[nG];unfold dh;rw[nE];show parted (ug 10) (List.intercalate [32] ws++10::L.flatMap dh)=_;rw[EG (by decide) λy hy=>?_,ih]
  ·rfl
  ·rcases Zr hy with e |⟨w,hw,hy⟩
   ·rw[e]
    decide
   ·exact beq_false_of_ne ((h ws (by simp)).2 w hw y hy).2
theorem Zs{L M:List (List Bytes)}(hL:∀ws∈L,PlainL ws)(hM:∀ws∈M,PlainL ws)(h:L.flatMap dh=M.flatMap dh):L=M:=by
 have e:=EH hL;rw[h,EH hM]at e;have e:=List.append_cancel_right e;have back:∀{N:List (List Bytes)},(∀ws∈N,PlainL ws)->(N.map (List.intercalate [32])).map (parted (ug 32))=N:=by
  intro N hN;rw[eQ]
  conv=>rhs;rw[<-Gh N]
  exact u7 λws hw=>Ol (hN ws hw).1 λw k y hy=>beq_false_of_ne ((hN ws hw).2 w k y hy).1
 rw[<-back hL,<-back hM,e]
def EI(l:Bytes):Nat:=l.foldl (λn c=>10*n+(c-48)) 0
theorem Om(n:Nat):EI (eK n)=n:=by
 induction n using Nat.strongRecOn with
 |ind n ih=>
  by_cases h:n<10
  ·rw[ra h];show 10*0+(48+n-48)=n;omega
  ·rw[t_ h];unfold EI;rw[zi];show 10*EI (eK (n/10))+(48+n%10-48)=n;rw[ih _ (by omega)];omega
theorem Zt(n:Nat):eK n≠[]:=by
 by_cases h:n<10
 ·rw[ra h];simp
 ·rw[t_ h];simp
theorem EJ(n:Nat):∃c r,eK n=c::r/\48<=c/\c<=57:=by
 cases h:eK n with
 |nil=>exact absurd h (Zt n)
 |cons c r=>exact⟨c,r,rfl,Oa n c (by rw[h];simp)⟩
theorem Oo(z:Int):∃c r,decimal z=c::r/\c<=57:=by
 rw[rb];split
 ·exact⟨45,_,rfl,by decide⟩
 ·obtain⟨c,r,e,h⟩:=EJ z.natAbs;exact⟨c,r,e,h.2⟩
theorem Oq(z:Int):pz (decimal z):=by
 intro y hy;rw[rb]at hy;have d:=λh=>Oa z.natAbs y h
 split at hy
 ·rcases a6.mp hy with e |e
  ·omega
  ·have:=d e;omega
 ·have:=d hy;omega
theorem Ot{a b:Int}(h:decimal a=decimal b):a=b:=by
 rw[rb,rb]at h;obtain⟨c,r,e,k⟩:=EJ a.natAbs;obtain⟨c',r',e',k'⟩:=EJ b.natAbs;have inj:eK a.natAbs=eK b.natAbs->a.natAbs=b.natAbs:=λq=>by rw[<-Om a.natAbs,q,Om]
 split at h<;>split at h
 ·have:=inj (rM h).2;omega
 ·rw[e']at h;have:=(rM h).1;omega
 ·rw[e]at h;have:=(rM h).1;omega
 ·have:=inj h;omega
structure e9(vs:List Bytes):Prop where
 nd:vs.Nodup
 nm:∀w∈vs,isName w=true
theorem Zu{w:Bytes}(h:isName w=true):∃c r,w=c::r/\97<=c:=by
 unfold isName at h;simp only[fe]at h;cases w with
 |nil=>cases h.2.1
 |cons c r=>have:letter c=true:=h.2.1;unfold letter at this;simp at this;exact⟨c,r,rfl,this.1⟩
theorem Zv{w:Bytes}(h:isName w=true):pz w:=by unfold isName at h;simp only[fe]at h;intro y hy;have:=Gc.mp h.2.2.1 y hy;unfold letter digit at this;simp at this;omega
theorem Ou{w k:Bytes}(h:isName w=true)(hk:k∈kept):w≠k:=by unfold isName at h;simp only[fe]at h;intro e;subst e;have:=h.2.2.2;simp[hk]at this
section
variable{P:Int->Prop}{n:Nat}{c d:Code}{vs:List Bytes}
theorem uh(N:e9 vs){i:Nat}(h:i<vs.length):isName (vM vs i)=true:=by unfold vM;rw[fJ,aN h];exact N.nm _ (zl h)
theorem Zw(N:e9 vs){i j:Nat}(hi:i<vs.length)(hj:j<vs.length)(h:vM vs i=vM vs j):i=j:=by unfold vM at h;rw[fJ,fJ,aN hi,aN hj]at h;exact(Rt N.nd).mp h
theorem Ov(c:Code)(t:Nat):pz (lM c t):=by
 intro y hy;unfold lM at hy;rcases a6.mp hy with e |e
 ·omega
 ·exact Oq _ y e
theorem Zx:∀k,k<12->pz (ops.getD k []):=by
 have:∀k,k<12->∀y∈ops.getD k [],y≠32/\y≠10:=by decide
 exact this
theorem Zy(N:e9 vs){m:Nat}{x:Ins}(O:i7 P vs.length m x)(l:Nat->Bytes)(hl:∀t,pz (l t)):PlainL (a7 (vM vs) l x):=by
 have pv:∀i,i<vs.length->pz (vM vs i):=λi h=>Zv (uh N h)
 have fix:∀w∈([ascii "=",ascii "read",ascii "print",ascii "goto",ascii "if",ascii "end"]:List Bytes),∀y∈w,y≠32/\y≠10:=by decide
 refine⟨by cases x<;>simp[a7],λw hw=>?_⟩;cases x with
 |num d z=>
  simp only[a7,a6,dB,dC]at hw;rcases hw with e |e |e<;>subst e
  ·exact pv d (O.gv d rfl)
  ·exact fix _ (by simp)
  ·exact Oq z
 |copy d a=>
  simp only[a7,a6,dB,dC]at hw;rcases hw with e |e |e<;>subst e
  ·exact pv d (O.gv d rfl)
  ·exact fix _ (by simp)
  ·exact pv a (O.us a (by simp[usesOf]))
 |op k d a b=>
  simp only[a7,a6,dB,dC]at hw;rcases hw with e |e |e |e |e<;>subst e
  ·exact pv d (O.gv d rfl)
  ·exact fix _ (by simp)
  ·exact pv a (O.us a (by simp[usesOf]))
  ·exact Zx k (O.op k d a b rfl)
  ·exact pv b (O.us b (by simp[usesOf]))
 |read d=>
  simp only[a7,a6,dB,dC]at hw;rcases hw with e |e |e<;>subst e
  ·exact pv d (O.gv d rfl)
  ·exact fix _ (by simp)
  ·exact fix _ (by simp)
 |print a=>
  simp only[a7,a6,dB,dC]at hw;rcases hw with e |e<;>subst e
  ·exact fix _ (by simp)
  ·exact pv a (O.us a (by simp[usesOf]))
 |goto t=>
  simp only[a7,a6,dB,dC]at hw;rcases hw with e |e<;>subst e
  ·exact fix _ (by simp)
  ·exact hl t
 |cond a t=>
  simp only[a7,a6,dB,dC]at hw;rcases hw with e |e |e |e<;>subst e
  ·exact fix _ (by simp)
  ·exact pv a (O.us a (by simp[usesOf]))
  ·exact fix _ (by simp)
  ·exact hl t
 |stop=>simp only[a7,a6,dB,dC]at hw;subst hw;exact fix _ (by simp)
theorem Ow(N:e9 vs)(G:GoodC P vs.length c):∀ws∈gg vs c,PlainL ws:=by
 intro ws hw;obtain⟨i,_,hw⟩:=zo.mp hw;rcases bN.mp hw with h |h
 ·split at h
  ·have:ws=[ascii "label",lM c i]:=by simpa using h
   subst this;refine⟨by simp,λw k=>?_⟩;simp only[a6,dB,dC]at k;rcases k with e |e<;>subst e
   ·have:∀y∈ascii "label",y≠32/\y≠10:=by decide
    exact this
   ·exact Ov c i
  ·exact nomatch h
 ·unfold d8 at h;cases hx:c[i]? with
  |none=>rw[hx]at h;exact nomatch h
  |some x=>
   rw[hx]at h;have:ws=a7 (vM vs) (lM c) x:=by simpa using h
   subst this;exact Zy N (G x (bu hx)) _ (Ov c)
def i8(ws:List Bytes):Bool:=ws.head?==some (ascii "label")
theorem Ox(N:e9 vs){m:Nat}{x:Ins}(O:i7 P vs.length m x)(l:Nat->Bytes):i8 (a7 (vM vs) l x)=false:=by
 have nl:∀i,i<vs.length->vM vs i≠ascii "label":=λi h=>Ou (uh N h) (by decide)
 unfold i8;cases x with
 |num d z=>simpa[a7]using nl d (O.gv d rfl)
 |copy d a=>simpa[a7]using nl d (O.gv d rfl)
 |op k d a b=>simpa[a7]using nl d (O.gv d rfl)
 |read d=>simpa[a7]using nl d (O.gv d rfl)
 |print a=>simp[a7];decide
 |goto t=>simp[a7];decide
 |cond a t=>simp[a7];decide
 |stop=>simp[a7];decide
theorem Oy(N:e9 vs)(G:GoodC P vs.length c)(i:Nat):(fF vs c i).filter (λws=> !i8 ws)=d8 vs c i:=by
 unfold fF;rw[rQ];have h1:(if (targets c).contains i=true then [[ascii "label",lM c i]]else []).filter (λws=> !i8 ws)=[]:=by
  split
  ·simp[i8]
  ·rfl
 rw[h1,RI];unfold d8;cases hx:c[i]? with
 |none=>rfl
 |some x=>show List.filter _ [_]=[_];have:=Ox N (G x (bu hx)) (lM c);simp[this]
theorem EK(vs:List Bytes)(c:Code):∀t,t<=c.length->(List.range t).flatMap (d8 vs c)=(c.take t).map (a7 (vM vs) (lM c))
 |0,_=>rfl
 |t+1,h=>by
  have hl:t<c.length:=h;have gx:c[t]? =some c[t]:=aN hl;rw[rO,nF,EK vs c t (by omega),iB,eU,RS]
  congr 1
  unfold d8;rw[gx];rfl
theorem Oz(N:e9 vs)(G:GoodC P vs.length c):(gg vs c).filter (λws=> !i8 ws)=c.map (a7 (vM vs) (lM c)):=by
 unfold gg;have e:∀l:List Nat,(l.flatMap (fF vs c)).filter (λws=> !i8 ws)=l.flatMap (d8 vs c):=by
  intro l
  induction l with
  |nil=>rfl
  |cons i l ih=>rw[nG,rQ,ih,Oy N G,nG]
 rw[e,rO,nF,EK vs c c.length (aI _),j0,RS];have:d8 vs c c.length=[]:=by unfold d8;rw[jA (aI _)];rfl
 rw[this,gk]
def ui(w:Bytes):List (List Bytes)->Nat
 |[]=>0
 |ws::r=>if ws=[ascii "label",w]then 0 else (if i8 ws=true then 0 else 1)+ui w r
theorem OC{w:Bytes}{r:List (List Bytes)}:∀{a:List (List Bytes)},[ascii "label",w] ∉ a->ui w (a++r)=(a.filter λws=> !i8 ws).length+ui w r
 |[],_=>(pU _).symm
 |ws::a,h=>by
  have ih:=OC (w:=w) (r:=r) (a:=a) λz=>h (bQ _ z)
  have ne:ws≠[ascii "label",w]:=λz=>h (z▸dN)
  show(if ws=[ascii "label",w]then 0 else (if i8 ws=true then 0 else 1)+ui w (a++r))=_;rw[ah ne,ih,pY];cases q:i8 ws with
  |true=>simp
  |false=>simp;omega
theorem Zz{t u:Nat}(ht:t∈targets c)(hu:u∈targets c)(h:lM c t=lM c u):t=u:=by
 unfold lM at h;have h:=Ot (rM h).2;have h:((targets c).findIdx? λx=>x==t).getD 0=((targets c).findIdx? λx=>x==u).getD 0:=by omega
 cases e:(targets c).findIdx? λx=>x==t with
 |none=>have:=Gg.mp e t ht;simp at this
 |some a=>
  cases e':(targets c).findIdx? λx=>x==u with
  |none=>have:=Gg.mp e' u hu;simp at this
  |some b=>
   rw[e,e']at h;have h:a=b:=h;subst h;obtain⟨h1,h2,_⟩:=me.mp e;obtain⟨h1',h2',_⟩:=me.mp e';have h2:(targets c)[a]=t:=by simpa using h2
   have h2':(targets c)[a]=u:=by simpa using h2'
   rw[<-h2,<-h2']
theorem OD(N:e9 vs)(G:GoodC P vs.length c){t:Nat}(ht:t∈targets c):ui (lM c t) (gg vs c)=t:=by
 have hl:=(t9.mp ht).1;obtain⟨k,e⟩:∃k,c.length+1=t+(k+1):=⟨c.length-t,by omega⟩;unfold gg;rw[e,List.range_add,nF,OC]
 ·have e1:∀l:List Nat,(l.flatMap (fF vs c)).filter (λws=> !i8 ws)=l.flatMap (d8 vs c):=by
   intro l
   induction l with
   |nil=>rfl
   |cons i l ih=>rw[nG,rQ,ih,Oy N G,nG]
  rw[e1,EK vs c t hl,aK,uP,Nat.min_eq_left hl,FW,bt,nG];have e2:fF vs c (t+0)=[ascii "label",lM c t]::d8 vs c t:=by unfold fF;rw[Nat.add_zero,ai (by simpa using ht)];rfl
  rw[e2];show t+(if _ then 0 else _)=t;rw[ai rfl];rfl
 ·intro hm;obtain⟨i,hi,hm⟩:=zo.mp hm;have hi:=pJ.mp hi;rcases bN.mp hm with h |h
  ·split at h
   ·next k=>
    have h:[ascii "label",lM c t]=[ascii "label",lM c i]:=by simpa using h
    have:lM c t=lM c i:=by simpa using h
    have:=Zz ht (by simpa using k) this;omega
   ·exact nomatch h
  ·unfold d8 at h;cases hx:c[i]? with
   |none=>rw[hx]at h;exact nomatch h
   |some x=>
    rw[hx]at h;have h:[ascii "label",lM c t]=a7 (vM vs) (lM c) x:=by simpa using h
    have:=Ox N (G x (bu hx)) (lM c);rw[<-h]at this;simp[i8]at this
theorem ZA(N:e9 vs){m m':Nat}{x y:Ins}(O:i7 P vs.length m x)(O':i7 P vs.length m' y){l l':Nat->Bytes}(hl:∀t u,tgt x=some t->tgt y=some u->l t=l' u->t=u)(h:a7 (vM vs) l x=a7 (vM vs) l' y):x=y:=by
 have vi:∀i j,i<vs.length->j<vs.length->vM vs i=vM vs j->i=j:=λi j a b e=>Zw N a b e
 have vd:∀i z,i<vs.length->vM vs i≠decimal z:=λi z hi e=>by obtain⟨a,r,e1,k1⟩:=Zu (uh N hi);obtain⟨b,r',e2,k2⟩:=Oo z;rw[e1,e2]at e;have:=(rM e).1;omega
 have vr:∀i,i<vs.length->vM vs i≠ascii "read":=λi hi=>Ou (uh N hi) (by decide)
 have rd:∀z,ascii "read" ≠decimal z:=λz e=>by obtain⟨b,r',e2,k2⟩:=Oo z;rw[e2]at e;have:=(rM e).1;have:114=b:=this;omega
 have ho:∀k,k<12->∀k',k'<12->ops.getD k []=ops.getD k' []->k=k':=by decide
 have n1:ascii "print" ≠ascii "goto":=by decide
 cases x with
 |num d z=>
  cases y with
  |num d' z'=>simp only[a7,gu]at h;rw[vi d d' (O.gv d rfl) (O'.gv d' rfl) h.1,Ot h.2.2.1]
  |copy d' a'=>simp only[a7,gu]at h;exact absurd h.2.2.1.symm (vd a' z (O'.us a' (by simp[usesOf])))
  |read d'=>simp only[a7,gu]at h;exact absurd h.2.2.1.symm (rd z)
  |_=>simp[a7]at h
 |copy d a=>
  cases y with
  |num d' z'=>simp only[a7,gu]at h;exact absurd h.2.2.1 (vd a z' (O.us a (by simp[usesOf])))
  |copy d' a'=>simp only[a7,gu]at h;rw[vi d d' (O.gv d rfl) (O'.gv d' rfl) h.1,vi a a' (O.us a (by simp[usesOf])) (O'.us a' (by simp[usesOf])) h.2.2.1]
  |read d'=>simp only[a7,gu]at h;exact absurd h.2.2.1 (vr a (O.us a (by simp[usesOf])))
  |_=>simp[a7]at h
 |op k d a b=>
  cases y with
  |op k' d' a' b'=>simp only[a7,gu]at h;rw[vi d d' (O.gv d rfl) (O'.gv d' rfl) h.1,vi a a' (O.us a (by simp[usesOf])) (O'.us a' (by simp[usesOf])) h.2.2.1,ho k (O.op _ _ _ _ rfl) k' (O'.op _ _ _ _ rfl) h.2.2.2.1,vi b b' (O.us b (by simp[usesOf])) (O'.us b' (by simp[usesOf])) h.2.2.2.2.1]
  |_=>simp[a7]at h
 |read d=>
  cases y with
  |num d' z'=>simp only[a7,gu]at h;exact absurd h.2.2.1 (rd z')
  |copy d' a'=>simp only[a7,gu]at h;exact absurd h.2.2.1.symm (vr a' (O'.us a' (by simp[usesOf])))
  |read d'=>simp only[a7,gu]at h;rw[vi d d' (O.gv d rfl) (O'.gv d' rfl) h.1]
  |_=>simp[a7]at h
 |print a=>
  cases y with
  |print a'=>simp only[a7,gu]at h;rw[vi a a' (O.us a (by simp[usesOf])) (O'.us a' (by simp[usesOf])) h.2.1]
  |goto t=>simp only[a7,gu]at h;exact absurd h.1 n1
  |_=>simp[a7]at h
 |goto t=>
  cases y with
  |print a'=>simp only[a7,gu]at h;exact absurd h.1.symm n1
  |goto u=>simp only[a7,gu]at h;rw[hl t u rfl rfl h.2.1]
  |_=>simp[a7]at h
 |cond a t=>
  cases y with
  |cond a' u=>simp only[a7,gu]at h;rw[vi a a' (O.us a (by simp[usesOf])) (O'.us a' (by simp[usesOf])) h.2.1,hl t u rfl rfl h.2.2.2.1]
  |_=>simp[a7]at h
 |stop=>
  cases y with
  |stop=>rfl
  |_=>simp[a7]at h
theorem OE{α β:Type}{f g:α->β}:∀{a b:List α},a.map f=b.map g->(∀x∈a,∀y∈b,f x=g y->x=y)->a=b
 |[],[],_,_=>rfl
 |[],_::_,h,_=>by simp at h
 |_::_,[],h,_=>by simp at h
 |x::a,y::b,h,k=>by rw[bt,bt,gu]at h;rw[k x (by simp) y (by simp) h.1,OE h.2 λu hu v hv=>k u (bQ _ hu) v (bQ _ hv)]
theorem ZC(N:e9 vs)(G:GoodC P vs.length c)(G':GoodC P vs.length d)(h:(Program.mk vs c).text=(Program.mk vs d).text):c=d:=by
 rw[FO,FO]at h;have h:=Zs (Ow N G) (Ow N G') h;have e:=Oz N G;rw[show(gg vs c)=gg vs d from h,Oz N G']at e;refine OE e.symm λx hx y hy k=>ZA N (G x hx) (G' y hy) (λt u ht hu q=>?_) k
 have tt:t∈targets c:=t9.mpr ⟨(G x hx).tg t ht,Ey.mpr ⟨x,hx,ht⟩⟩;have tu:u∈targets d:=t9.mpr ⟨(G' y hy).tg u hu,Ey.mpr ⟨y,hy,hu⟩⟩;have a:=OD N G tt;have b:=OD N G' tu;rw[show(gg vs c)=gg vs d from h,q]at a;omega
end
end My
namespace My
open Sz43
theorem ZD{w:Bytes}{z:Int}(h:numberOf w=some z): -9223372036854775808<=z/\z<9223372036854775808:=by
 have e63:(2:Nat)^63=9223372036854775808:=by decide
 unfold numberOf at h;split at h
 ·cases q:natOf _ with
  |none=>rw[q]at h;cases h
  |some n=>
   rw[q,g8,e63]at h;split at h
   ·cases h;omega
   ·cases h
 ·cases q:natOf w with
  |none=>rw[q]at h;cases h
  |some n=>
   rw[q,g8,e63]at h;split at h
   ·cases h;omega
   ·cases h
abbrev yJ(z:Int):Prop:= -9223372036854775808<=z/\z<9223372036854775808
structure OF(x:Line):Prop where
 nm:∀n∈varsOf x,isName n=true
 num:∀d z,x=.num d z->yJ z
 op:∀k d a b,x=.op k d a b->k<12
theorem OG{ws:List Bytes}{x:Line}(h:lineOf ws=some x):OF x:=by
 match ws,h with
 |[],h=>simp[lineOf]at h
 |[a],h=>
  simp only[lineOf]at h;split at h<;>cases h
  exact⟨λn k=>(nomatch k),λ_ _ e=>(by cases e),λ_ _ _ _ e=>(by cases e)⟩
 |[a,b],h=>
  simp only[lineOf]at h;split at h
  ·cases h
  ·next hb=>
   have hb:isName b=true:=by simpa using hb
   split at h
   ·cases h;exact⟨λn k=>(nomatch k),λ_ _ e=>(by cases e),λ_ _ _ _ e=>(by cases e)⟩
   ·split at h
    ·cases h;exact⟨λn k=>(nomatch k),λ_ _ e=>(by cases e),λ_ _ _ _ e=>(by cases e)⟩
    ·split at h<;>cases h
     exact⟨λn k=>by simp[varsOf]at k;rw[k];exact hb,λ_ _ e=>(by cases e),λ_ _ _ _ e=>(by cases e)⟩
 |[d',e',a],h=>
  simp only[lineOf]at h;split at h
  ·cases h
  ·next hd=>
   have hd:isName d'=true:=by
    cases q:isName d' with
    |true=>rfl
    |false=>exact absurd (.inl q) hd
   split at h
   ·cases h;exact⟨λn k=>by simp[varsOf]at k;rw[k];exact hd,λ_ _ e=>(by cases e),λ_ _ _ _ e=>(by cases e)⟩
   ·split at h
    ·rename_i z' hz
     cases h;exact⟨λn k=>by simp[varsOf]at k;rw[k];exact hd,λ_ _ e=>(by cases e;exact ZD hz),λ_ _ _ _ e=>(by cases e)⟩
    ·split at h<;>cases h
     next ha=>exact⟨λn k=>by simp[varsOf]at k;rcases k with k |k<;>rw[k]<;>assumption,λ_ _ e=>(by cases e),λ_ _ _ _ e=>(by cases e)⟩
 |[i,a,g,n],h=>
  simp only[lineOf]at h;split at h<;>cases h
  next hh=>exact⟨λn k=>by simp[varsOf]at k;rw[k];exact hh.2.1,λ_ _ e=>(by cases e),λ_ _ _ _ e=>(by cases e)⟩
 |[d',e',a,o,b],h=>
  simp only[lineOf]at h;split at h
  ·cases h
  ·next hh=>
   have nt:∀w,¬isName w=false->isName w=true:=λw h=>by simpa using h
   have h1:=nt d' λz=>hh (.inl z)
   have h2:=nt a λz=>hh (.inr (.inr (.inl z)))
   have h3:=nt b λz=>hh (.inr (.inr (.inr z)))
   cases q:ops.findIdx? (λx=>x==o)with
   |none=>rw[q]at h;cases h
   |some k=>
    rw[q]at h;cases h;refine⟨λn k=>?_,λ_ _ e=>(by cases e),λ_ _ _ _ e=>?_⟩
    ·simp[varsOf]at k;rcases k with k |k |k<;>rw[k]<;>assumption
    ·cases e;exact(me.mp q).1
 |a::b::c::d'::e'::f::r,h=>simp[lineOf]at h
structure rg(g:Got):Prop where
 mem:∀x∈g.items,∀n∈varsOf x.2,n∈g.vars
 EL:∀x∈g.items,OF x.2
 cW:∀y∈g.labels,y.2<=g.items.length
 dQ:g.items.length<=256
 d6:g.vars.length<=64
 nms:e9 g.vars
theorem ZE{x:List Bytes}(hx:∀n∈x,isName n=true):∀{vs:List Bytes},e9 vs->e9 (x.foldl aO vs):=by
 induction x with
 |nil=>exact λh=>h
 |cons n x ih=>
  intro vs h;refine ih (λm hm=>hx m (bQ _ hm)) ?_;unfold aO;split
  ·exact h
  ·next k=>
   have k:n ∉ vs:=by simpa using k
   refine⟨?_,λw hw=>?_⟩
   ·rw[uZ];refine⟨h.nd,by simp,λa ha b hb=>?_⟩;have:b=n:=by simpa using hb
    rintro rfl
    exact k (this▸ha)
   ·rcases bN.mp hw with e |e
    ·exact h.nm w e
    ·have:w=n:=by simpa using e
     rw[this];exact hx n (by simp)
theorem ZF{g g':Got}{k:Nat}{ws:List Bytes}(G:rg g)(h:put g k ws=some g'):rg g':=by
 by_cases hn:ws=[]
 ·unfold put at h;rw[ai hn]at h;cases h;exact G
 by_cases hl:ws.length=2/\ws.getD 0 []=ascii "label"
 ·have ew:ws=[ascii "label",ws.getD 1 []]:=by
   obtain⟨l2,e⟩:=hl
   match ws,l2,e with
   |[a,b],_,e=>have e:a=ascii "label":=e;rw[e];rfl
  rw[ew,MW]at h;split at h
  ·cases h
  ·cases h;refine⟨G.mem,G.EL,λy hy=>?_,G.dQ,G.d6,G.nms⟩;rcases bN.mp hy with e |e
   ·exact G.cW y e
   ·have:y=(ws.getD 1 [],g.items.length):=by simpa using e
    rw[this];exact aI _
 ·rw[MV hn hl]at h;cases q:lineOf ws with
  |none=>rw[q]at h;cases h
  |some x=>
   rw[q]at h;have h:(if 256<=g.items.length\/64<((varsOf x).foldl aO g.vars).length then none else some {g with items:=g.items++[(k,x)],vars:=(varsOf x).foldl aO g.vars})=some g':=h;split at h
   ·cases h
   ·rename_i hb
    cases h;refine⟨λy hy n hnn=>?_,λy hy=>?_,λy hy=>?_,?_,?_,ZE (OG q).nm G.nms⟩
    ·rcases bN.mp hy with e |e
     ·exact xZ (G.mem y e n hnn)
     ·have:y=(k,x):=by simpa using e
      rw[this]at hnn;exact MU hnn
    ·rcases bN.mp hy with e' |e'
     ·exact G.EL y e'
     ·have:y=(k,x):=by simpa using e'
      rw[this];exact OG q
    ·have:=G.cW y hy;show y.2<=(g.items++[(k,x)]).length;rw[bo];omega
    ·show(g.items++[(k,x)]).length<=256;rw[bo,cZ];omega
    ·show((varsOf x).foldl aO g.vars).length<=64;omega
theorem OH:∀{lines:List (List Bytes)}{g g':Got}{k:Nat},rg g->puts g k lines=.ok g'->rg g'
 |[],_,_,_,G,h=>by cases h;exact G
 |ws::r,g,g',k,G,h=>by
  rw[M_]at h;cases q:put g k ws with
  |none=>rw[q]at h;cases h
  |some g1=>rw[q]at h;exact OH (ZF G q) h
theorem ZG{v:List Bytes}{w:Bytes}(h:w∈v):seek v w<v.length:=by
 unfold seek;have:(v.findIdx? λx=>x==w).isSome=true:=by rw[zk,mf];exact⟨w,h,by simp⟩
 obtain⟨i,e⟩:=rD.mp this;rw[e];exact(me.mp e).1
theorem ZH{labs:List (Bytes×Nat)}{n:Bytes}{m:Nat}(h:∀y∈labs,y.2<=m):(place labs n).getD 0<=m:=by
 unfold place;cases q:labs.find? (λx=>x.1==n)with
 |none=>exact b9 _
 |some y=>exact h y (RP q)
theorem ZI{g:Got}(G:rg g){x:Nat×Line}(hx:x∈g.items):i7 yJ g.vars.length g.items.length (insOf g x.2):=by
 have hm:=G.mem x hx;have O:=G.EL x hx;have sk:∀n,n∈varsOf x.2->seek g.vars n<g.vars.length:=λn h=>ZG (hm n h)
 have pl:∀n,(place g.labels n).getD 0<=g.items.length:=λn=>ZH G.cW
 cases q:x.2 with
 |label n=>exact⟨λv h=>(by cases h),λd h=>(by cases h),λd z h=>(by cases h),λ_ _ _ _ e=>(by cases e),λ_ e=>(by cases e)⟩
 |num d z=>rw[q]at sk;exact Et (sk d (by simp[varsOf])) (O.num d z q)
 |copy d a=>rw[q]at sk;exact Eu (sk d (by simp[varsOf])) (sk a (by simp[varsOf]))
 |op k d a b=>rw[q]at sk;have h1:=sk a (by simp[varsOf]);have h2:=sk b (by simp[varsOf]);exact⟨λv h=>(by simp[insOf,usesOf]at h;omega),λd' h=>(by cases h;exact sk d (by simp[varsOf])),λd' z' h=>(by cases h),λ_ _ _ _ e=>(by cases e;exact O.op _ _ _ _ q),λ_ e=>(by cases e)⟩
 |read d=>rw[q]at sk;exact⟨λv h=>(by cases h),λd' h=>(by cases h;exact sk d (by simp[varsOf])),λd' z' h=>(by cases h),λ_ _ _ _ e=>(by cases e),λ_ e=>(by cases e)⟩
 |print a=>rw[q]at sk;have h1:=sk a (by simp[varsOf]);exact⟨λv h=>(by simp[insOf,usesOf]at h;omega),λd' h=>(by cases h),λd' z' h=>(by cases h),λ_ _ _ _ e=>(by cases e),λ_ e=>(by cases e)⟩
 |goto n=>exact⟨λv h=>(by cases h),λd' h=>(by cases h),λd' z' h=>(by cases h),λ_ _ _ _ e=>(by cases e),λ_ e=>(by cases e;exact pl n)⟩
 |cond a n=>rw[q]at sk;have h1:=sk a (by simp[varsOf]);exact⟨λv h=>(by simp[insOf,usesOf]at h;omega),λd' h=>(by cases h),λd' z' h=>(by cases h),λ_ _ _ _ e=>(by cases e),λ_ e=>(by cases e;exact pl n)⟩
 |stop=>exact⟨λv h=>(by cases h),λd h=>(by cases h),λd z h=>(by cases h),λ_ _ _ _ e=>(by cases e),λ_ e=>(by cases e)⟩
theorem ZJ{t:Bytes}{p:Program}(h:parse t=.ok p):GoodC yJ p.vars.length p.code/\e9 p.vars/\p.code.length<=256/\p.vars.length<=64:=by
 rw[Rp]at h;cases q:puts ⟨[],[],[]⟩ 1 ((parted (λ(c:Nat)=>c==10) t).map words)with
 |error k=>rw[q]at h;cases h
 |ok g=>
  rw[q]at h;have G:rg g:=OH ⟨λ_ h=>absurd h (by simp),λ_ h=>absurd h (by simp),λ_ h=>absurd h (by simp),b9 _,b9 _,⟨zb,λ_ h=>absurd h (by simp)⟩⟩ q;cases f:(cH g.items).find? (λx=>(place g.labels x.2.1).isNone)with
  |some x=>have h:(match (cH g.items).find? (λx=>(place g.labels x.2.1).isNone)with |some x=>Except.error x.2.2 |none=>Except.ok ⟨g.vars,g.items.map λ(x:Nat×Line)=>insOf g x.2⟩)=Except.ok p:=h;rw[f]at h;cases h
  |none=>
   have h:(match (cH g.items).find? (λx=>(place g.labels x.2.1).isNone)with |some x=>Except.error x.2.2 |none=>Except.ok ⟨g.vars,g.items.map λ(x:Nat×Line)=>insOf g x.2⟩)=Except.ok p:=h;rw[f]at h;cases h;refine⟨λi hi=>?_,G.nms,?_,G.d6⟩
   ·obtain⟨y,hy,rfl⟩:=d_.mp hi;rw[aK];exact ZI G hy
   ·show(g.items.map _).length<=256;rw[aK];exact G.dQ
end My
namespace My
open PySem L2
def e_(l:KL):List V:=l.map di
theorem ZK(l:KL):(e_ l).length=l.length:=aK _
theorem uj{l:KL}{i:Nat}(h:i<l.length):(e_ l)[i]? =some (di (knows l i)):=by unfold e_ knows;rw[bF,aN h];rfl
theorem EM(x:Option Int):iQ (di x)=true:=by cases x<;>rfl
inductive OI(t:Ad)(vs:List V)(H:Hp)(Q:VK)(e0:XK):Prop
 |mk (a kp:Addr) (i:Ins) (pl:V) (l:KL):vs=[.ref a,.ref kp]->dF t H a i pl->H kp=some (.lst (e_ l))->(givesOf i).isSome=true->((∀v∈usesOf i,v<l.length))->AllP aV l->(∀H',ae H H'->Q (di (iZ i l)) H')->OI t vs H Q e0
theorem OJ{te:TE}{g:TG}{D:L2.Ends}{σ:St}{H:Hp}(h:te σ H λx H1=>g x σ H1 D.nx):vn te g D σ H:=h
section
variable{P:Program}{w:World}{K:ax}{mg:Str->Option Value}{base:Heap}{t:Ad}
theorem OK:aQ ["instruction","known","numbers","variable"] ["instruction","known"] (aC Az):=aS
theorem OL(T:Txt K mg t):aG P w K mg base aR 4 t.A4 t.Ce ["instruction","known"] (OI t):=by
 refine T.s_.ok OK (λvs H Q E h=>?_) (λ_ A _ s H vs Q E hr h=>?_)
 ·obtain⟨_,_,_,_,_,rfl,_⟩:=h;rfl
 ·obtain⟨a,kp,i,pl,l,rfl,hI,hk,hg,eV,hP,k⟩:=h;have nd:=OK.nd;refine⟨_,aq (aU (aX bP (aE (pv 0) rfl) bJ (aY _)) (ak (aB (aE (pv 0) rfl))) aW)
   (aq (aU (aX bP (aE (pv 0) rfl) bJ (aY _)) (ak (aB fh)) aW)
   (aq (my (i:=2) (own:=[("variable",3)]) rfl nd rfl rfl rfl (lh (aE (pv 0) rfl)) ?b1 (λs H C cl fp=>bD (i:=3) nd rfl (Or.inl rfl)) (λs H C cl fp=>eF) (λs H C cl fp=>bc (r:=nW K) bA (pv 1) (pv 3) (λ_ _=>rfl)))
   (aq (aU (aX zS fh (pv 2) (by with_unfolding_all rfl)) (ak (aB fh)) aW)
   (aq (aU (aX bP (aE (pv 0) rfl) bJ (aY _)) (ak (aB (bc bA (pv 2) aL (λ_ _=>rfl)))) aW)
   (ak (aB (aP (Xr T) hr rfl T.KE T.xb.kp (Wa T) .nil aH (aa (aE (pv 0) rfl) (aa (bc bA (pv 2) aL (λ_ _=>rfl)) (aa (bc bA (pv 2) aL (λ_ _=>rfl)) af)))))))))),?_⟩
  ·show c9 ["instruction","known","numbers","variable"] (aC Az) _ _;exact⟨rfl,by decide+kernel,by decide+kernel,by decide+kernel,by decide+kernel⟩
  ·obtain⟨dx,u,op,ha,hu,hop⟩:=hI;have cl:=T.cS;have comp:∀(Qn:VK)(us:List Nat),H u=some (.tup (iw us))->(∀v∈us,v<l.length)->us.length<=10->(∀D H1,ae H H1->H1 D=some (.lst (us.map λv=>di (knows l v)))->Qn (.ref D) H1)->
     sy (GF K (nQ K (dS 0) "used")) (c6 3) vJ (gG (nW K) (dS 1) (dS 3)) [3] [some (.ref a),some (.ref kp),none,none] H Qn:=by
    intro Qn us hu hb hl kk;refine⟨_,rfl,a,_,dx,_,_,rfl,ha,cl,T.fO,gO,u,rfl,⟨_,a8.of hu⟩,λD hD=>?_⟩;refine lH (xs:=iw us) (λv=>match v with | .int z=>di (knows l z.toNat) |v=>v) hD (by rw[bG,bg];omega) (λH2 s2=>qA (s2.oe (a8.of hu))) (λy=>rfl) ?_ ?_
    ·intro i y H2 hy s2 Q' k';obtain⟨c,hc,rfl⟩:=ky hy;exact⟨_,rfl,_,rfl,kp,_,_,_,rfl,rfl,aj.of (s2 _ _ hk),bq (uj (hb c (bu hc))),k' H2 (ae.refl _)⟩
    ·intro H2 s2 hL2;refine kk D H2 s2 (hL2.trans ?_);unfold iw;rw[eQ];rfl
   cases i with
   |num d z=>refine⟨_,rfl,a,_,dx,_,_,rfl,ha,cl,T.bH,bL,rfl,_,rfl,?_⟩;refine aD ?_;exact⟨_,rfl,a,_,dx,_,_,rfl,ha,cl,T.xN,Mx,k H (ae.refl H)⟩
   |read d=>refine⟨_,rfl,a,_,dx,_,_,rfl,ha,cl,T.bH,bL,rfl,_,rfl,?_⟩;refine aA ?_;refine⟨_,rfl,a,_,dx,_,_,rfl,ha,cl,T.bH,bL,rfl,_,rfl,?_⟩;refine aD ?_;exact k H (ae.refl H)
   |copy d v=>
    refine⟨_,rfl,a,_,dx,_,_,rfl,ha,cl,T.bH,bL,rfl,_,rfl,?_⟩;refine aA ?_;refine⟨_,rfl,a,_,dx,_,_,rfl,ha,cl,T.bH,bL,rfl,_,rfl,?_⟩;refine aA ?_;dsimp only[vk];refine dW (OJ ?_);refine comp _ [v] hu eV (by show 1<=10;decide) λD H1 s1 hL=>?_
    have hL:H1 D=some (.lst [di (knows l v)]):=hL;have ha1:=s1 _ _ ha;refine⟨_,rfl,D,_,rfl,.inl (aj.of hL),rfl,(by show(iQ (di (knows l v))&&true)=true;rw[EM];rfl),_,rfl,?_⟩;have eg:iZ (.copy d v) l=knows l v:=rfl;rw[eg]at k;cases hz:knows l v with
    |none=>rw[hz]at k hL;refine aD ?_;exact k H1 s1
    |some z=>rw[hz]at k hL;refine aA ?_;refine⟨_,rfl,a,_,dx,_,_,rfl,ha1,cl,T.bH,bL,rfl,_,rfl,?_⟩;refine aD ?_;exact⟨_,rfl,D,_,_,_,rfl,rfl,aj.of hL,bq (j:=0) rfl,k H1 s1⟩
   |op n d v v'=>
    obtain⟨h12,q,eq,hq⟩:=hop;subst eq;refine⟨_,rfl,a,_,dx,_,_,rfl,ha,cl,T.bH,bL,rfl,_,rfl,?_⟩;refine aA ?_;refine⟨_,rfl,a,_,dx,_,_,rfl,ha,cl,T.bH,bL,rfl,_,rfl,?_⟩;refine aA ?_;dsimp only[vk];refine dW (OJ ?_);refine comp _ [v,v'] hu eV (by show 2<=10;decide) λD H1 s1 hL=>?_
    have hL:H1 D=some (.lst [di (knows l v),di (knows l v')]):=hL;have ha1:=s1 _ _ ha;refine⟨_,rfl,D,_,rfl,.inl (aj.of hL),rfl,(by show(iQ (di (knows l v))&&(iQ (di (knows l v'))&&true))=true;rw[EM,EM];rfl),_,rfl,?_⟩;rw[tR]at k;have i64:∀v z,knows l v=some z->aV z:=λv z e=>by
     unfold knows at e;cases hv:l[v]? with
     |none=>rw[hv]at e;cases e
     |some x=>rw[hv]at e;have e:x=some z:=e;exact hP z (by rw[<-e];exact bu hv)
    cases hz:knows l v with
    |none=>rw[hz]at k;refine aD ?_;exact k H1 s1
    |some z=>
     rw[hz]at k hL;cases hz':knows l v' with
     |none=>rw[hz']at k;refine aD ?_;exact k H1 s1
     |some z'=>rw[hz']at k hL;refine aA ?_;refine⟨_,rfl,a,_,dx,_,_,rfl,ha1,cl,T.bH,bL,rfl,_,rfl,?_⟩;refine aA ?_;exact⟨_,rfl,a,_,dx,_,_,rfl,ha1,cl,T.mJ,qP,_,rfl,D,_,_,_,rfl,rfl,aj.of hL,bq (j:=0) rfl,_,rfl,D,_,_,_,rfl,rfl,aj.of hL,bq (j:=1) rfl,q,n,z,z',rfl,h12,s1 _ _ hq,i64 v z hz,i64 v' z' hz',k H1 s1⟩
   |_=>cases hg
end
end My
namespace My
open PySem L2
noncomputable def g4{α:Type}(n:α):List α->List α->List α
 |[a,b,c],[d]=>[a,b,c,n,n,n,d]
 |_,_=>[]
noncomputable def g5{α:Type}(n:α):List α->List α->List α
 |[a,b,c],[d,e,f]=>[a,b,c,d,n,e,f]
 |_,_=>[]
noncomputable def yK:Ins->List Nat->Ins
 | .copy d _,[a]=>.copy d a
 | .op k d _ _,[a,b]=>.op k d a b
 | .print _,[a]=>.print a
 | .cond _ t,[a]=>.cond a t
 |i,_=>i
inductive OM(t:Ad)(vs:List V)(H:Hp)(Q:VK)(e0:XK):Prop
 |mk (a:Addr) (i:Ins) (n:Nat):vs=[.ref a,.int (n:Int)]->IA t H a i->(tgt i).isSome=true->(∀b H',ae H H'->IA t H' b (sent (λ_=>n) i)->Q (.ref b) H')->OM t vs H Q e0
inductive ON(t:Ad)(vs:List V)(H:Hp)(Q:VK)(e0:XK):Prop
 |mk (a u:Addr) (i:Ins) (us:List Nat):vs=[.ref a,.ref u]->IA t H a i->H u=some (.tup (iw us))->us.length=(usesOf i).length->us≠[]->(∀b H',ae H H'->IA t H' b (yK i us)->Q (.ref b) H')->ON t vs H Q e0
inductive OO(t:Ad)(vs:List V)(H:Hp)(Q:VK)(e0:XK):Prop
 |mk (a:Addr) (i:Ins):vs=[.ref a]->IA t H a i->Q (.bl (F.fY i)) H->OO t vs H Q e0
inductive OP(t:Ad)(vs:List V)(H:Hp)(Q:VK)(e0:XK):Prop
 |mk (p:Nat) (a:Addr) (i:Ins):vs=[.int (p:Int),.ref a]->IA t H a i->(∀D H',ae H H'->H D=none->H' D=some (.lst (iw (e8 p i)))->Q (.ref D) H')->OP t vs H Q e0
section
variable{P:Program}{w:World}{K:ax}{mg:Str->Option Value}{base:Heap}{t:Ad}
theorem OQ(T:Txt K mg t):nU K t.lJ kD ["place"] (g4 .none) (g4 .au):=by
 obtain⟨oc,od,kV,doc,pm,an,cdv,ct,osl,e,lk,hcd⟩:=T.mI;obtain⟨o,n,ho,hs⟩:=T.oM;rw[e];refine⟨λs us ws X hl=>?_,λ{vs us zs ws} r q=>?_⟩
 ·match us,ws,hl with
  |[x,y,z],[u],_=>exact uY X rfl ho hs rfl rfl
 ·cases r with
  |nil=>exact .nil
  |cons r1 r=>cases r with
   |nil=>exact .nil
   |cons r2 r=>cases r with
    |nil=>exact .nil
    |cons r3 r=>cases r with
     |cons r4 r=>exact .nil
     |nil=>cases q with
      |nil=>exact .nil
      |cons q1 q=>cases q with
       |cons q2 q=>exact .nil
       |nil=>exact .cons r1 (.cons r2 (.cons r3 (.cons rfl (.cons rfl (.cons rfl (.cons q1 .nil))))))
theorem ZL(T:Txt K mg t):nU K t.lJ kD ["given","operator","place"] (g5 .none) (g5 .au):=by
 obtain⟨oc,od,kV,doc,pm,an,cdv,ct,osl,e,lk,hcd⟩:=T.mI;obtain⟨o,n,ho,hs⟩:=T.oM;rw[e];refine⟨λs us ws X hl=>?_,λ{vs us zs ws} r q=>?_⟩
 ·match us,ws,hl with
  |[x,y,z],[u,v,v'],_=>exact uY X rfl ho hs rfl rfl
 ·cases r with
  |nil=>exact .nil
  |cons r1 r=>cases r with
   |nil=>exact .nil
   |cons r2 r=>cases r with
    |nil=>exact .nil
    |cons r3 r=>cases r with
     |cons r4 r=>exact .nil
     |nil=>cases q with
      |nil=>exact .nil
      |cons q1 q=>cases q with
       |nil=>exact .nil
       |cons q2 q=>cases q with
        |nil=>exact .nil
        |cons q3 q=>cases q with
         |cons q4 q=>exact .nil
         |nil=>exact .cons r1 (.cons r2 (.cons r3 (.cons q1 (.cons rfl (.cons q2 (.cons q3 .nil))))))
theorem ZM:aQ ["instruction","place"] ["instruction","place"] (aC Jq):=aS
theorem OS(T:Txt K mg t):aG P w K mg base aR 3 t.AU t.BQ ["instruction","place"] (OM t):=by
 refine T.sZ.ok ZM (λvs H Q E h=>?_) (λ_ A _ s H vs Q E hr h=>?_)
 ·obtain⟨_,_,_,rfl,_⟩:=h;rfl
 ·obtain⟨a,i,n,rfl,hI,ht,k⟩:=h;refine⟨_,ak (aB (lG T.ie (iX T) hr rfl T.ic (OQ T) aH (aa (aE (pv 0) rfl) (aa (aE (pv 0) rfl) af)) (h_ (pv 1) lA))),?_⟩;obtain⟨dx,u,op,ha,hu,hop⟩:=id hI;have cl:=T.cS;refine⟨_,rfl,a,_,dx,_,_,rfl,ha,cl,T.bH,bL,_,rfl,a,_,dx,_,_,rfl,ha,cl,T.fO,gO,_,rfl,?_⟩;intro x da nx cP ij;refine⟨x,da,_,_,_,_,_,_,rfl,aw,λH' h1 h2=>⟨rfl,?_⟩⟩;have s5:=gQ nx cP h2;cases i with
  |goto v=>exact k x H' s5 ⟨da,u,.au,h1,s5 _ _ hu,rfl⟩
  |cond v v'=>exact k x H' s5 ⟨da,u,.au,h1,s5 _ _ hu,rfl⟩
  |_=>cases ht
theorem OT:aQ ["instruction","used","given"] ["instruction","used"] (aC Jr):=aS
theorem ZN(T:Txt K mg t):aG P w K mg base aR 3 t.AV t.BR ["instruction","used"] (ON t):=by
 refine T.wX.ok OT (λvs H Q E h=>?_) (λ_ A _ s H vs Q E hr h=>?_)
 ·obtain⟨_,_,_,_,rfl,_⟩:=h;rfl
 ·obtain⟨a,u',i,us,rfl,hI,d7,hl,hne,k⟩:=h;have nd:=OT.nd;refine⟨_,aq (aZ (i:=2) nd rfl (Or.inl rfl) (aE (pv 0) rfl))
   (ak (aB (lG T.ie (iX T) hr rfl T.ic (ZL T) aH (aa (aE (pv 0) rfl) (aa (pv 1) af)) (h_ (pv 2) (h_ (aE (pv 0) rfl) (h_ (aE (pv 0) rfl) lA)))))),?_⟩
  obtain⟨dx,u,op,ha,hu,hop⟩:=id hI;have cl:=T.cS;refine⟨_,rfl,a,_,dx,_,_,rfl,ha,cl,T.cO,c7,?_⟩;refine⟨_,rfl,a,_,dx,_,_,rfl,ha,cl,T.bH,bL,_,rfl,_,rfl,_,rfl,a,_,dx,_,_,rfl,ha,cl,T.mJ,qP,_,rfl,a,_,dx,_,_,rfl,ha,cl,T.fv,gN,?_⟩;intro x da nx cP ij;refine⟨x,da,_,_,_,_,_,_,rfl,aw,λH' h1 h2=>⟨rfl,?_⟩⟩;have s5:=gQ nx cP h2;cases i with
  |copy d v=>
   match us,hl with
   |[y],_=>exact k x H' s5 ⟨da,u',op,h1,s5 _ _ d7,hop⟩
  |print v=>
   match us,hl with
   |[y],_=>exact k x H' s5 ⟨da,u',op,h1,s5 _ _ d7,hop⟩
  |cond v v'=>
   match us,hl with
   |[y],_=>exact k x H' s5 ⟨da,u',op,h1,s5 _ _ d7,hop⟩
  |op n d v v'=>
   match us,hl with
   |[y,y'],_=>obtain⟨h12,q,eq,hq⟩:=hop;exact k x H' s5 ⟨da,u',op,h1,s5 _ _ d7,h12,q,eq,s5 _ _ hq⟩
  |_=>
   match us,hl with
   |[],_=>exact absurd rfl hne
theorem ZO:aQ ["instruction"] ["instruction"] (aC Jn):=aS
theorem OU(T:Txt K mg t):aG P w K mg base aR 1 t.AQ t.BL ["instruction"] (OO t):=by
 refine T.sY.ok ZO (λvs H Q E h=>?_) (λ_ A _ s H vs Q E hr h=>?_)
 ·obtain⟨_,_,rfl,_⟩:=h;rfl
 ·obtain⟨a,i,rfl,hI,k⟩:=h;refine⟨_,ak (aB (Su (qm bP (aE (pv 0) rfl) bJ (aY _)) (Gv (qm bP (bc kf (aE (pv 0) rfl) aL (λ_ _=>rfl)) (aE (pv 0) rfl) (aY _))))),?_⟩;obtain⟨dx,u,op,ha,hu,hop⟩:=id hI;have cl:=T.cS;refine⟨_,rfl,a,_,dx,_,_,rfl,ha,cl,T.bH,bL,rfl,_,rfl,?_⟩;cases i with
  |copy d v=>
   refine aD ?_;refine⟨_,rfl,a,_,dx,_,_,rfl,ha,cl,T.fO,gO,_,_,_,_,rfl,rfl,a8.of hu,bq (j:=0) rfl,_,rfl,a,_,dx,_,_,rfl,ha,cl,T.cO,c7,rfl,?_⟩;have e:F.fY (.copy d v)=decide (V.int (v:Int)=V.int (d:Int)):=by rw[d5,f9];simp[F.fY];exact eq_comm
   rw[e]at k;exact k
  |_=>exact aA k
theorem ZP:aQ ["place","instruction"] ["place","instruction"] (aC Jl):=aS
theorem yL(T:Txt K mg t):aG P w K mg base aR 1 t.AL t.BH ["place","instruction"] (OP t):=by
 refine T.oJ.ok ZP (λvs H Q E h=>?_) (λ_ A _ s H vs Q E hr h=>?_)
 ·obtain⟨_,_,_,rfl,_⟩:=h;rfl
 ·obtain⟨p,a,i,rfl,hI,k⟩:=h;refine⟨_,aq (aU (aX bP (aE (pv 1) rfl) bJ (aY _)) (ak (aB (cD af))) aW) (aq (aU (aX bP (aE (pv 1) rfl) bJ (aY _)) (ak (aB (cD (aa (aE (pv 1) rfl) af)))) aW) (aq (aU (aX bP (aE (pv 1) rfl) bJ (aY _)) (ak (aB (cD (aa (bU ji (pv 0) aL) (aa (aE (pv 1) rfl) af))))) aW) (ak (aB (cD (aa (bU ji (pv 0) aL) af)))))),?_⟩
  obtain⟨dx,u,op,ha,hu,hop⟩:=id hI;have cl:=T.cS;have yM:V.int ((p:Int)+1)=V.int ((p+1:Nat):Int):=by rw[RL];rfl
  refine⟨_,rfl,a,_,dx,_,_,rfl,ha,cl,T.bH,bL,rfl,_,rfl,?_⟩;cases i with
  |stop=>refine aD ?_;exact⟨b9 _,λD hD=>k D _ (ae.new hD) hD aw⟩
  |goto u=>refine aA ?_;refine⟨_,rfl,a,_,dx,_,_,rfl,ha,cl,T.bH,bL,rfl,_,rfl,?_⟩;refine aD ?_;exact⟨_,rfl,a,_,dx,_,_,rfl,ha,cl,T.fv,gN,(by show 1<=sizeLine;decide),λD hD=>k D _ (ae.new hD) hD aw⟩
  |cond v u=>refine aA ?_;refine⟨_,rfl,a,_,dx,_,_,rfl,ha,cl,T.bH,bL,rfl,_,rfl,?_⟩;refine aA ?_;refine⟨_,rfl,a,_,dx,_,_,rfl,ha,cl,T.bH,bL,rfl,_,rfl,?_⟩;refine aD ?_;refine⟨_,rfl,_,_,rfl,rfl,_,rfl,a,_,dx,_,_,rfl,ha,cl,T.fv,gN,(by show 2<=sizeLine;decide),λD hD=>?_⟩;rw[yM];exact k D _ (ae.new hD) hD aw
  |_=>refine aA ?_;refine⟨_,rfl,a,_,dx,_,_,rfl,ha,cl,T.bH,bL,rfl,_,rfl,?_⟩;refine aA ?_;refine⟨_,rfl,a,_,dx,_,_,rfl,ha,cl,T.bH,bL,rfl,_,rfl,?_⟩;refine aA ?_;refine⟨_,rfl,_,_,rfl,rfl,(by show 1<=sizeLine;decide),λD hD=>?_⟩;rw[yM];exact k D _ (ae.new hD) hD aw
end
end My
namespace My
open PySem L2
structure Kd(K:ax)(α:Type) [DecidableEq α] where
 at_:Hp->V->α->Prop
 nl:∀{H H' v a},at_ H v a->NL H H'->at_ H' v a
 dat:α->PyData
 dp:∀{H v a},at_ H v a->Dp K H v (dat a)
 ok:α->Prop
 yN:∀{H v a},at_ H v a->ok a
 eqv:∀{a b},ok a->ok b->PyData.eqv (dat a) (dat b)=decide (a=b)
 EN:∀a,PyData.eqv (dat a) .none=false
 EO:∀a,PyData.eqv .none (dat a)=false
 lay:∀a,(dat a).canLay0=true
 dep:∀a,(dat a).depth<=8
section
variable{K:ax}{α:Type} [DecidableEq α](D:Kd K α)
def OA(H:Hp)(v:V):Option α->Prop
 |none=>v=.au
 |some a=>D.at_ H v a
def b7:Option α->PyData
 |none=>.none
 |some a=>D.dat a
def pA:Option α->Prop
 |none=>True
 |some a=>D.ok a
def LA(H:Hp)(p:Addr)(l:LL α):Prop:=∃vs,H p=some (.lst vs)/\Paired (λo v=>OA D H v o) l vs
def dI(H:Hp)(v:V):EE α->Prop
 |none=>v=.au
 |some l=>∃p,v=.ref p/\LA D H p l
def yO:EE α->PyData
 |none=>.none
 |some l=>.list (l.map (b7 D))
variable{D}
theorem OA.nl{H H':Hp}{v:V}{o:Option α}(h:OA D H v o)(k:NL H H'):OA D H' v o:=by
 cases o with
 |none=>exact h
 |some a=>exact D.nl h k
theorem OA.dp{H:Hp}{v:V}{o:Option α}(h:OA D H v o):Dp K H v (b7 D o):=by
 cases o with
 |none=>have h:v=.au:=h;rw[h];exact .au
 |some a=>exact D.dp h
theorem OA.ok{H:Hp}{v:V}{o:Option α}(h:OA D H v o):pA D o:=by
 cases o with
 |none=>trivial
 |some a=>exact D.yN h
theorem yP{x y:Option α}(hx:pA D x)(hy:pA D y):PyData.eqv (b7 D x) (b7 D y)=decide (x=y):=by
 cases x with
 |none=>
  cases y with
  |none=>rfl
  |some b=>exact D.EO b
 |some a=>
  cases y with
  |none=>exact D.EN a
  |some b=>show PyData.eqv (D.dat a) (D.dat b)=_;rw[D.eqv hx hy,f9];simp
theorem OV(o:Option α):(b7 D o).canLay0=true:=by
 cases o with
 |none=>rfl
 |some a=>exact D.lay a
theorem OW(o:Option α):(b7 D o).depth<=8:=by
 cases o with
 |none=>exact F8 (show PyData.depth .none<9 by unfold PyData.depth;omega)
 |some a=>exact D.dep a
theorem uk(o:Option α):SeqAt.shaped (b7 D o)=true:=by unfold SeqAt.shaped;rw[fe];have:=OW (D:=D) o;exact⟨OV o,bx (by omega)⟩
theorem OX:∀{a b:LL α},(∀x∈a,pA D x)->(∀x∈b,pA D x)->PyData.eqvAll (a.map (b7 D)) (b.map (b7 D))=decide (a=b)
 |[],[],_,_=>rfl
 |[],_::_,_,_=>rfl
 |_::_,[],_,_=>rfl
 |x::a,y::b,ha,hb=>by show(PyData.eqv (b7 D x) (b7 D y)&&PyData.eqvAll (a.map (b7 D)) (b.map (b7 D)))=_;rw[yP (ha x (by simp)) (hb y (by simp)),OX (λz h=>ha z (bQ _ h)) λz h=>hb z (bQ _ h),f9];simp
theorem OY:∀l:LL α,PyData.canLayAll0 (l.map (b7 D))=true
 |[]=>rfl
 |x::r=>by show((b7 D x).canLay0&&PyData.canLayAll0 (r.map (b7 D)))=true;rw[OV,OY r];rfl
theorem OZ:∀l:LL α,PyData.depthAll (l.map (b7 D))<=8
 |[]=>by show PyData.depthAll []<=8;exact F8 (show PyData.depthAll []<9 by unfold PyData.depthAll;omega)
 |x::r=>by have h1:=OZ r;have h2:=OW (D:=D) x;show max (b7 D x).depth (PyData.depthAll (r.map (b7 D)))<=8;omega
theorem O1(e:EE α):SeqAt.shaped (yO D e)=true:=by
 unfold SeqAt.shaped;rw[fe];cases e with
 |none=>exact⟨rfl,bx (show PyData.depth .none<=64 by decide)⟩
 |some l=>have:=OZ (D:=D) l;refine⟨OY l,bx ?_⟩;show PyData.depthAll _+1<=64;omega
theorem ER{H:Hp}{l:LL α}{vs:List V}(h:Paired (λo v=>OA D H v o) l vs):jJ K H vs (l.map (b7 D)):=by
 induction h with
 |nil=>exact .nil
 |cons r _ ih=>exact .cons r.dp ih
theorem ES{H:Hp}{l:LL α}{vs:List V}(h:Paired (λo v=>OA D H v o) l vs):∀x∈l,pA D x:=by
 induction h with
 |nil=>intro x hx;cases hx
 |cons r _ ih=>
  intro x hx;rcases a6.mp hx with e |e
  ·rw[e];exact r.ok
  ·exact ih x e
theorem dI.dp{H:Hp}{v:V}{e:EE α}(h:dI D H v e):Dp K H v (yO D e):=by
 cases e with
 |none=>have h:v=.au:=h;rw[h];exact .au
 |some l=>obtain⟨p,rfl,vs,hp,hv⟩:=h;exact .lst (aj.of hp) (ER hv)
theorem dI.eqv{H:Hp}{v v':V}{m:LL α}{e:EE α}(h:dI D H v (some m))(h':dI D H v' e):PyData.eqv (yO D (some m)) (yO D e)=decide (some m=e):=by
 obtain⟨p,rfl,vs,hp,hv⟩:=h;cases e with
 |none=>rfl
 |some l=>obtain⟨p',rfl,vs',hp',hv'⟩:=h';show PyData.eqvAll (m.map (b7 D)) (l.map (b7 D))=_;rw[OX (ES hv) (ES hv'),f9];simp
theorem LA.mono{H H':Hp}{p:Addr}{l:LL α}(h:LA D H p l)(k:NL H H')(hp:∀vs,H p=some (.lst vs)->H' p=some (.lst vs)):LA D H' p l:=by obtain⟨vs,h1,h2⟩:=h;exact⟨vs,hp vs h1,Paired.c8 h2 λo v q=>q.nl k⟩
theorem LA.same{H H':Hp}{p:Addr}{l:LL α}(h:LA D H p l)(s:ae H H'):LA D H' p l:=h.mono s.nl λvs e=>s _ _ e
theorem dI.mono{H H':Hp}{v:V}{e:EE α}(h:dI D H v e)(k:NL H H')(hp:∀p vs,v=.ref p->H p=some (.lst vs)->H' p=some (.lst vs)):dI D H' v e:=by
 cases e with
 |none=>exact h
 |some l=>obtain⟨p,rfl,h⟩:=h;exact⟨p,rfl,h.mono k λvs e=>hp p vs rfl e⟩
theorem dI.same{H H':Hp}{v:V}{e:EE α}(h:dI D H v e)(s:ae H H'):dI D H' v e:=h.mono s.nl λ_ _ _ e=>s _ _ e
theorem ZQ{l m:LL α}{i:Nat}{x y:Option α}(h1:l[i]? =some x)(h2:m[i]? =some y):(gh l m)[i]? =some (if x=y then x else none):=by unfold gh;have e:(l.zip m)[i]? =some (x,y):=List.getElem?_zip_eq_some.mpr ⟨h1,h2⟩;rw[bF,e];rfl
end
inductive O2{K:ax}{α:Type} [DecidableEq α](D:Kd K α)(vs:List V)(H:Hp)(Q:VK)(e0:XK):Prop
 |mk (kv:V) (b:Addr) (e:EE α) (v:LL α):vs=[kv,.ref b]->dI D H kv e->LA D H b v->((∀l,e=some l->l.length=v.length))->v.length<=100->(∀q H',ae H H'->(q=b\/H q=none)->LA D H' q (iy e v)->Q (.ref q) H')->O2 D vs H Q e0
section
variable{P:Program}{w:World}{K:ax}{mg:Str->Option Value}{base:Heap}{t:Ad}
theorem O3:aQ ["before","brought","one","other"] ["before","brought"] (aC Au):=aS
theorem ZR{α:Type} [DecidableEq α](D:Kd K α)(T:Txt K mg t):aG P w K mg base aR 1 t.AM t.BI ["before","brought"] (O2 D):=by
 refine T.wO.ok O3 (λvs H Q E h=>?_) (λ_ A _ s H vs Q E hr h=>?_)
 ·obtain⟨_,_,_,_,rfl,_⟩:=h;rfl
 ·obtain⟨kv,b,e,v,rfl,hE,hb,hl,ZS,k⟩:=h;have nd:=O3.nd;refine⟨_,aq (aU (cR (iI (pv 0))) (ak (aB (pv 1))) aW)
   (ak (aB (ia (g:=jG K 2 (eC (c6 2) (eC (c6 3) kb))) (own:=[("one",2),("other",3)]) rfl nd (vS rfl T.tD (aa (pv 0) (aa (pv 1) af))) ?b1 (λs H C cl fp=>mo rfl (fL (bD (i:=2) nd rfl (Or.inl rfl)) (fL (bD (i:=3) nd rfl (Or.inl rfl)) mn))) (λs H C cl fp=>eF) (λs H C cl fp=>iJ (aX (r:=vG K) (jK hr.units) (pv 2) (pv 3) (aY _)) (pv 2) fh)))),?_⟩
  ·show c9 ["before","brought","one","other"] (aC Au) _ _;exact⟨rfl,by decide+kernel,by decide+kernel,by decide+kernel,by decide+kernel⟩
  ·cases e with
   |none=>have hE:kv=.au:=hE;subst hE;refine⟨_,rfl,_,rfl,?_⟩;refine aD ?_;exact⟨_,rfl,k b H (ae.refl H) (.inl rfl) hb⟩
   |some l=>
    obtain⟨p,rfl,xs,hp,hx⟩:=hE;obtain⟨zs,hbz,hz⟩:=id hb;have hll:=hl l rfl;have lx:l.length=xs.length:=bC hx;have lz:v.length=zs.length:=bC hz;refine⟨_,rfl,_,rfl,?_⟩;refine aA ?_;refine⟨_,rfl,_,rfl,p,b,_,_,rfl,aj.of hp,aj.of hbz,λD' hD=>?_⟩;refine yi (λ_=>true) (λi y H=>∀o,(gh l v)[i]? =some o->OA D H y o) hD (by rw[bg];omega) (aj.of hp) (aj.of hbz) (by omega) (λi y H H' r k o ho=>(r o ho).nl k) (λx y=>rfl) (λi x z H2 hi hj s2 A B hA hB=>?_) λys H2 s2 hL pr=>?_
    ·have il:i<l.length:=by have:=(bW.mp hi).1;omega
     have iv:i<v.length:=by omega
     have h1:=cE hx (aN il) hi;have h2:=cE hz (aN iv) hj;have m:=ZQ (aN il) (aN iv);have h1:=h1.nl s2.nl;have h2:=h2.nl s2.nl;refine aD (B:=B H2) ?_;refine⟨_,rfl,_,rfl,_,_,h1.dp,h2.dp,uk _,uk _,_,rfl,?_⟩;rw[yP h1.ok h2.ok];by_cases e:l[i]=v[i]
     ·rw[bx e];refine aD ⟨_,rfl,hA rfl _ _ (ae.refl _) λo ho=>?_⟩;rw[m,ai e]at ho;cases ho;exact h1
     ·rw[a9 e];refine aA (hA rfl _ _ (ae.refl _) λo ho=>?_);rw[m,ah e]at ho;cases ho;rfl
    ·rw[kH,<-lx,<-Nk hll]at pr;exact k D' H2 s2 (.inr hD) ⟨ys,hL,kI pr⟩
end
end My
namespace My
open PySem L2
structure fG{K:ax}{α:Type} [DecidableEq α](D:Kd K α)(t:Ad)(H:Hp)(li bf wt:Addr)(is:List Addr)(c:Sz43.Code)(vs:List V)(B:List (EE α))(W:List Nat):Prop where
 lst:H li=some (.lst (is.map V.ref))
 ins:Paired (λa i=>IA t H a i) is c
 i9:H bf=some (.lst vs)
 env:Paired (λv e=>dI D H v e) vs B
 nv:∀p,V.ref p∈vs->p≠bf/\p≠wt
 gU:H wt=some (.lst (iw W))
 n1:bf≠wt
 n2:li≠bf
 n3:li≠wt
section
variable{K:ax}{α:Type} [DecidableEq α]{D:Kd K α}{t:Ad}{H H':Hp}{li bf wt:Addr}{is:List Addr}{c:Sz43.Code}{vs:List V}{B:List (EE α)}{W:List Nat}
theorem fG.same(k:fG D t H li bf wt is c vs B W)(s:ae H H'):fG D t H' li bf wt is c vs B W:=⟨s _ _ k.lst,Paired.c8 k.ins λa i h=>h.nl s.nl,s _ _ k.i9,Paired.c8 k.env λv e h=>h.same s,k.nv,s _ _ k.gU,k.n1,k.n2,k.n3⟩
theorem fG.O4{W':List Nat}(k:fG D t H li bf wt is c vs B W):fG D t (upd H wt (.lst (iw W'))) li bf wt is c vs B W':=by
 have tp:∀b o,H b=some o->b≠wt->(upd H wt (.lst (iw W'))) b=some o:=λb o e n=>by rw[ay n];exact e
 have nl:NL H (upd H wt (.lst (iw W'))):=NL.qU k.gU;exact⟨tp _ _ k.lst k.n3,Paired.c8 k.ins λa i h=>h.nl nl,tp _ _ k.i9 k.n1,Paired.mapM k.env λv e hv h=>h.mono nl λp xs ev e=>tp _ _ e (k.nv p (ev▸hv)).2,k.nv,aw,k.n1,k.n2,k.n3⟩
theorem fG.setB{w q:Nat}{m:LL α}(k:fG D t H li bf wt is c vs B W)(hq:LA D H q m)(q1:q≠bf)(q2:q≠wt):fG D t (upd H bf (.lst (vs.set w (.ref q)))) li bf wt is c (vs.set w (.ref q)) (B.set w (some m)) W:=by
 have tp:∀b o,H b=some o->b≠bf->(upd H bf (.lst (vs.set w (.ref q)))) b=some o:=λb o e n=>by rw[ay n];exact e
 have nl:NL H (upd H bf (.lst (vs.set w (.ref q)))):=NL.qU k.i9;have env':Paired (λv e=>dI D (upd H bf (.lst (vs.set w (.ref q)))) v e) vs B:=Paired.mapM k.env λv e hv h=>h.mono nl λp xs ev e=>tp _ _ e (k.nv p (ev▸hv)).1
 refine⟨tp _ _ k.lst k.n2,Paired.c8 k.ins λa i h=>h.nl nl,aw,?_,λp hp=>?_,tp _ _ k.gU k.n1.symm,k.n1,k.n2,k.n3⟩
 ·have ET:∀{F:V->EE α->Prop}{x:V}{y:EE α},F x y->∀{l₁:List V}{l₂:List (EE α)}{w:Nat},Paired F l₁ l₂->Paired F (l₁.set w x) (l₂.set w y):=by
   intro F x y hxy l₁ l₂ w h
   induction h generalizing w with
   |nil=>exact .nil
   |cons r t ih=>
    cases w with
    |zero=>exact .cons hxy t
    |succ w=>exact .cons r ih
  exact ET ⟨q,rfl,hq.mono nl λvs e=>tp _ _ e q1⟩ env'
 ·rcases List.mem_or_eq_of_mem_set hp with e |e
  ·exact k.nv p e
  ·cases e;exact⟨q1,q2⟩
theorem fG.len(k:fG D t H li bf wt is c vs B W):vs.length=B.length:=bC k.env
theorem fG.get{w:Nat}(k:fG D t H li bf wt is c vs B W)(h:w<B.length):∃v,vs[w]? =some v/\dI D H v (gt B w):=by have hv:vs[w]? =some (vs[w]'(by rw[k.len];exact h)):=aN _;exact⟨_,hv,cE k.env hv (Ed h)⟩
end
theorem um{α β:Type}(a:β):∀l:List α,l.map (λ_=>a)=List.replicate l.length a
 |[]=>rfl
 |_::r=>by rw[bt,um a r];rfl
theorem pB(w:List Nat)(c:Nat):iw (w++[c])=iw w++[.int (c:Int)]:=Mu w c
section
variable{K:ax}{α:Type} [DecidableEq α]
def O5(t:Ad)(D:Kd K α){n:Nat}{c:Sz43.Code}(S:Sys α n c)(vs:List V)(H:Hp)(Q:VK):Prop:=∃(a kp:Addr)(i:Ins)(l:LL α),vs=[.ref a,.ref kp]/\IA t H a i/\LA D H kp l/\i∈c/\l.length=n/\ ∀b H',ae H H'->(b=kp\/H b=none)->LA D H' b (S.bh i l)->Q (.ref b) H'
def O6(t:Ad)(D:Kd K α){n:Nat}{c:Sz43.Code}(S:Sys α n c)(vs:List V)(H:Hp)(Q:VK):Prop:=∃(p:Nat)(a kp:Addr)(i:Ins)(l:LL α),vs=[.int (p:Int),.ref a,.ref kp]/\IA t H a i/\LA D H kp l/\i∈c/\l.length=n/\ ∀L H',ae H H'->H L=none->H' L=some (.lst (iw (S.ld p i l)))->Q (.ref L) H'
inductive O7(t:Ad)(D:Kd K α){n:Nat}{c:Sz43.Code}(S:Sys α n c)(fB fW:Addr)(vs:List V)(H:Hp)(Q:VK)(e0:XK):Prop
 |mk (li fs:Addr):vs=[.ref li,.ref fs,.ref fB,.ref fW]->gR t H li c->LA D H fs S.fst->(∀bf ws B H',H' bf=some (.lst ws)->Paired (λv e=>dI D H' v e) ws B->fV S (λ_=>True) B []->ae H H'->Q (.ref bf) H')->O7 t D S fB fW vs H Q e0
end
section
variable{P:Program}{w:World}{K:ax}{mg:Str->Option Value}{base:Heap}{t:Ad}
theorem O8:aQ ["instructions","first","behind","ways","before","waiting","place","instruction","brought","way","together"] ["instructions","first","behind","ways"] (aC Av):=aS
theorem O9{α:Type} [DecidableEq α](D:Kd K α){n:Nat}{c:Sz43.Code}(S:Sys α n c)(T:Txt K mg t){fB fW:Addr}(kB:keepIn K (.ref fB)=true)(kW:keepIn K (.ref fW)=true)(h256:c.length<=256)(h64:n<=64) (hB:∀vs H Q,O5 t D S vs H Q->∃k fd ps sp,aG P w K mg base aR k fB fd ps sp/\k<=5/\Binds K fd ps []/\sp vs H Q E0) (hW:∀vs H Q,O6 t D S vs H Q->∃k fd ps sp,aG P w K mg base aR k fW fd ps sp/\k<=5/\Binds K fd ps []/\sp vs H Q E0):aG P w K mg base aR 6 t.AN t.BJ ["instructions","first","behind","ways"] (O7 t D S fB fW):=by
 refine T.sX.ok O8 (λvs H Q E h=>?_) (λ_ A _ s H vs Q E hr h=>?_)
 ·obtain⟨_,_,rfl,_⟩:=h;rfl
 ·obtain⟨li,fs,rfl,⟨is,hli,cQ⟩,hfs,k⟩:=h;have nd:=O8.nd;have hr1:=hr.mono (show 1<=5 by decide);refine⟨_,aq (my (i:=4) (own:=[("place",6)]) rfl nd rfl rfl rfl (vp rfl T.qL (aa (bU ji (cp dE rfl T.c_ dA (aa (pv 0) af)) aL) af)) ?b1 (λs H C cl fp=>bD (i:=6) nd rfl (Or.inl rfl)) (λs H C cl fp=>eF) (λs H C cl fp=>fh))
   (aq (qh (pv 1) (qg (pv 4) aL rn))
   (aq (aZ (i:=5) nd rfl (Or.inl rfl) (cD (aa aL af)))
   (aq (vo gp (aX ql (cp dE rfl T.c_ dA (aa (pv 5) af)) aL (aY _)) (aq (aZ (i:=6) nd rfl (Or.inl rfl) (HF gq PySem.F.slot_list_pop PySem.F.type_list_pop HM (pv 5))) (aq (aU (aX bP (pv 6) (cp dE rfl T.c_ dA (aa (pv 0) af)) (aY _)) (ak zz) aW) (aq (aZ (i:=7) nd rfl (Or.inl rfl) (bc bA (pv 0) (pv 6) (λ_ _=>rfl))) (aq (aZ (i:=8) nd rfl (Or.inl rfl) (vZ (i:=2) (spT:=λf vs H Q=>f=fB/\O5 t D S vs H Q) (λf vs H Q h=>by obtain⟨rfl,h⟩:=h;obtain⟨k,fd,ps,sp,F,hk,hb,hs⟩:=hB vs H Q h;exact⟨k,fd,ps,sp,F,hr.mono hk,hb,hs⟩) rfl (Or.inl rfl) (aa (pv 7) (aa (bc bA (pv 4) (pv 6) (λ_ _=>rfl)) af)))) (ak (gF gp rfl (gC (vZ (i:=3) (spT:=λf vs H Q=>f=fW/\O6 t D S vs H Q) (λf vs H Q h=>by
      obtain⟨rfl,h⟩:=h;obtain⟨k,fd,ps,sp,F,hk,hb,hs⟩:=hW vs H Q h;exact⟨k,fd,ps,sp,F,hr.mono hk,hb,hs⟩) rfl (Or.inl rfl) (aa (pv 6) (aa (pv 7) (aa (bc bA (pv 4) (pv 6) (λ_ _=>rfl)) af))))) (bD (i:=9) nd rfl (Or.inl rfl))
     (aq (aZ (i:=10) nd rfl (Or.inl rfl) (aP (ZR D T) hr1 rfl T.Kp T.wO.kp (VL T) .nil aH (aa (bc bA (pv 4) (pv 9) (λ_ _=>rfl)) (aa (pv 8) af))))
     (ak (aU (aX (TV hr.units) (pv 10) (bc bA (pv 4) (pv 9) (λ_ _=>rfl)) (aY _)) (aq (qh (pv 10) (qg (pv 4) (pv 9) rn)) (ak (fk (gJ gq j7 j8 jk (pv 5) (aa (pv 9) af))))) aW))))))))))
   (ak (aB (pv 4)))))),?_⟩
  ·show c9 ["instructions","first","behind","ways","before","waiting","place","instruction","brought","way","together"] (aC Av) _ _;exact⟨rfl,by decide+kernel,by decide+kernel,by decide+kernel,by decide+kernel⟩
  ·have ln:is.length=c.length:=bC cQ;refine⟨_,rfl,li,_,rfl,.inl (aj.of hli),_,_,rfl,rfl,((c.length+1:Nat):Int),?_,by omega,by omega,λbf mY=>?_⟩
   ·show[V.int (((is.map V.ref).length:Int)+1)]=_;rw[aK,ln];rfl
   refine lH (xs:=(List.range (c.length+1)).map λ(i:Nat)=>V.int (0+i)) (λ_=>.au) mY (by rw[aK,gr,bg];omega) (λH2 _=>I_) (λy=>rfl) (λi y H2 _ _ Q' k'=>k' H2 (ae.refl _)) ?_;intro H1 s1 hb1;rw[um,aK,gr]at hb1;refine⟨_,rfl,_,rfl,bf,_,0,0,rfl,rfl,hb1,?_,?_⟩
   ·unfold iP;rw[rE,ai (by decide),ai (by omega)];rfl
   refine⟨(by show 1<=sizeLine;decide),λwt lX=>?_⟩;obtain⟨fvs,hfv,hfp⟩:=id hfs;have nbw:bf≠wt:=aJ aw lX;have nlb:li≠bf:=aJ hli mY;have nDb:fs≠bf:=aJ hfv mY;have up3:∀b o,H1 b=some o->b≠bf->(upd (upd H1 bf (.lst ((List.replicate (c.length+1) V.au).set 0 (.ref fs)))) wt (.lst [.int 0])) b=some o:=λb o e n=>by
    have e3:(upd H1 bf (.lst ((List.replicate (c.length+1) V.au).set 0 (.ref fs)))) b=some o:=by rw[ay n];exact e
    rw[ay (aJ e3 lX)];exact e3
   have nlw:li≠wt:=aJ (o:=.lst (is.map V.ref)) (by rw[ay nlb];exact s1 _ _ hli) lX;have nDw:fs≠wt:=aJ (o:=.lst fvs) (by rw[ay nDb];exact s1 _ _ hfv) lX;have SS:ae H (upd (upd H1 bf (.lst ((List.replicate (c.length+1) V.au).set 0 (.ref fs)))) wt (.lst [.int 0])):=λb o e=>up3 _ _ (s1 _ _ e) (aJ e mY)
   have K0:fG D t (upd (upd H1 bf (.lst ((List.replicate (c.length+1) V.au).set 0 (.ref fs)))) wt (.lst [.int 0])) li bf wt is c ((List.replicate (c.length+1) V.au).set 0 (.ref fs)) S.start [0]:=by
    refine⟨SS _ _ hli,Paired.c8 cQ λa i h=>h.nl SS.nl,by rw[ay nbw];exact aw,?_,λq hq=>?_,aw,nbw,nlb,nlw⟩
    ·rw[vb,List.set_cons_zero];refine .cons ⟨fs,rfl,hfs.same SS⟩ ?_;have rp:∀(F:V->EE α->Prop),F .au none->∀n,Paired F (List.replicate n V.au) (List.replicate n none):=by
      intro F hF n
      induction n with
      |zero=>exact .nil
      |succ n ih=>rw[vb,vb];exact .cons hF ih
     exact rp _ rfl _
    ·rw[vb,List.set_cons_zero]at hq;rcases a6.mp hq with e |e
     ·cases e;exact⟨nDb,nDw⟩
     ·have:=List.eq_of_mem_replicate e;cases this
   have m0:2*hts n S.start+1<=40000:=by
    have h1:hts n S.start<=S.start.length*(n+1):=by
     have all:∀l:List (EE α),(∀j,Wf n (gt l j))->hts n l<=l.length*(n+1):=by
      intro l
      induction l with
      |nil=>intro _;exact b9 _
      |cons x l ih=>
       intro h;have ih:=ih λj=>h (j+1)
       have h0:=yn (h 0);unfold hts at*;rw[bt,iE,b6,Nat.add_mul,Nat.one_mul];have:ht n (gt (x::l) 0)=ht n x:=rfl;omega
     exact all _ S.jv
    rw[S.qW]at h1;have h2:(c.length+1)*(n+1)<=257*65:=Nat.mul_le_mul (by omega) (by omega);omega
   have rh:H wt=none:=by have s3:ae H (upd H1 bf (.lst ((List.replicate (c.length+1) V.au).set 0 (.ref fs)))):=s1.upd mY;exact s3.free lX
   refine dW ?_;refine⟨λm σ Hh=>∃(vs:List V)(B:List (EE α))(W:List Nat)(v4 v5 v6 v7 v8:Option V),m=2*hts n B+W.length/\σ=[some (.ref li),some (.ref fs),some (.ref fB),some (.ref fW),some (.ref bf),some (.ref wt),v4,v5,v6,v7,v8]/\ fG D t Hh li bf wt is c vs B W/\fV S (λ_=>True) B W/\m<=40000/\ae H Hh,⟨_,_,_,_,_,_,_,_,_,rfl,rfl,K0,fV.init (λ_ _=>trivial),m0,SS⟩,?_⟩
   rintro m σ Hh ⟨vs,B,W,v4,v5,v6,v7,v8,rfl,rfl,Kb,WI,m4,SH⟩
   refine⟨_,rfl,wt,_,rfl,.inl (aj.of Kb.gU),_,_,rfl,rfl,_,rfl,?_⟩;rw[bG];rcases List.eq_nil_or_concat W with eW |⟨ws,q,eW⟩
   ·subst eW;refine aA ?_;exact⟨_,rfl,k bf vs B Hh Kb.i9 Kb.env WI SH⟩
   rw[List.concat_eq_append]at eW;subst eW;have d0:decide ((0:Int)<((ws++[q]).length:Int))=true:=bx (by rw[bo,cZ];omega);rw[d0];refine aD ?_;refine⟨λσ' H'=>∃m',m'<2*hts n B+(ws++[q]).length/\∃(vs:List V)(B:List (EE α))(W:List Nat)(v4 v5 v6 v7 v8:Option V),m'=2*hts n B+W.length/\σ'=[some (.ref li),some (.ref fs),some (.ref fB),some (.ref fW),some (.ref bf),some (.ref wt),v4,v5,v6,v7,v8]/\
    fG D t H' li bf wt is c vs B W/\fV S (λ_=>True) B W/\m'<=40000/\ae H H',λσ' H' h=>h,?_⟩
   have gU:=Kb.gU;rw[pB]at gU;refine⟨_,rfl,.inl ⟨rfl,_,aj.of gU⟩,wt,_,.int (q:Int),rfl,rfl,gU,?_,?_⟩
   ·rw[bo,cZ,RT];simp
   rw[List.dropLast_concat];obtain⟨yQ,fU⟩:∃yQ,yQ=upd Hh wt (.lst (iw ws)):=⟨_,rfl⟩;rw[<-fU];have kP:fG D t yQ li bf wt is c vs B ws:=by rw[fU];exact Kb.O4
   have SH1:ae H yQ:=by rw[fU];exact SH.upd rh
   have wq:=WI.wb q (by simp);refine⟨_,rfl,_,rfl,li,_,rfl,.inl (aj.of kP.lst),rfl,_,rfl,?_⟩;rw[aK,ln,d5];by_cases hq:q=c.length
   ·rw[bx hq];refine aD ?_;refine⟨2*hts n B+ws.length,by rw[bo,cZ];omega,vs,B,ws,_,_,_,_,_,rfl,rfl,kP,WI.pop hq,?_,SH1⟩;rw[bo,cZ]at m4;omega
   rw[a9 hq];refine aA ?_;have ud:q<c.length:=by omega
   obtain⟨i,hi⟩:∃i,c[q]? =some i:=⟨_,aN ud⟩;obtain⟨a,hai⟩:∃a,is[q]? =some a:=⟨_,aN (by omega)⟩;obtain⟨l,hl⟩:=wq.2;have him:=bu hi;have lB:=WI.len;obtain⟨v,hv,hE⟩:=kP.get (w:=q) (by omega);rw[hl]at hE;obtain⟨kp,rfl,hkp⟩:=hE;have EU:l.length=n:=WI.wf q l hl;have hI:=cE kP.ins hai hi;have nkp:=kP.nv kp (bu hv);refine⟨_,rfl,_,rfl,li,_,_,_,rfl,rfl,aj.of kP.lst,bq (by rw[bF,hai];rfl),?_⟩;refine⟨fB,rfl,kB,_,rfl,_,rfl,_,rfl,bf,_,_,_,rfl,rfl,aj.of kP.i9,bq hv,rfl,a,kp,i,l,rfl,hI,hkp,him,EU,λb H2' s2' hb2 eb2=>?_⟩;have uo:=kP.same s2';have nb:b≠bf/\b≠wt:=by
    rcases hb2 with e |e
    ·rw[e];exact nkp
    ·exact⟨(aJ kP.i9 e).symm,(aJ kP.gU e).symm⟩
   have hI2:=cE uo.ins hai hi;refine⟨fW,rfl,kW,_,rfl,_,rfl,_,rfl,_,rfl,bf,_,_,_,rfl,rfl,aj.of uo.i9,bq hv,rfl,q,a,kp,i,l,rfl,hI2,hkp.same s2',him,EU,λL H3' EV hD3 eD3=>?_⟩;have Kb3:=uo.same EV;have nD:L≠bf/\L≠wt:=⟨(aJ uo.i9 hD3).symm,(aJ uo.gU hD3).symm⟩;have eb3:=eb2.same EV;have bln:(S.bh i l).length=n:=by rw[S.bl];exact EU
   refine⟨L,rfl,⟨_,aj.of eD3⟩,lu (K:=K) (a:=L) (xs:=iw (S.ld q i l)) (λr σ Hr=>∃(vs':List V)(B':List (EE α))(W':List Nat)(v7 v8:Option V),σ=[some (.ref li),some (.ref fs),some (.ref fB),some (.ref fW),some (.ref bf),some (.ref wt),some (.int (q:Int)),some (.ref a),some (.ref b),v7,v8]/\ fG D t Hr li bf wt is c vs' B' W'/\lU S (λ_=>True) B ws (S.bh i l) ((S.ld q i l).take r) B' W'/\LA D Hr b (S.bh i l)/\Hr L=some (.lst (iw (S.ld q i l)))/\ae H Hr) ⟨vs,B,ws,_,_,rfl,Kb3,lU.start WI,eb3,eD3,(SH1.trans s2').trans EV⟩ (λ_ _ _ _ ⟨_,_,_,_,_,_,_,_,_,e,_⟩=>aj.of e) ?_ ?_⟩
   ·rintro r y σ Hr hy ⟨vs',B',W',v7,v8,rfl,Kr,F,ebr,EW,SHr⟩
    obtain⟨u,hu,rfl⟩:=ky hy;have hum:u∈S.ld q i l:=bu hu;have hub:u<B'.length:=by have:=S.ib q i l hi u hum;have:=F.len;omega
    obtain⟨ev,hev,hEv⟩:=Kr.get hub;have FS:=F.step WI hi hl (λ_ _=>trivial) hum;rw[show(S.ld q i l).take r++[u]=(S.ld q i l).take (r+1) by rw[iB,hu];rfl]at FS;refine⟨_,rfl,_,rfl,bf,_,_,_,rfl,rfl,aj.of Kr.i9,bq hev,_,rfl,ev,b,gt B' u,S.bh i l,rfl,hEv,ebr,λl' e'=>by rw[bln];exact F.wf u l' e',by omega,λz H5 s5 hz ez=>?_⟩;have K5:=Kr.same s5;have nz:z≠bf/\z≠wt:=by
     rcases hz with e |e
     ·rw[e];exact nb
     ·exact⟨(aJ Kr.i9 e).symm,(aJ Kr.gU e).symm⟩
    have ub:dI D H5 (.ref z) (some (iy (gt B' u) (S.bh i l))):=⟨z,rfl,ez⟩;have O_:dI D H5 ev (gt B' u):=hEv.same s5;refine⟨_,rfl,_,rfl,_,rfl,bf,_,_,_,rfl,rfl,aj.of K5.i9,bq hev,_,_,ub.dp,O_.dp,O1 _,O1 _,_,rfl,?_⟩;rw[ub.eqv O_];unfold yq at FS;by_cases he:some (iy (gt B' u) (S.bh i l))=gt B' u
    ·rw[ai he]at FS;rw[bx he];refine aA ?_;exact⟨vs',B',W',_,_,rfl,K5,FS,ebr.same s5,s5 _ _ EW,SHr.trans s5⟩
    ·rw[ah he]at FS;rw[a9 he];refine aD ?_;have wl:W'.length<=40000:=by
      have:=F.tZ;rw[bo,cZ]at m4;omega
     refine⟨_,rfl,_,rfl,_,rfl,bf,_,_,u,rfl,rfl,K5.i9,?_,?_⟩
     ·unfold iP;have:=K5.len;rw[ai (by omega),ai (by omega)];simp
     have K6:=K5.setB (w:=u) ez nz.1 nz.2;refine⟨_,rfl,.inl ⟨rfl,_,aj.of K6.gU⟩,_,rfl,wt,_,_,rfl,rfl,K6.gU,(by rw[bG,bg];omega),?_⟩;rw[<-pB];refine⟨_,_,_,_,_,rfl,K6.O4,FS,?_,?_,((SHr.trans s5).upd mY).upd rh⟩
     ·refine((ebr.same s5).mono (NL.qU K5.i9) λvs e=>?_).mono (NL.qU K6.gU) λvs e=>?_
      ·rw[ay nb.1];exact e
      ·rw[ay nb.2];exact e
     ·rw[ay nD.2,ay nD.1];exact s5 _ _ EW
   ·rintro σ Hr ⟨vs',B',W',v7,v8,rfl,Kr,F,ebr,EW,SHr⟩
    rw[bG,j0]at F;have m5:=F.tZ;rw[bo,cZ]at m4;refine⟨2*hts n B'+W'.length,by rw[bo,cZ];omega,vs',B',W',_,_,_,_,_,rfl,rfl,Kr,F.done WI hi hl (λj hj=>hj),by omega,SHr⟩
end
end My
namespace My
open PySem L2
inductive Pa(t:Ad)(vs:List V)(H:Hp)(Q:VK)(e0:XK):Prop
 |mk (a kp:Addr) (i:Ins) (pl:V) (l:KL):vs=[.ref a,.ref kp]->dF t H a i pl->H kp=some (.lst (e_ l))->((∀v∈usesOf i,v<l.length))->((∀d,givesOf i=some d->d<l.length))->AllP aV l->(∀b H',ae H H'->(b=kp\/H b=none)->H' b=some (.lst (e_ (Sz43.behind i l)))->Q (.ref b) H')->Pa t vs H Q e0
inductive Pb(t:Ad)(vs:List V)(H:Hp)(Q:VK)(e0:XK):Prop
 |mk (p:Nat) (a kp:Addr) (i:Ins) (l:KL):vs=[.int (p:Int),.ref a,.ref kp]->IA t H a i->H kp=some (.lst (e_ l))->((∀v∈usesOf i,v<l.length))->(∀D H',ae H H'->H D=none->H' D=some (.lst (iw (qX p i l)))->Q (.ref D) H')->Pb t vs H Q e0
def pC(K:ax):Kd K Int where
 at_:=λ_ v z=>v=.int z/\aV z
 nl:=λh _=>h
 dat:=λz=>.int z
 dp:=λ{H v a} h=>by rw[h.1];exact .int a
 ok:=aV
 yN:=λh=>h.2
 eqv:=λ{a b} _ _=>by show(a==b)=decide (a=b);rw[f9];simp
 EN:=λ_=>rfl
 EO:=λ_=>rfl
 lay:=λ_=>rfl
 dep:=λz=>F8 (show PyData.depth (.int z)<9 by unfold PyData.depth;omega)
theorem uq{K:ax}{H:Hp}{p:Addr}{l:KL}:LA (pC K) H p l ↔ H p=some (.lst (e_ l))/\AllP aV l:=by
 have fw:∀{l:KL}{vs:List V},Paired (λo v=>OA (pC K) H v o) l vs->vs=e_ l/\AllP aV l:=by
  intro l vs h
  induction h with
  |nil=>exact⟨rfl,λz h=>absurd h (by simp)⟩
  | @cons o v l vs r _ ih=>
   obtain⟨h1,h2⟩:=ih;cases o with
   |none=>
    have r:v=.au:=r;refine⟨by rw[r,h1];rfl,λz hz=>?_⟩;rcases a6.mp hz with e |e
    ·cases e
    ·exact h2 z e
   |some x=>
    have r:v=.int x/\aV x:=r;refine⟨by rw[r.1,h1];rfl,λz hz=>?_⟩;rcases a6.mp hz with e |e
    ·cases e;exact r.2
    ·exact h2 z e
 have bw:∀l:KL,AllP aV l->Paired (λo v=>OA (pC K) H v o) l (e_ l):=by
  intro l
  induction l with
  |nil=>exact λ_=>.nil
  |cons o l ih=>
   intro h;refine .cons ?_ (ih λz hz=>h z (bQ _ hz));cases o with
   |none=>rfl
   |some x=>exact⟨rfl,h x (by simp)⟩
 constructor
 ·rintro⟨vs,h1,h2⟩
  obtain⟨e,h3⟩:=fw h2;rw[e]at h1;exact⟨h1,h3⟩
 ·rintro⟨h1,h2⟩
  exact⟨_,h1,bw l h2⟩
structure PO(p:Sz43.Program):Prop where
 good:GoodC aV p.vars.length p.code
 dQ:p.code.length<=256
 d6:p.vars.length<=64
inductive Pc(t:Ad)(K:ax)(vs:List V)(H:Hp)(Q:VK)(e0:XK):Prop
 |mk (x:Addr) (p:Sz43.Program):vs=[.ref x]->fD t H x p->PO p->(∀bf ws B H',H' bf=some (.lst ws)->Paired (λv e=>dI (pC K) H' v e) ws B->B.length=p.code.length+1->(∀j,gt B j=Sz43.knownAt (Sz43.known p.vars.length p.code) j)->(∀j l,gt B j=some l->l.length=p.vars.length)->ae H H'->Q (.ref bf) H')->Pc t K vs H Q e0
theorem ur:∀k x y,aV x->aV y->aV (reckon k x y):=λk x y hx hy=>Xl hx hy
section
variable{P:Program}{w:World}{K:ax}{mg:Str->Option Value}{base:Heap}{t:Ad}
theorem Pd:aQ ["instruction","known","behind"] ["instruction","known"] (aC JL):=aS
theorem ZT(T:Txt K mg t):aG P w K mg base aR 5 t.wy t.Cf ["instruction","known"] (Pa t):=by
 refine T.xf.ok Pd (λvs H Q E h=>?_) (λ_ A _ s H vs Q E hr h=>?_)
 ·obtain⟨_,_,_,_,_,rfl,_⟩:=h;rfl
 ·obtain⟨a,kp,i,pl,l,rfl,hI,hk,eV,hgv,hP,k⟩:=h;have nd:=Pd.nd;refine⟨_,aq (aU (cR (iI (aE (pv 0) rfl))) (ak (aB (pv 1))) aW)
   (aq (aZ (i:=2) nd rfl (Or.inl rfl) (mw TJ rfl T.DH rfl (aa (pv 1) af)))
   (aq (qh (aP (OL T) hr rfl T.Di T.s_.kp (LZ T) .nil aH (aa (pv 0) (aa (pv 1) af))) (qg (pv 2) (aE (pv 0) rfl) rn))
   (ak (aB (pv 2))))),?_⟩
  obtain⟨dx,u,op,ha,hu,hop⟩:=id hI;have cl:=T.cS;rw[y3]at k;refine⟨_,rfl,a,_,dx,_,_,rfl,ha,cl,T.cO,c7,_,rfl,?_⟩;cases hg:givesOf i with
  |none=>
   rw[hg]at k;have eg:dZ i=.au:=by unfold dZ;rw[hg]
   rw[eg];refine aD ?_;exact⟨_,rfl,k kp H (ae.refl H) (.inl rfl) hk⟩
  |some d=>
   rw[hg]at k;have eg:dZ i=.int (d:Int):=by unfold dZ;rw[hg]
   rw[eg];refine aA ?_;refine⟨_,rfl,kp,_,rfl,.inl (aj.of hk),λb hb=>?_⟩;have s1:=ae.new (o:=.lst (e_ l)) hb;have jR:dF t (upd H b (.lst (e_ l))) a i pl:=hI.mono (λ_ _ e=>s1 _ _ e) λ_ _ _ e=>s1 _ _ e
   refine⟨_,rfl,_,rfl,a,kp,i,pl,l,rfl,jR,s1 _ _ hk,by rw[hg];rfl,eV,hP,λH2 s2=>?_⟩;refine⟨_,rfl,_,rfl,a,_,dx,_,_,rfl,s2 _ _ (s1 _ _ ha),cl,T.cO,c7,b,_,(d:Int),d,rfl,eg,s2 _ _ aw,?_,?_⟩
   ·have:=hgv d hg;unfold iP;rw[ZK,ai (by omega),ai (by omega)];simp
   ·refine⟨_,rfl,k b _ ?_ (.inr hb) ?_⟩
    ·exact λc o e=>by rw[ay (aJ e hb)];exact s2 _ _ (s1 _ _ e)
    ·rw[aw];show some (HO.lst ((e_ l).set d (di (iZ i l))))=some (HO.lst (e_ (l.set d (iZ i l))));unfold e_;rw[List.map_set]
theorem Pe:aQ ["place","instruction","known"] ["place","instruction","known"] (aC JM):=aS
theorem ZU(T:Txt K mg t):aG P w K mg base aR 2 t.wz t.Cg ["place","instruction","known"] (Pb t):=by
 refine T.xg.ok Pe (λvs H Q E h=>?_) (λ_ A _ s H vs Q E hr h=>?_)
 ·obtain⟨_,_,_,_,_,rfl,_⟩:=h;rfl
 ·obtain⟨p,a,kp,i,l,rfl,hI,hk,eV,k⟩:=h;have nd:=Pe.nd;refine⟨_,aq (aU (PW.pt (lg (aX vy (aE (pv 1) rfl) bJ (aY _)) (k_ (cR (iI (bc bA (pv 2) (bc kf (aE (pv 1) rfl) aL (λ_ _=>rfl)) (λ_ _=>rfl))))))) (ak (aB (aP (yL T) hr rfl T.sW T.oJ.kp (xS T) .nil aH (aa (pv 0) (aa (pv 1) af))))) aW)
   (ak (aB (iJ (aX bP (bc bA (pv 2) (bc kf (aE (pv 1) rfl) aL (λ_ _=>rfl)) (λ_ _=>rfl)) aL (aY _)) (cD (aa (bU ji (pv 0) aL) af)) (cD (aa (aE (pv 1) rfl) af))))),?_⟩
  obtain⟨dx,u,op,ha,hu,hop⟩:=id hI;have cl:=T.cS;have yM:V.int ((p:Int)+1)=V.int ((p+1:Nat):Int):=by rw[RL];rfl
  refine⟨_,rfl,a,_,dx,_,_,rfl,ha,cl,T.bH,bL,rfl,_,rfl,?_⟩;cases i with
  |cond v u'=>
   refine aA ?_;have hv:=eV v (by simp[usesOf]);have ew:qX p (.cond v u') l=(match knows l v with |none=>[p+1,u'] |some z=>if z=0 then [p+1]else [u']):=rfl;refine⟨_,rfl,_,rfl,a,_,dx,_,_,rfl,ha,cl,T.fO,gO,_,_,_,_,rfl,rfl,a8.of hu,bq (j:=0) rfl,kp,_,_,_,rfl,rfl,aj.of hk,bq (uj hv),_,rfl,?_⟩;cases hz:knows l v with
   |none=>rw[hz]at ew;rw[ew]at k;refine aD ?_;exact⟨_,rfl,_,rfl,p,a,_,rfl,hI,k⟩
   |some z=>
    rw[hz]at ew;refine aA ?_;refine⟨_,rfl,_,rfl,a,_,dx,_,_,rfl,ha,cl,T.fO,gO,_,_,_,_,rfl,rfl,a8.of hu,bq (j:=0) rfl,kp,_,_,_,rfl,rfl,aj.of hk,bq (uj hv),?_⟩;rw[hz];refine⟨rfl,_,rfl,?_⟩;by_cases h0:z=0
    ·have ew:qX p (.cond v u') l=[p+1]:=by rw[ew];exact ai h0
     rw[ew]at k;have e:decide (di (some z)=V.int 0)=true:=by rw[h0];rfl
     rw[e];refine aD ?_;refine⟨_,rfl,_,_,rfl,rfl,(by show 1<=sizeLine;decide),λD hD=>?_⟩;rw[yM];exact k D _ (ae.new hD) hD aw
    ·have ew:qX p (.cond v u') l=[u']:=by rw[ew];exact ah h0
     rw[ew]at k;have e:decide (di (some z)=V.int 0)=false:=a9 λq=>h0 (by injection q)
     rw[e];refine aA ?_;exact⟨_,rfl,a,_,dx,_,_,rfl,ha,cl,T.fv,gN,(by show 1<=sizeLine;decide),λD hD=>k D _ (ae.new hD) hD aw⟩
  |_=>refine aD ?_;refine aD ?_;exact⟨_,rfl,_,rfl,p,a,_,rfl,hI,k⟩
theorem Pf:aQ ["program","first","name"] ["program"] (aC AA):=aS
theorem ZV(T:Txt K mg t):aG P w K mg base aR 7 t.A5 t.Ci ["program"] (Pc t K):=by
 refine T.xh.ok Pf (λvs H Q E h=>?_) (λ_ A _ s H vs Q E hr h=>?_)
 ·obtain⟨_,_,rfl,_⟩:=h;rfl
 ·obtain⟨x,p,rfl,hX,O,k⟩:=h;have nd:=Pf.nd;have G:=O.good;have gv:∀i∈p.code,(∀v∈usesOf i,v<p.vars.length)/\∀d,givesOf i=some d->d<p.vars.length:=λi hi=>⟨(G i hi).us,(G i hi).gv⟩
  have oB:=O9 (P:=P) (w:=w) (base:=base) (pC K) (Eh p.vars.length G.bounds) T T.xf.kp T.xg.kp O.dQ O.d6
   (λvs H Q h=>by obtain⟨a,kp,i,l,rfl,hI,hk,hi,hl,k⟩:=h;obtain⟨h1,h2⟩:=uq.mp hk;refine⟨_,_,_,_,ZT T,aI 5,Wb T,a,kp,i,_,l,rfl,hI,h1,λv hv=>by rw[hl];exact(gv i hi).1 v hv,λd hd=>by rw[hl];exact(gv i hi).2 d hd,h2,λb H' s hb e=>k b H' s hb (uq.mpr ⟨e,NZ ur (G i hi) h2⟩)⟩)
   (λvs H Q h=>by obtain⟨q,a,kp,i,l,rfl,hI,hk,hi,hl,k⟩:=h;obtain⟨h1,h2⟩:=uq.mp hk;exact⟨_,_,_,_,ZU T,by decide,Wc T,q,a,kp,i,l,rfl,hI,h1,λv hv=>by rw[hl];exact(gv i hi).1 v hv,k⟩)
  refine⟨_,aq (my (i:=1) (own:=[("name",2)]) rfl nd rfl rfl rfl (gC (aE (pv 0) rfl)) ?b1 (λs H C cl fp=>bD (i:=2) nd rfl (Or.inl rfl)) (λs H C cl fp=>eF) (λs H C cl fp=>aL)) (ak (aB (aP oB hr rfl T.C2 T.sX.kp (LW T) .nil aH (aa (aE (pv 0) rfl) (aa (pv 1) (aa (iH (v:=.ref t.wy) rfl T.KG rfl) (aa (iH (v:=.ref t.wz) rfl T.KH rfl) af))))))),?_⟩
  ·show c9 ["program","first","name"] (aC AA) _ _;exact⟨rfl,by decide+kernel,by decide+kernel,by decide+kernel,by decide+kernel⟩
  ·obtain⟨dx,li,ns,hx,hli,qs,hns,hqs⟩:=hX;have ln:qs.length=p.vars.length:=bC hqs;have d6:=O.d6;refine⟨_,rfl,x,_,dx,_,_,rfl,hx,T.fz,T.lK,o8 _ _,ns,rfl,⟨_,aj.of hns⟩,λF hF=>?_⟩;refine lH (xs:=qs.map V.ref) (λ_=>.int 0) hF (by rw[aK,bg];omega) (λH2 s2=>qB (aj.of (s2 _ _ hns))) (λy=>rfl) (λi y H2 _ _ Q' k'=>k' H2 (ae.refl _)) ?_;intro H1 s1 uv;rw[um,aK,ln]at uv;have lF:LA (pC K) H1 F (Eh p.vars.length G.bounds).fst:=by
    refine uq.mpr ⟨?_,λz hz=>?_⟩
    ·rw[uv];show _=some (HO.lst (List.map di (List.replicate _ (some 0))));rw[List.map_replicate];rfl
    ·have:=List.eq_of_mem_replicate hz;cases this;unfold aV;omega
   refine⟨_,rfl,x,_,dx,_,_,rfl,s1 _ _ hx,T.fz,T.kr,mR _ _,_,rfl,li,F,rfl,hli.same s1,lF,λbf ws B H' hb hE hW s'=>?_⟩;exact k bf ws B H' hb hE hW.len (λj=>hW.known G.bounds j) (λj l e=>hW.wf j l e) (s1.trans s')
end
end My
namespace My
open PySem L2
def yR(H:Hp)(op:V):Sz43.Holds->Prop
 | .same _=>op=.au
 | .made k _ _=>k<12/\∃q,op=.ref q/\H q=some (.tup (iw (Sz43.ops.getD k [])))
def Pg(H:Hp)(v:V)(h:Sz43.Holds):Prop:=∃(p u:Addr)(op:V),v=.ref p/\H p=some (.tup [op,.ref u])/\H u=some (.tup (iw (fZ h)))/\yR H op h
def jS:Sz43.Holds->PyData
 | .same y=>.tuple [.none,.tuple (iD [y])]
 | .made k a b=>.tuple [.tuple (iD (Sz43.ops.getD k [])),.tuple (iD [a,b])]
def EX:Sz43.Holds->Prop
 | .same _=>True
 | .made k _ _=>k<12
theorem yR.nl{H H':Hp}{op:V}{h:Sz43.Holds}(x:yR H op h)(k:NL H H'):yR H' op h:=by
 cases h with
 |same y=>exact x
 |made n a b=>obtain⟨h1,q,h2,h3⟩:=x;exact⟨h1,q,h2,k _ _ h3 (by intro z q;cases q)⟩
theorem EY(w:List Nat):PyData.depth (.tuple (iD w))<=2:=by have:=sP w;show PyData.depthAll _+1<=2;omega
theorem yS(a b c d:PyData):PyData.eqv (.tuple [a,b]) (.tuple [c,d])=(PyData.eqv a c&&PyData.eqv b d):=by show(PyData.eqv a c&&(PyData.eqv b d&&true))=_;rw[Gb]
theorem ZW:∀k,k<12->∀k',k'<12->Sz43.ops.getD k []=Sz43.ops.getD k' []->k=k':=by decide
def b8(K:ax):Kd K Sz43.Holds where
 at_:=Pg
 nl:=λ{H H' v a} h k=>by obtain⟨p,u,op,h1,h2,h3,h4⟩:=h;exact⟨p,u,op,h1,k _ _ h2 (by intro z q;cases q),k _ _ h3 (by intro z q;cases q),h4.nl k⟩
 dat:=jS
 dp:=λ{H v a} h=>by
  obtain⟨p,u,op,rfl,h2,h3,h4⟩:=h;cases a with
  |same y=>have h4:op=.au:=h4;subst h4;exact .tup (a8.of h2) (.cons .au (.cons (lE h3) .nil))
  |made k x y=>obtain⟨_,q,rfl,hq⟩:=h4;exact .tup (a8.of h2) (.cons (lE hq) (.cons (lE h3) .nil))
 ok:=EX
 yN:=λ{H v a} h=>by
  obtain⟨p,u,op,h1,h2,h3,h4⟩:=h;cases a with
  |same y=>trivial
  |made k x y=>exact h4.1
 eqv:=λ{a b} ha hb=>by
  cases a with
  |same y=>
   cases b with
   |same z=>show PyData.eqv (.tuple [.none,.tuple (iD [y])]) (.tuple [.none,.tuple (iD [z])])=_;rw[yS,qz,f9];show(true&&decide ([y]=[z]))=true ↔ _;simp
   |made k u v=>show PyData.eqv (.tuple [.none,_]) (.tuple [.tuple _,_])=_;rw[yS];rfl
  |made k u v=>
   cases b with
   |same z=>show PyData.eqv (.tuple [.tuple _,_]) (.tuple [.none,_])=_;rw[yS];rfl
   |made k' u' v'=>show PyData.eqv (.tuple [.tuple (iD _),.tuple (iD [u,v])]) (.tuple [.tuple (iD _),.tuple (iD [u',v'])])=_;rw[yS,qz,qz,f9];simp only[fe,pZ,Sz43.Holds.made.injEq,gu,and_true];exact and_congr_left λ_=>⟨ZW k ha k' hb,λe=>by rw[e]⟩
 EN:=λa=>by cases a<;>rfl
 EO:=λa=>by cases a<;>rfl
 lay:=λa=>by
  cases a with
  |same y=>rfl
  |made k u v=>show((PyData.tuple (iD _)).canLay0&&((PyData.tuple (iD [u,v])).canLay0&&true))=true;have e:∀w,(PyData.tuple (iD w)).canLay0=true:=rq;rw[e,e];rfl
 dep:=λa=>by
  have d2:∀x y:PyData,x.depth<=2->y.depth<=2->PyData.depth (.tuple [x,y])<=8:=λx y hx hy=>by
   show max x.depth (max y.depth (PyData.depthAll []))+1<=8;have:PyData.depthAll []<=1:=by decide
   omega
  cases a with
  |same y=>exact d2 _ _ (by decide) (EY _)
  |made k u v=>exact d2 _ _ (EY _) (EY _)
inductive Ph(t:Ad)(K:ax)(vs:List V)(H:Hp)(Q:VK)(e0:XK):Prop
 |mk (a:Addr) (i:Ins):vs=[.ref a]->IA t H a i->(∀v H',ae H H'->OA (b8 K) H' v (lV i)->Q v H')->Ph t K vs H Q e0
inductive Pj(t:Ad)(K:ax)(vs:List V)(H:Hp)(Q:VK)(e0:XK):Prop
 |mk (a kp:Addr) (i:Ins) (l:HL):vs=[.ref a,.ref kp]->IA t H a i->LA (b8 K) H kp l->((∀d,givesOf i=some d->d<l.length))->l.length<=100->(∀b H',ae H H'->(b=kp\/H b=none)->LA (b8 K) H' b (f6 i l)->Q (.ref b) H')->Pj t K vs H Q e0
inductive Pk(t:Ad)(vs:List V)(H:Hp)(Q:VK)(e0:XK):Prop
 |mk (p:Nat) (a:Addr) (v:V) (i:Ins):vs=[.int (p:Int),.ref a,v]->IA t H a i->(∀D H',ae H H'->H D=none->H' D=some (.lst (iw (e8 p i)))->Q (.ref D) H')->Pk t vs H Q e0
inductive Pl(t:Ad)(K:ax)(vs:List V)(H:Hp)(Q:VK)(e0:XK):Prop
 |mk (x:Addr) (p:Sz43.Program):vs=[.ref x]->fD t H x p->PO p->(∀bf ws B H',H' bf=some (.lst ws)->Paired (λv e=>dI (b8 K) H' v e) ws B->B.length=p.code.length+1->(∀j,(F.gt (Sz43.facts p.code) j=none ↔ gt B j=none)/\∀l,gt B j=some l->∀f,f∈Sz43.factsAt (Sz43.facts p.code) j ↔ f∈toF l)->(∀j l,gt B j=some l->l.length=p.vars.length)->ae H H'->Q (.ref bf) H')->Pl t K vs H Q e0
inductive Pm(K:ax)(vs:List V)(H:Hp)(Q:VK)(e0:XK):Prop
 |mk (v:Nat) (kp:Addr) (l:HL):vs=[.int (v:Int),.ref kp]->LA (b8 K) H kp l->v<l.length->Q (.int (dv l v:Int)) H->Pm K vs H Q e0
theorem EZ(d:Nat)(us:List Nat):inV (.int (d:Int)) (iw us)=decide (d∈us):=by
 unfold inV;rw[f9,mf,pZ];constructor
 ·rintro⟨y,hy,e⟩
  obtain⟨c,hc,rfl⟩:=d_.mp hy;have e:((c:Int)==(d:Int))=true:=e;have:c=d:=by have:=jX.mp e;omega
  rw[<-this];exact hc
 ·intro h;refine⟨.int (d:Int),d_.mpr ⟨d,h,rfl⟩,?_⟩;show((d:Int)==(d:Int))=true;simp
theorem E1(us:List Nat):(iw us).all iQ=true:=by rw[Gc];intro x hx;obtain⟨c,_,rfl⟩:=d_.mp hx;rfl
theorem ET{α β:Type}{F:α->β->Prop}{x:α}{y:β}(hxy:F x y){l₁:List α}{l₂:List β}{w:Nat}(h:Paired F l₁ l₂):Paired F (l₁.set w x) (l₂.set w y):=by
 induction h generalizing w with
 |nil=>exact .nil
 |cons r t ih=>
  cases w with
  |zero=>exact .cons hxy t
  |succ w=>exact .cons r ih
section
variable{P:Program}{w:World}{K:ax}{mg:Str->Option Value}{base:Heap}{t:Ad}
theorem ZX:aQ ["instruction"] ["instruction"] (aC Jm):=aS
theorem ZY(T:Txt K mg t):aG P w K mg base aR 1 t.AO t.BK ["instruction"] (Ph t K):=by
 refine T.wQ.ok ZX (λvs H Q E h=>?_) (λ_ A _ s H vs Q E hr h=>?_)
 ·obtain⟨_,_,rfl,_⟩:=h;rfl
 ·obtain⟨a,i,rfl,hI,k⟩:=h;refine⟨_,aq (aU (PW.pt (lg (aX HD (aE (pv 0) rfl) (fM (aa bJ (aa bJ af))) rfl) (k_ (aX zS (aE (pv 0) rfl) (aE (pv 0) rfl) rfl)))) (ak (aB fh)) aW) (ak (aB (fM (aa (aE (pv 0) rfl) (aa (aE (pv 0) rfl) af))))),?_⟩
  obtain⟨dx,u,op,ha,hu,hop⟩:=id hI;have cl:=T.cS;refine⟨_,rfl,a,_,dx,_,_,rfl,ha,cl,T.bH,bL,(by show 2<=sizeLine;decide),λtp htp=>?_⟩;have s1:=ae.new (o:=.tup [.str "copy",.str "operator"]) htp;refine⟨tp,_,rfl,.inr (a8.of aw),rfl,rfl,_,rfl,?_⟩;cases i with
  |copy d v=>
   refine aA ?_;refine⟨_,rfl,a,_,dx,_,_,rfl,s1 _ _ ha,cl,T.cO,c7,_,rfl,a,_,dx,_,_,rfl,s1 _ _ ha,cl,T.fO,gO,u,_,rfl,.inr (a8.of (s1 _ _ hu)),rfl,E1 _,_,rfl,?_⟩;show if (inV (.int (d:Int)) (iw [v]))=true then _ else _
   rw[EZ];have et:lV (.copy d v)=if d=v then none else some (.same v):=rfl
   by_cases e:d=v
   ·rw[ai e]at et;rw[bx (by simp[e])];refine aD ?_;refine k _ _ s1 ?_;rw[et];rfl
   ·rw[ah e]at et;rw[a9 (by simpa using e)];refine aA ?_;refine⟨_,rfl,a,_,dx,_,_,rfl,s1 _ _ ha,cl,T.mJ,qP,_,rfl,a,_,dx,_,_,rfl,s1 _ _ ha,cl,T.fO,gO,(by show 2<=sizeLine;decide),λq hq=>?_⟩;refine k _ _ (s1.trans (ae.new hq)) ?_;rw[et];exact⟨q,u,op,rfl,aw,ae.new hq _ _ (s1 _ _ hu),hop⟩
  |op n d v v'=>
   refine aA ?_;refine⟨_,rfl,a,_,dx,_,_,rfl,s1 _ _ ha,cl,T.cO,c7,_,rfl,a,_,dx,_,_,rfl,s1 _ _ ha,cl,T.fO,gO,u,_,rfl,.inr (a8.of (s1 _ _ hu)),rfl,E1 _,_,rfl,?_⟩;show if (inV (.int (d:Int)) (iw [v,v']))=true then _ else _
   rw[EZ];have et:lV (.op n d v v')=if d=v\/d=v' then none else some (.made n v v'):=rfl
   by_cases e:d=v\/d=v'
   ·rw[ai e]at et;rw[bx (by simpa using e)];refine aD ?_;refine k _ _ s1 ?_;rw[et];rfl
   ·rw[ah e]at et;rw[a9 (by simpa using e)];refine aA ?_;refine⟨_,rfl,a,_,dx,_,_,rfl,s1 _ _ ha,cl,T.mJ,qP,_,rfl,a,_,dx,_,_,rfl,s1 _ _ ha,cl,T.fO,gO,(by show 2<=sizeLine;decide),λq hq=>?_⟩;refine k _ _ (s1.trans (ae.new hq)) ?_;rw[et];obtain⟨h12,q',e1,e2⟩:=hop;exact⟨q,u,op,rfl,aw,ae.new hq _ _ (s1 _ _ hu),h12,q',e1,ae.new hq _ _ (s1 _ _ e2)⟩
  |_=>refine aD ?_;refine aD ?_;exact k _ _ s1 rfl
theorem ZZ:aQ ["place","instruction","held"] ["place","instruction","held"] (aC Jo):=aS
theorem Z0(T:Txt K mg t):aG P w K mg base aR 2 t.wx t.BN ["place","instruction","held"] (Pk t):=by
 refine T.wU.ok ZZ (λvs H Q E h=>?_) (λ_ A _ s H vs Q E hr h=>?_)
 ·obtain⟨_,_,_,_,rfl,_⟩:=h;rfl
 ·obtain⟨p,a,v,i,rfl,hI,k⟩:=h;refine⟨_,ak (aB (aP (yL T) hr rfl T.sW T.oJ.kp (xS T) .nil aH (aa (pv 0) (aa (pv 1) af)))),?_⟩;exact⟨_,rfl,_,rfl,p,a,i,rfl,hI,k⟩
theorem Pn:aQ ["instruction","held","given","behind","thing"] ["instruction","held"] (aC Aw):=aS
theorem Z2(T:Txt K mg t):aG P w K mg base aR 2 t.wu t.BM ["instruction","held"] (Pj t K):=by
 refine T.wR.ok Pn (λvs H Q E h=>?_) (λ_ A _ s H vs Q E hr h=>?_)
 ·obtain⟨_,_,_,_,rfl,_⟩:=h;rfl
 ·obtain⟨a,kp,i,l,rfl,hI,hk,hgv,ZS,k⟩:=h;have nd:=Pn.nd;refine⟨_,aq (aZ (i:=2) nd rfl (Or.inr rfl) (aE (pv 0) rfl))
   (aq (aU (PW.pt (lg (cR (iI (pv 2))) (k_ (jE (aP (OU T) hr rfl T.C3 T.sY.kp (LX T) .nil aH (aa (pv 0) af)))))) (ak (aB (pv 1))) aW)
   (aq (my (i:=3) (own:=[("thing",4)]) rfl nd rfl rfl rfl (gC (pv 1)) ?b1 (λs H C cl fp=>bD (i:=4) nd rfl (Or.inl rfl)) (λs H C cl fp=>eF) (λs H C cl fp=>iJ (PW.pt (jg (cR (mm (pv 4))) (jF (aX (r:=sr K false) zS (pv 2) (bc (r:=zR K) kf (pv 4) aL (λ_ _=>rfl)) rfl)))) fh (pv 4)))
   (aq (qh (aP (ZY T) hr rfl T.Kq T.wQ.kp (VM T) .nil aH (aa (pv 0) af)) (qg (pv 3) (pv 2) rn))
   (ak (aB (pv 3)))))),?_⟩
  ·show c9 ["instruction","held","given","behind","thing"] (aC Aw) _ _;exact⟨rfl,by decide+kernel,by decide+kernel,by decide+kernel,by decide+kernel⟩
  ·obtain⟨dx,u,op,ha,hu,hop⟩:=id hI;have cl:=T.cS;refine⟨_,rfl,a,_,dx,_,_,rfl,ha,cl,T.cO,c7,?_⟩;refine⟨_,rfl,_,rfl,?_⟩;cases hg:givesOf i with
   |none=>
    have eg:dZ i=.au:=by unfold dZ;rw[hg]
    have eh:f6 i l=l:=by unfold f6;rw[hg]
    rw[eh]at k;rw[eg];refine aD ?_;refine aD ?_;exact⟨_,rfl,k kp H (ae.refl H) (.inl rfl) hk⟩
   |some d=>
    have eg:dZ i=.int (d:Int):=by unfold dZ;rw[hg]
    rw[eg];refine aA ?_;refine⟨_,rfl,a,i,rfl,hI,_,rfl,?_⟩;by_cases hs:F.fY i=true
    ·have eh:f6 i l=l:=by unfold f6;rw[hg];exact ai hs
     rw[eh]at k;rw[hs];refine aD ?_;exact⟨_,rfl,k kp H (ae.refl H) (.inl rfl) hk⟩
    have eh:f6 i l=(l.map (mV d)).set d (lV i):=by unfold f6;rw[hg];exact ah hs
    rw[eh]at k;rw[nB]at hs;rw[hs];refine aA ?_;obtain⟨xs,hxs,hx⟩:=id hk;have lx:l.length=xs.length:=bC hx;refine⟨_,rfl,kp,rfl,⟨_,aj.of hxs⟩,λD' hD=>?_⟩;refine tM (xs:=xs) (λ_=>true) (λi y H=>∀o,(l.map (mV d))[i]? =some o->OA (b8 K) H y o) hD (by rw[bg];omega) (λH2 s2=>qB (aj.of (s2 _ _ hxs))) (λi y H H' r k o ho=>(r o ho).nl k) (λx=>rfl) (λi x H2 hi s2 A B hA hB=>?_) λys H2 s2 hL pr=>?_
    ·have il:i<l.length:=by have:=(bW.mp hi).1;omega
     have h1:=(cE hx (aN il) hi).nl s2.nl;have em:(l.map (mV d))[i]? =some (mV d l[i]):=by rw[bF,aN il];rfl
     refine aD (B:=B H2) ?_;refine⟨_,rfl,_,rfl,?_⟩;cases eo:l[i]with
     |none=>rw[eo]at h1 em;have h1:x=.au:=h1;rw[h1];refine aA ?_;refine aA ?_;refine⟨_,rfl,hA rfl _ _ (ae.refl _) λo ho=>?_⟩;rw[em]at ho;cases ho;rfl
     |some hh=>
      rw[eo]at h1 em;obtain⟨q,uu,oo,rfl,h2,h3,h4⟩:=id h1;refine aD ?_;refine⟨_,rfl,_,rfl,q,_,_,_,rfl,rfl,a8.of h2,bq (j:=1) rfl,uu,_,rfl,.inr (a8.of h3),rfl,E1 _,_,rfl,?_⟩;show if (inV (.int (d:Int)) (iw (fZ hh)))=true then _ else _
      rw[EZ];have ec:mV d (some hh)=if d∈fZ hh then none else some hh:=rfl
      by_cases e:d∈fZ hh
      ·rw[bx e];refine aD ?_;refine hA rfl _ _ (ae.refl _) λo ho=>?_
       rw[em,ec,ai e]at ho;cases ho;rfl
      ·rw[a9 e];refine aA ?_;refine⟨_,rfl,hA rfl _ _ (ae.refl _) λo ho=>?_⟩;rw[em,ec,ah e]at ho;cases ho;exact h1
    ·rw[kH,<-lx,<-aK (as:=l) (f:=mV d)]at pr;have pr:=kI pr;have ly:l.length=ys.length:=by have:=bC pr;rw[aK]at this;exact this
     have hd:=hgv d hg;refine⟨_,rfl,a,i,rfl,hI.nl s2.nl,λv H3 s3 hv=>?_⟩;refine⟨_,rfl,_,rfl,D',_,(d:Int),d,rfl,rfl,s3 _ _ hL,?_,?_⟩
     ·unfold iP;rw[ai (by omega),ai (by omega)];simp
     ·refine⟨_,rfl,k D' _ ((s2.trans s3).upd hD) (.inr hD) ⟨_,aw,?_⟩⟩;have nl3:NL H3 (upd H3 D' (.lst (ys.set d v))):=NL.qU (s3 _ _ hL);have pr':Paired (λo y=>OA (b8 K) (upd H3 D' (.lst (ys.set d v))) y o) (l.map (mV d)) ys:=Paired.c8 pr λo y r=>OA.nl (OA.nl r s3.nl) nl3
      exact ET (F:=λo y=>OA (b8 K) (upd H3 D' (.lst (ys.set d v))) y o) (OA.nl hv nl3) pr'
theorem Po:aQ ["program","first","name"] ["program"] (aC Ax):=aS
theorem Z3(T:Txt K mg t):aG P w K mg base aR 7 t.AR t.BO ["program"] (Pl t K):=by
 refine T.wV.ok Po (λvs H Q E h=>?_) (λ_ A _ s H vs Q E hr h=>?_)
 ·obtain⟨_,_,rfl,_⟩:=h;rfl
 ·obtain⟨x,p,rfl,hX,O,k⟩:=h;have nd:=Po.nd;have G:=O.good;have d6:=O.d6;have oB:=O9 (P:=P) (w:=w) (base:=base) (b8 K) (ua p.vars.length G.kK) T T.wR.kp T.wU.kp O.dQ O.d6
   (λvs H Q h=>by obtain⟨a,kp,i,l,rfl,hI,hk,hi,hl,k⟩:=h;exact⟨_,_,_,_,Z2 T,by decide,VN T,a,kp,i,l,rfl,hI,hk,λd hd=>by rw[hl];exact(G i hi).gv d hd,by omega,k⟩)
   (λvs H Q h=>by obtain⟨q,a,kp,i,l,rfl,hI,hk,hi,hl,k⟩:=h;exact⟨_,_,_,_,Z0 T,by decide,VO T,q,a,_,i,rfl,hI,k⟩)
  refine⟨_,aq (my (i:=1) (own:=[("name",2)]) rfl nd rfl rfl rfl (gC (aE (pv 0) rfl)) ?b1 (λs H C cl fp=>bD (i:=2) nd rfl (Or.inl rfl)) (λs H C cl fp=>eF) (λs H C cl fp=>fh)) (ak (aB (aP oB hr rfl T.C2 T.sX.kp (LW T) .nil aH (aa (aE (pv 0) rfl) (aa (pv 1) (aa (iH (v:=.ref t.wu) rfl T.Ks rfl) (aa (iH (v:=.ref t.wx) rfl T.Kt rfl) af))))))),?_⟩
  ·show c9 ["program","first","name"] (aC Ax) _ _;exact⟨rfl,by decide+kernel,by decide+kernel,by decide+kernel,by decide+kernel⟩
  ·obtain⟨dx,li,ns,hx,hli,qs,hns,hqs⟩:=hX;have ln:qs.length=p.vars.length:=bC hqs;refine⟨_,rfl,x,_,dx,_,_,rfl,hx,T.fz,T.lK,o8 _ _,ns,rfl,⟨_,aj.of hns⟩,λF hF=>?_⟩;refine lH (xs:=qs.map V.ref) (λ_=>.au) hF (by rw[aK,bg];omega) (λH2 s2=>qB (aj.of (s2 _ _ hns))) (λy=>rfl) (λi y H2 _ _ Q' k'=>k' H2 (ae.refl _)) ?_;intro H1 s1 uv;rw[um,aK,ln]at uv;have rp:∀(G:Option Sz43.Holds->V->Prop),G none .au->∀n,Paired G (List.replicate n none) (List.replicate n V.au):=by
    intro G hG n
    induction n with
    |zero=>exact .nil
    |succ n ih=>rw[vb,vb];exact .cons hG ih
   have lF:LA (b8 K) H1 F (ua p.vars.length G.kK).fst:=⟨_,uv,rp _ rfl _⟩;refine⟨_,rfl,x,_,dx,_,_,rfl,s1 _ _ hx,T.fz,T.kr,mR _ _,_,rfl,li,F,rfl,hli.same s1,lF,λbf ws B H' hb hE hW s'=>?_⟩;obtain⟨w1,w2,w3⟩:=hW.sol;refine k bf ws B H' hb hE hW.len (λj=>Zg G.kK (λi hi d hd=>(G i hi).gv d hd) hW.len hW.wf w1 (w2 0) w3 j) (λj l e=>hW.wf j l e) (s1.trans s')
theorem Pp:aQ ["variable","held","thing"] ["variable","held"] (aC Jp):=aS
theorem Z4(T:Txt K mg t):aG P w K mg base aR 1 t.AS t.BP ["variable","held"] (Pm K):=by
 refine T.wW.ok Pp (λvs H Q E h=>?_) (λ_ A _ s H vs Q E hr h=>?_)
 ·obtain⟨_,_,_,rfl,_⟩:=h;rfl
 ·obtain⟨v,kp,l,rfl,⟨xs,hxs,hx⟩,hv,k⟩:=h;have nd:=Pp.nd;refine⟨_,aq (aZ (i:=2) nd rfl (Or.inl rfl) (bc bA (pv 1) (pv 0) (λ_ _=>rfl)))
   (aq (aU (PW.pt (lg (cR (iI (pv 2))) (k_ (cR (mm (bc kf (pv 2) aL (λ_ _=>rfl))))))) (ak (aB (pv 0))) aW)
   (ak (aB (bc kf (bc kf (pv 2) aL (λ_ _=>rfl)) aL (λ_ _=>rfl))))),?_⟩
  have lx:l.length=xs.length:=bC hx;have hv':xs[v]? =some (xs[v]'(by omega)):=aN _;have h1:=cE hx (aN hv) hv';refine⟨_,rfl,_,rfl,kp,_,_,_,rfl,rfl,aj.of hxs,bq hv',?_⟩;generalize xs[v]'(by omega)=y at h1;have er:dv l v=match l[v]with |some (.same z)=>z |_=>v:=by unfold dv;rw[aN hv];rfl
  refine⟨_,rfl,_,rfl,?_⟩;cases eo:l[v]with
  |none=>rw[eo]at h1 er;have h1:y=.au:=h1;subst h1;refine aD ?_;refine aD ?_;rw[er]at k;exact⟨_,rfl,k⟩
  |some hh=>
   rw[eo]at h1 er;obtain⟨q,uu,oo,rfl,h2,h3,h4⟩:=h1;refine aA ?_;refine⟨_,rfl,q,_,_,_,rfl,rfl,a8.of h2,bq (j:=0) rfl,_,rfl,?_⟩;cases hh with
   |same z=>have h4:oo=.au:=h4;subst h4;refine aA ?_;rw[er]at k;exact⟨_,rfl,q,_,_,_,rfl,rfl,a8.of h2,bq (j:=1) rfl,uu,_,_,_,rfl,rfl,a8.of h3,bq (j:=0) rfl,k⟩
   |made n b c=>obtain⟨_,q',rfl,_⟩:=h4;refine aD ?_;rw[er]at k;exact⟨_,rfl,k⟩
end
end My
namespace My
open PySem L2
def dR(t:Ad)(H:Hp)(v:V):Option Ins->Prop
 |none=>v=.au
 |some i=>∃a,v=.ref a/\IA t H a i
theorem dR.nl{t:Ad}{H H':Hp}{v:V}{o:Option Ins}(h:dR t H v o)(k:NL H H'):dR t H' v o:=by
 cases o with
 |none=>exact h
 |some i=>obtain⟨a,h1,h2⟩:=h;exact⟨a,h1,h2.nl k⟩
def Z6(t:Ad)(H:Hp)(li:Addr)(l:List (Option Ins)):Prop:=∃vs,H li=some (.lst vs)/\Paired (λo v=>dR t H v o) l vs
theorem E2{α:Type}{F:Addr->α->Prop}{l:List α}{ys:List V}(h:Paired (λx y=>∃a,y=V.ref a/\F a x) l ys):∃is:List Addr,ys=is.map V.ref/\Paired F is l:=by
 induction h with
 |nil=>exact⟨[],rfl,.nil⟩
 |cons r _ ih=>obtain⟨a,rfl,ha⟩:=r;obtain⟨is,rfl,hi⟩:=ih;exact⟨a::is,rfl,.cons ha hi⟩
theorem Pq{α:Type}{G:α->V->Prop}{l:List (Option α)}{ys:List V}(h:Paired (λ(i:Nat) y=>∀x,l[i]? =some (some x)->G x y) ((List.range l.length).filter λi=>((l[i]?).bind id).isSome) ys):Paired G (l.filterMap id) ys:=by
 have gen:∀(l:List (Option α))(k:Nat)(R:Nat->V->Prop)(q:Nat->Bool)(ys:List V),(∀i x y,l[i]? =some (some x)->R (k+i) y->G x y)->(∀i,i<l.length->q (k+i)=((l[i]?).bind id).isSome)->Paired R (((List.range l.length).map (k+ ·)).filter q) ys->Paired G (l.filterMap id) ys:=by
  intro l
  induction l with
  |nil=>intro k R q ys _ _ h;cases h;exact .nil
  |cons o l ih=>
   intro k R q ys hR hq h;have q0:=hq 0 (by simp);have e:((List.range l.length).map Nat.succ).map (k+ ·)=(List.range l.length).map (k+1+ ·):=by rw[eQ];exact u7 λi _=>by simp;omega
   rw[b6,FW,bt,e,pY,q0]at h;have next:∀ys,Paired R (((List.range l.length).map (k+1+ ·)).filter q) ys->Paired G (l.filterMap id) ys:=λys h=>ih (k+1) R q ys (λi x y hx r=>hR (i+1) x y (by simpa using hx) (by rw[show k+(i+1)=k+1+i by omega];exact r)) (λi hi=>by rw[show k+1+i=k+(i+1) by omega,hq (i+1) (by simpa using hi)];simp) h
   cases o with
   |none=>exact next ys h
   |some x=>
    rw[ai (show(((some x::l)[0]?).bind id).isSome=true from rfl)]at h;cases h with
    |cons r t=>exact .cons (hR 0 x _ rfl r) (next _ t)
 refine gen l 0 (λ(i:Nat) y=>∀x,l[i]? =some (some x)->G x y) (λi=>((l[i]?).bind id).isSome) ys (λi x y hx g=>g x (by simpa using hx)) (λi _=>by simp) ?_;simpa using h
theorem E3{f g:Nat->Nat}{x:Ins}(h:∀t,tgt x=some t->f t=g t):sent f x=sent g x:=by
 cases x with
 |goto t=>exact f7 Ins.goto (h t rfl)
 |cond a t=>exact f7 (Ins.cond a) (h t rfl)
 |_=>rfl
theorem Z7(l:List (Option Ins)):Sz43.closed l=(l.filterMap id).map (sent (bK l)):=by
 rw[Rr,List.map_filterMap]
 congr 1
inductive Pr(t:Ad)(vs:List V)(H:Hp)(Q:VK)(e0:XK):Prop
 |mk (a mv:Addr) (i:Ins) (ms:List Nat):vs=[.ref a,.ref mv]->IA t H a i->H mv=some (.lst (iw ms))->((∀u,tgt i=some u->u<ms.length))->(∀b H',ae H H'->IA t H' b (sent (λu=>ms.getD u 0) i)->Q (.ref b) H')->Pr t vs H Q e0
inductive Pt(t:Ad)(vs:List V)(H:Hp)(Q:VK)(e0:XK):Prop
 |mk (li:Addr) (l:List (Option Ins)):vs=[.ref li]->Z6 t H li l->l.length<=256->((∀y,some y∈l->∀u,tgt y=some u->u<=l.length))->(∀D H',ae H H'->gR t H' D (Sz43.closed l)->Q (.ref D) H')->Pt t vs H Q e0
theorem uw(i:Ins):kG i=match tgt i with |some u=>.int (u:Int) |none=>.au:=by cases i<;>rfl
section
variable{P:Program}{w:World}{K:ax}{mg:Str->Option Value}{base:Heap}{t:Ad}
theorem Z8:aQ ["instruction","moved"] ["instruction","moved"] (aC Js):=aS
theorem Z9(T:Txt K mg t):aG P w K mg base aR 4 t.AX t.BU ["instruction","moved"] (Pr t):=by
 refine T.wY.ok Z8 (λvs H Q E h=>?_) (λ_ A _ s H vs Q E hr h=>?_)
 ·obtain⟨_,_,_,_,rfl,_⟩:=h;rfl
 ·obtain⟨a,mv,i,ms,rfl,hI,hm,ht,k⟩:=h;refine⟨_,aq (aU (cR (iI (aE (pv 0) rfl))) (ak (aB (pv 0))) aW) (ak (aB (aP (OS T) hr rfl T.C4 T.sZ.kp (LY T) .nil aH (aa (pv 0) (aa (bc bA (pv 1) (aE (pv 0) rfl) (λ_ _=>rfl)) af))))),?_⟩
  obtain⟨dx,u,op,ha,hu,hop⟩:=id hI;have cl:=T.cS;refine⟨_,rfl,a,_,dx,_,_,rfl,ha,cl,T.fv,gN,_,rfl,?_⟩;have ep:=uw i;cases hq:tgt i with
  |none=>
   rw[hq]at ep;rw[ep];refine aD ?_;refine⟨_,rfl,k a H (ae.refl H) ?_⟩;have e:sent (λu=>ms.getD u 0) i=i:=by cases i<;>first |rfl |cases hq
   rw[e];exact hI
  |some v=>
   rw[hq]at ep;rw[ep];refine aA ?_;have hv:=ht v hq;have gm:(iw ms)[v]? =some (.int (ms.getD v 0:Int)):=by unfold iw;rw[bF,aN hv,fJ,aN hv];rfl
   refine⟨_,rfl,_,rfl,_,rfl,a,_,dx,_,_,rfl,ha,cl,T.fv,gN,mv,_,_,_,rfl,ep,aj.of hm,bq gm,a,i,_,rfl,hI,by rw[hq];rfl,λb H' s hb=>k b H' s ?_⟩;rw[E3 (g:=λ_=>ms.getD v 0) λu hu=>by rw[hq]at hu;cases hu;rfl];exact hb
theorem Pu:aQ ["instructions","moved","count","instruction"] ["instructions"] (aC Ay):=aS
theorem uz(T:Txt K mg t):aG P w K mg base aR 5 t.AW t.BS ["instructions"] (Pt t):=by
 refine T.mG.ok Pu (λvs H Q E h=>?_) (λ_ A _ s H vs Q E hr h=>?_)
 ·obtain⟨_,_,rfl,_⟩:=h;rfl
 ·obtain⟨li,l,rfl,⟨xs,hli,hx⟩,h256,ht,k⟩:=h;have nd:=Pu.nd;refine⟨_,aq (aZ (i:=1) nd rfl (Or.inr rfl) (cD af))
   (aq (aZ (i:=2) nd rfl (Or.inl rfl) aL)
   (aq (gF gp rfl (gC (pv 0)) (bD (i:=3) nd rfl (Or.inl rfl)) (aq (fk (gJ gq j7 j8 jk (pv 1) (aa (pv 2) af))) (ak (aU (cR (mm (pv 3))) (ak (aZ (i:=2) nd rfl (Or.inl rfl) (bU ji (pv 2) aL))) aW))))
   (aq (fk (gJ gq j7 j8 jk (pv 1) (aa (pv 2) af)))
   (ak (aB (ia (own:=[("instruction",3)]) rfl nd (gC (pv 0)) ?b1 (λs H C cl fp=>bD (i:=3) nd rfl (Or.inl rfl)) (λs H C cl fp=>HW (cR (mm (pv 3)))) (λs H C cl fp=>aP (Z9 T) hr rfl T.Kx T.wY.kp (VS T) .nil aH (aa (pv 3) (aa (pv 1) af))))))))),?_⟩
  ·show c9 ["instructions","moved","count","instruction"] (aC Ay) _ _;exact⟨rfl,by decide+kernel,by decide+kernel,by decide+kernel,by decide+kernel⟩
  ·have lx:l.length=xs.length:=bC hx;refine⟨b9 _,λmv uA=>?_⟩;have s0:ae H (upd H mv (.lst [])):=ae.new uA;have nlm:li≠mv:=aJ hli uA;refine dW ?_;refine⟨_,rfl,li,rfl,⟨_,aj.of (s0 _ _ hli)⟩,lu (K:=K) (a:=li) (xs:=xs) (λi σ Hh=>∃v3:Option V,σ=[some (.ref li),some (.ref mv),some (.int (bK l i:Int)),v3]/\Hh mv=some (.lst (iw ((List.range i).map (bK l))))/\ae H Hh) ⟨none,rfl,aw,s0⟩ (λi σ Hh _ ⟨_,_,_,e⟩=>aj.of (e _ _ hli)) ?_ ?_⟩
   ·rintro i y σ Hh hy ⟨v3,rfl,hm,sm⟩
    have il:i<l.length:=by have:=(bW.mp hy).1;omega
    refine⟨_,rfl,.inl ⟨rfl,_,aj.of hm⟩,_,rfl,mv,_,_,rfl,rfl,hm,(by rw[bG,aK,gr,bg];omega),?_⟩;rw[<-pB];have er:(List.range i).map (bK l)++[bK l i]=(List.range (i+1)).map (bK l):=by rw[rO,eU];rfl
    rw[er];have h1:=cE hx (aN il) hy;refine⟨_,rfl,_,rfl,?_⟩;cases eo:l[i]with
    |none=>rw[eo]at h1;have h1:y=.au:=h1;rw[h1];refine aA ?_;have e:bK l (i+1)=bK l i:=Og (by rw[aN il,eo]);exact⟨_,by rw[e];rfl,aw,sm.upd uA⟩
    |some x=>rw[eo]at h1;obtain⟨a,rfl,h1⟩:=h1;refine aD ?_;have e:bK l (i+1)=bK l i+1:=Of (by rw[aN il,eo]);exact⟨_,rfl,_,_,rfl,rfl,some (.ref a),by rw[e];rfl,aw,sm.upd uA⟩
   ·rintro σ Hh ⟨v3,rfl,hm,sm⟩
    rw[<-lx]at hm;refine dW ?_;refine⟨_,rfl,.inl ⟨rfl,_,aj.of hm⟩,_,rfl,mv,_,_,rfl,rfl,hm,(by rw[bG,aK,gr,bg];omega),?_⟩;rw[<-lx,<-pB];have er:(List.range l.length).map (bK l)++[bK l l.length]=(List.range (l.length+1)).map (bK l):=by rw[rO,eU];rfl
    rw[er];obtain⟨H2,E4⟩:∃H2,H2=upd Hh mv (.lst (iw ((List.range (l.length+1)).map (bK l)))):=⟨_,rfl⟩;rw[<-E4];have hm2:H2 mv=some (.lst (iw ((List.range (l.length+1)).map (bK l)))):=by rw[E4];exact aw
    have sm2:ae H H2:=by rw[E4];exact sm.upd uA
    refine⟨_,rfl,li,rfl,⟨_,aj.of (sm2 _ _ hli)⟩,λD hD=>?_⟩;refine tM (xs:=xs) (λi=>((l[i]?).bind id).isSome) (λi y H=>∀x,l[i]? =some (some x)->∃a,y=.ref a/\IA t H a (sent (bK l) x)) hD (by rw[bg];omega) (λH3 s3=>qB (aj.of ((sm2.trans s3) _ _ hli))) (λi y H H' r k x hx=>by obtain⟨a,e,h⟩:=r x hx;exact⟨a,e,h.nl k⟩) (λx=>rfl) (λi y H3 hi s3 A B hA hB=>?_) λys H3 s3 hL pr=>?_
    ·have il:i<l.length:=by have:=(bW.mp hi).1;omega
     have gl:l[i]? =some l[i]:=aN il;have h0:=cE (F:=λo v=>dR t H v o) hx gl hi;have h0:dR t H y l[i]:=h0;have h1:=h0.nl (sm2.trans s3).nl;refine⟨_,rfl,_,rfl,?_⟩;rw[gl]at hA hB;cases eo:l[i]with
     |none=>rw[eo]at h1 hB;have h1:y=.au:=h1;rw[h1];exact aA (hB rfl _ (ae.refl _))
     |some x=>
      rw[eo]at h1 hA gl;obtain⟨a,rfl,h1⟩:=h1;refine aD ?_;have hx:∀u,tgt x=some u->u<=l.length:=ht x (bu gl);refine⟨_,rfl,_,rfl,a,mv,x,_,rfl,h1,s3 _ _ hm2,λu hu=>by have:=hx u hu;rw[aK,gr];omega,λb H4 s4 hb=>hA rfl _ _ s4 λx' hx'=>?_⟩;cases hx';refine⟨b,rfl,?_⟩;rw[E3 (g:=λu=>((List.range (l.length+1)).map (bK l)).getD u 0) λu hu=>by have:=hx u hu;rw[fJ,bF,RO (by omega)];rfl]
      exact hb
    ·rw[<-lx]at pr;obtain⟨is,rfl,hi⟩:=E2 (F:=λa x=>IA t H3 a (sent (bK l) x)) (Pq pr);refine k D H3 (sm2.trans s3) ⟨is,hL,?_⟩;rw[Z7];clear pr hL;have mp:∀{is:List Addr}{c:List Ins},Paired (λa x=>IA t H3 a (sent (bK l) x)) is c->Paired (λa i=>IA t H3 a i) is (c.map (sent (bK l))):=by
      intro is c h
      induction h with
      |nil=>exact .nil
      |cons r _ ih=>exact .cons r ih
     exact mp hi
end
end My
namespace My
open PySem L2
theorem yT(x:Int):Builtin.bitNot (Builtin.bitNot x)=x:=by unfold Builtin.bitNot;omega
theorem E5(a b:Nat):Builtin.bitOr (a:Int) (b:Int)=((a|||b:Nat):Int):=by unfold Builtin.bitOr Builtin.bitAnd;have h1:decide (0<=Builtin.bitNot (a:Int))=false:=a9 (by unfold Builtin.bitNot;omega);have h2:decide (0<=Builtin.bitNot (b:Int))=false:=a9 (by unfold Builtin.bitNot;omega);rw[h1,h2];show Builtin.bitNot (Builtin.bitNot _)=_;rw[yT,yT,yT];rfl
theorem Z_(a b:Nat):Builtin.bitAnd (a:Int) (Builtin.bitNot (b:Int))=((mX a b:Nat):Int):=by unfold Builtin.bitAnd mX;have h1:decide (0<=(a:Int))=true:=bx (by omega);have h2:decide (0<=Builtin.bitNot (b:Int))=false:=a9 (by unfold Builtin.bitNot;omega);rw[h1,h2];show(a:Int)-((a&&& (Builtin.bitNot (Builtin.bitNot (b:Int))).toNat:Nat):Int)=_;rw[yT];have:=RG (n:=a) (m:=b);have e:(b:Int).toNat=b:=y_ b;rw[e];omega
theorem aaa(a b:Nat):Builtin.bitAnd (a:Int) (b:Int)=((a&&& b:Nat):Int):=by unfold Builtin.bitAnd;have h1:decide (0<=(a:Int))=true:=bx (by omega);have h2:decide (0<=(b:Int))=true:=bx (by omega);rw[h1,h2];rfl
theorem Pw(a b:Nat):V.int (Builtin.bitOr (a:Int) (b:Int))=V.int ((a|||b:Nat):Int):=f7 V.int (E5 a b)
inductive E6(vs:List V)(H:Hp)(Q:VK)(e0:XK):Prop
 |mk (v:Nat):vs=[.int (v:Int)]->v<=64->Q (.int ((2^v:Nat):Int)) H->E6 vs H Q e0
inductive Px(t:Ad)(vs:List V)(H:Hp)(Q:VK)(e0:XK):Prop
 |mk (a:Addr) (i:Ins):vs=[.ref a]->IA t H a i->((∀v∈usesOf i,v<=64))->Q (.int (ue i:Int)) H->Px t vs H Q e0
inductive Py(t:Ad)(vs:List V)(H:Hp)(Q:VK)(e0:XK):Prop
 |mk (p:Nat) (a nd:Addr) (i:Ins) (N:List Nat):vs=[.int (p:Int),.ref a,.ref nd]->IA t H a i->H nd=some (.lst (iw N))->((∀j∈e8 p i,j<N.length))->((∀v∈usesOf i,v<=64))->((∀d,givesOf i=some d->d<=64))->(∀H',ae H H'->Q (.int (dw p i N:Int)) H')->Py t vs H Q e0
inductive Pz(t:Ad)(vs:List V)(H:Hp)(Q:VK)(e0:XK):Prop
 |mk (x:Addr) (p:Sz43.Program):vs=[.ref x]->fD t H x p->PO p->(∀nd N H',H' nd=some (.lst (iw N))->N.length=p.code.length+1->(∀j v,(N.getD j 0).testBit v=true ↔ jQ p.code v j)->ae H H'->Q (.ref nd) H')->Pz t vs H Q e0
theorem E7{N:List Nat}{j:Nat}(h:j<N.length):(iw N)[j]? =some (.int (N.getD j 0:Int)):=by unfold iw;rw[bF,aN h,fJ,aN h];rfl
theorem PB(N:List Nat)(j b:Nat):(iw N).set j (.int (b:Int))=iw (N.set j b):=by unfold iw;rw[List.map_set]
section
variable{P:Program}{w:World}{K:ax}{mg:Str->Option Value}{base:Heap}{t:Ad}
theorem aab:aQ ["variable"] ["variable"] (aC JN):=aS
theorem E8(T:Txt K mg t):aG P w K mg base aR 1 t.A6 t.Cj ["variable"] E6:=by
 refine T.qG.ok aab (λvs H Q E h=>?_) (λ_ A _ s H vs Q E hr h=>?_)
 ·obtain⟨_,rfl,_⟩:=h;rfl
 ·obtain⟨v,rfl,hv,k⟩:=h;refine⟨_,ak (aB (bU GL aL (pv 0))),?_⟩;refine⟨_,rfl,_,_,rfl,rfl,⟨by omega,by omega,by decide⟩,?_⟩;show Q (.int ((1:Int)*2^(v:Int).toNat)) H;rw[y_,Int.one_mul];have e:(2:Int)^v=((2^v:Nat):Int):=by norm_cast
  rw[e];exact k
theorem PD:aQ ["instruction","bits","variable"] ["instruction"] (aC JO):=aS
theorem aac(T:Txt K mg t):aG P w K mg base aR 2 t.A7 t.Ck ["instruction"] (Px t):=by
 refine T.xk.ok PD (λvs H Q E h=>?_) (λ_ A _ s H vs Q E hr h=>?_)
 ·obtain⟨_,_,rfl,_⟩:=h;rfl
 ·obtain⟨a,i,rfl,hI,eV,k⟩:=h;have nd:=PD.nd;refine⟨_,aq (aZ (i:=1) nd rfl (Or.inl rfl) aL)
   (aq (gF gp rfl (lh (aE (pv 0) rfl)) (bD (i:=2) nd rfl (Or.inl rfl)) (ak (aZ (i:=1) nd rfl (Or.inl rfl) (bU vw (pv 1) (aP (E8 T) hr rfl T.xj T.qG.kp (DK T) .nil aH (aa (pv 2) af))))))
   (ak (aB (pv 1)))),?_⟩
  obtain⟨dx,u,op,ha,hu,hop⟩:=id hI;have cl:=T.cS;refine dW ?_;refine⟨_,rfl,a,_,dx,_,_,rfl,ha,cl,T.fO,gO,u,rfl,⟨_,a8.of hu⟩,zD (K:=K) (a:=u) (xs:=iw (usesOf i)) (λr σ Hh=>∃v2:Option V,σ=[some (.ref a),some (.int ((((usesOf i).take r).foldl (λb v=>b|||2^v) 0:Nat):Int)),v2]/\Hh=H) ⟨none,rfl,rfl⟩ (λr σ Hh _ ⟨_,_,e⟩=>by rw[e];exact a8.of hu) ?_ ?_⟩
  ·rintro r y σ Hh hy ⟨v2,rfl,rfl⟩
   obtain⟨c,hc,rfl⟩:=ky hy;refine⟨_,rfl,_,rfl,c,rfl,eV c (bu hc),_,_,rfl,rfl,some (.int (c:Int)),?_,rfl⟩;rw[iB,hc,zi,Pw];rfl
  ·rintro σ Hh ⟨v2,rfl,rfl⟩
   rw[bG,j0];exact⟨_,rfl,k⟩
theorem PF:aQ ["place","instruction","needed","bits","way"] ["place","instruction","needed"] (aC JP):=aS
theorem aad(T:Txt K mg t):aG P w K mg base aR 3 t.A8 t.Cm ["place","instruction","needed"] (Py t):=by
 refine T.xl.ok PF (λvs H Q E h=>?_) (λ_ A _ s H vs Q E hr h=>?_)
 ·obtain⟨_,_,_,_,_,rfl,_⟩:=h;rfl
 ·obtain⟨p,a,ne,i,N,rfl,hI,hN,hw,eV,hgv,k⟩:=h;have nd:=PF.nd;have hr1:=hr.mono (show 1<=2 by decide);refine⟨_,aq (aZ (i:=3) nd rfl (Or.inl rfl) aL)
   (aq (gF gp rfl (gC (aP (yL T) hr1 rfl T.sW T.oJ.kp (xS T) .nil aH (aa (pv 0) (aa (pv 1) af)))) (bD (i:=4) nd rfl (Or.inl rfl)) (ak (aZ (i:=3) nd rfl (Or.inl rfl) (bU vw (pv 3) (bc bA (pv 2) (pv 4) (λ_ _=>rfl))))))
   (aq (aU (cR (mm (aE (pv 1) rfl))) (ak (aZ (i:=3) nd rfl (Or.inl rfl) (bU r_ (pv 3) (mq SX (aP (E8 T) hr1 rfl T.xj T.qG.kp (DK T) .nil aH (aa (aE (pv 1) rfl) af)))))) aW)
   (ak (aB (bU vw (pv 3) (aP (aac T) hr rfl T.KJ T.xk.kp (We T) .nil aH (aa (pv 1) af))))))),?_⟩
  refine dW ?_;refine⟨_,rfl,_,rfl,p,a,i,rfl,hI,λD H1 s1 hD eD=>?_⟩;refine⟨D,rfl,⟨_,aj.of eD⟩,lu (K:=K) (a:=D) (xs:=iw (e8 p i)) (λr σ Hh=>∃v4:Option V,σ=[some (.int (p:Int)),some (.ref a),some (.ref ne),some (.int (lW N ((e8 p i).take r):Int)),v4]/\Hh=H1) ⟨none,rfl,rfl⟩ (λr σ Hh _ ⟨_,_,e⟩=>by rw[e];exact aj.of eD) ?_ ?_⟩
  ·rintro r y σ Hh hy ⟨v4,rfl,rfl⟩
   obtain⟨c,hc,rfl⟩:=ky hy;refine⟨_,rfl,_,rfl,_,rfl,ne,_,_,_,rfl,rfl,aj.of (s1 _ _ hN),bq (E7 (hw c (bu hc))),_,_,rfl,rfl,some (.int (c:Int)),?_,rfl⟩;rw[iB,hc,Pw];unfold lW;rw[zi];rfl
  ·rintro σ Hh ⟨v4,rfl,rfl⟩
   rw[bG,j0];have jR:=hI.nl s1.nl;obtain⟨dx,u,op,ha,hu,hop⟩:=id jR;have cl:=T.cS;refine⟨_,rfl,a,_,dx,_,_,rfl,ha,cl,T.cO,c7,_,rfl,?_⟩;have eN:dw p i N=(match givesOf i with |some d=>mX (lW N (e8 p i)) (2^d) |none=>lW N (e8 p i))|||ue i:=rfl
   cases hg:givesOf i with
   |none=>
    have eg:dZ i=.au:=by unfold dZ;rw[hg]
    rw[hg]at eN;rw[eg];refine aA ?_;refine⟨_,rfl,_,rfl,a,i,rfl,jR,eV,_,_,rfl,rfl,?_⟩;show Q (.int (Builtin.bitOr _ _)) _;rw[E5,<-eN];exact k _ s1
   |some d=>
    have eg:dZ i=.int (d:Int):=by unfold dZ;rw[hg]
    rw[hg]at eN;rw[eg];refine aD ?_;refine⟨_,rfl,_,rfl,a,_,dx,_,_,rfl,ha,cl,T.cO,c7,d,(by rw[eg];rfl),hgv d hg,_,rfl,_,_,rfl,rfl,?_⟩;refine⟨_,rfl,_,rfl,a,i,rfl,jR,eV,((mX (lW N (e8 p i)) (2^d):Nat):Int),_,f7 V.int (Z_ _ _),rfl,?_⟩;show Q (.int (Builtin.bitOr _ _)) _;rw[E5,<-eN];exact k _ s1
theorem PH:aQ ["program","instructions","needed","changed","place","bits"] ["program"] (aC AD):=aS
theorem aae(T:Txt K mg t):aG P w K mg base aR 4 t.A9 t.Cn ["program"] (Pz t):=by
 refine T.xm.ok PH (λvs H Q E h=>?_) (λ_ A _ s H vs Q E hr h=>?_)
 ·obtain⟨_,_,rfl,_⟩:=h;rfl
 ·obtain⟨x,p,rfl,hX,O,k⟩:=h;have nd:=PH.nd;refine⟨_,aq (aZ (i:=1) nd rfl (Or.inl rfl) (aE (pv 0) rfl))
   (aq (my (i:=2) (own:=[("place",4)]) rfl nd rfl rfl rfl (vp rfl T.qL (aa (bU ji (cp dE rfl T.c_ dA (aa (pv 1) af)) aL) af)) ?b1 (λs H C cl fp=>bD (i:=4) nd rfl (Or.inl rfl)) (λs H C cl fp=>eF) (λs H C cl fp=>aL))
   (aq (aZ (i:=3) nd rfl (Or.inl rfl) ml)
   (aq (vo gp (jE (pv 3)) (aq (aZ (i:=3) nd rfl (Or.inl rfl) ml) (ak (gF gp rfl (Uz rfl T.qL (aa (bU rZ (cp dE rfl T.c_ dA (aa (pv 1) af)) aL) (aa (mq nL aL) (aa (mq nL aL) af)))) (bD (i:=4) nd rfl (Or.inl rfl)) (aq (aZ (i:=5) nd rfl (Or.inl rfl) (aP (aad T) hr rfl T.KN T.xl.kp (Wg T) .nil aH (aa (pv 4) (aa (bc bA (pv 1) (pv 4) (λ_ _=>rfl)) (aa (pv 2) af))))) (ak (aU (aX vy (pv 5) (bc bA (pv 2) (pv 4) (λ_ _=>rfl)) (aY _)) (aq (qh (pv 5) (qg (pv 2) (pv 4) rn)) (ak (aZ (i:=3) nd rfl (Or.inl rfl) ml))) aW)))))))
   (ak (aB (pv 2)))))),?_⟩
  ·show c9 ["program","instructions","needed","changed","place","bits"] (aC AD) _ _;exact⟨rfl,by decide+kernel,by decide+kernel,by decide+kernel,by decide+kernel⟩
  ·obtain⟨dx,li,ns,hx,⟨is,hli,cQ⟩,_⟩:=hX;have ln:is.length=p.code.length:=bC cQ;have h256:=O.dQ;have h64:=O.d6;have G:=O.good;refine⟨_,rfl,x,_,dx,_,_,rfl,hx,T.fz,T.kr,mR _ _,?_⟩;refine⟨_,rfl,li,_,rfl,.inl (aj.of hli),_,_,rfl,rfl,((p.code.length+1:Nat):Int),?_,by omega,by omega,λne hne=>?_⟩
   ·show[V.int (((is.map V.ref).length:Int)+1)]=_;rw[aK,ln];rfl
   refine lH (xs:=(List.range (p.code.length+1)).map λ(i:Nat)=>V.int (0+i)) (λ_=>.int 0) hne (by rw[aK,gr,bg];omega) (λH2 _=>I_) (λy=>rfl) (λi y H2 _ _ Q' k'=>k' H2 (ae.refl _)) ?_;intro H1 s1 E9;rw[um,aK,gr]at E9;have e0:List.replicate (p.code.length+1) (V.int 0)=iw (List.replicate (p.code.length+1) 0):=by unfold iw;rw[List.map_replicate];rfl
   rw[e0]at E9;have nln:li≠ne:=aJ hli hne;refine dW ?_;refine dW (SQ (λσ Hh=>∃(N:List Nat)(ch:Bool)(v4 v5:Option V),σ=[some (.ref x),some (.ref li),some (.ref ne),some (.bl ch),v4,v5]/\Hh ne=some (.lst (iw N))/\gf p.code p.vars.length N/\(ch=false->∀q i,p.code[q]? =some i->N.getD q 0=dw q i N)/\ae H Hh)
    (λσ Hh=>(match Hh ne with |some (.lst ys)=>kO p.vars.length (ys.map λy=>match y with | .int z=>z.toNat |_=>0) |_=>0)+(match σ[3]? with |some (some (.bl true))=>1 |_=>0)) ⟨_,true,none,none,rfl,E9,gf.start,λe=>(by cases e),s1⟩ ?_ ?_)
   ·rintro σ Hh ⟨N,ch,v4,v5,rfl,hN,NI,hch,sm⟩
    have back:∀N:List Nat,(iw N).map (λy=>match y with | .int z=>z.toNat |_=>0)=N:=by
     intro N;unfold iw;rw[eQ]
     conv=>rhs;rw[<-Gh N]
     exact u7 λc _=>rfl
    refine⟨_,rfl,_,rfl,?_⟩;cases ch with
    |false=>refine aA ?_;have lN:=NI.len;exact⟨_,rfl,k ne N Hh hN lN (λj v=>NI.done (hch rfl)) sm⟩
    |true=>
     refine aD ?_;rw[hN];dsimp only;rw[back];have hlen:(is.map V.ref).length=p.code.length:=by rw[aK];exact ln
     refine dW ?_;have hrg:sH ((p.code.length:Int)-1) (-1) (-1) p.code.length:=by have:=sH.neg (i:=(p.code.length:Int)-1) (j:= -1) (by omega) (by omega) (by omega) (by omega);rw[show((p.code.length:Int)-1- -1).toNat=p.code.length by omega]at this;exact this
     refine⟨_,rfl,li,_,rfl,.inl (aj.of (sm _ _ hli)),_,_,rfl,rfl,_,rfl,_,rfl,(p.code.length:Int)-1,-1,-1,p.code.length,?_,hrg,?_⟩
     ·show[V.int (((is.map V.ref).length:Int)-1),_,_]=_;rw[hlen]
     refine UA (lo:=(p.code.length:Int)-1) (c:= -1) (n:=p.code.length) (λr σ Hr=>∃(N':List Nat)(ch:Bool)(v4 v5:Option V),σ=[some (.ref x),some (.ref li),some (.ref ne),some (.bl ch),v4,v5]/\Hr ne=some (.lst (iw N'))/\gf p.code p.vars.length N'/\kO p.vars.length N'+(if ch=true then 1 else 0)<=kO p.vars.length N/\(ch=false->∀q i,p.code.length-r<=q->p.code[q]? =some i->N'.getD q 0=dw q i N')/\ae H Hr) ⟨N,false,v4,v5,rfl,hN,NI,aI _,λ_ q i hq hi=>absurd (gT hi) (by omega),sm⟩ ?_ ?_
     ·rintro r σ Hr hr' ⟨N',ch,v4,v5,rfl,pD,uB,hm,hch',sm'⟩
      obtain⟨q,eq⟩:∃q:Nat,q=p.code.length-(r+1):=⟨_,rfl⟩;have hq:q<p.code.length:=by omega
      have ei:(p.code.length:Int)-1+(r:Nat)* -1=(q:Int):=by omega
      rw[ei];obtain⟨i,hi⟩:∃i,p.code[q]? =some i:=⟨_,aN hq⟩;obtain⟨a,hai⟩:∃a,is[q]? =some a:=⟨_,aN (by omega)⟩;have hI:=(cE (F:=λa i=>IA t H a i) cQ hai hi).nl sm'.nl;have O':=G i (bu hi);have lN:=uB.len;refine⟨_,rfl,_,rfl,_,rfl,li,_,_,_,rfl,rfl,aj.of (sm' _ _ hli),bq (by rw[bF,hai];rfl),_,rfl,q,a,ne,i,N',rfl,hI,pD,λj hj=>by have:=G.kK q i hi j (pw.mp hj);omega,λv hv=>by have:=O'.us v hv;omega,λd hd=>by have:=O'.gv d hd;omega,λH3 s3=>?_⟩;refine⟨_,rfl,_,rfl,_,rfl,ne,_,_,_,rfl,rfl,aj.of (s3 _ _ pD),bq (E7 (by omega)),rfl,_,rfl,?_⟩;rw[d5];by_cases e:dw q i N'=N'.getD q 0
      ·rw[bx e];refine aA ?_;refine⟨N',ch,_,_,rfl,s3 _ _ pD,uB,hm,λhc q' i' hq' hi'=>?_,sm'.trans s3⟩;by_cases eq':q'=q
       ·subst eq';rw[hi]at hi';cases hi';exact e.symm
       ·exact hch' hc q' i' (by omega) hi'
      ·rw[a9 e];refine aD ?_;obtain⟨NI2,m2⟩:=uB.step G hi e;refine⟨_,rfl,_,rfl,_,rfl,ne,_,_,q,rfl,rfl,s3 _ _ pD,?_,?_⟩
       ·unfold iP;rw[bG,ai (by omega),ai (by omega)];simp
       rw[PB];refine⟨_,true,_,_,rfl,aw,NI2,?_,λhc=>(by cases hc),(sm'.trans s3).upd hne⟩;rw[ai rfl];split at hm<;>omega
     ·rintro σ Hr ⟨N',ch,v4,v5,rfl,pD,uB,hm,hch',sm'⟩
      refine⟨⟨N',ch,v4,v5,rfl,pD,uB,λhc q i hi=>hch' hc q i (by omega) hi,sm'⟩,?_⟩;rw[pD];dsimp only;rw[back];cases ch with
      |true=>rw[ai rfl]at hm;show kO _ N'+1<kO _ N+1;omega
      |false=>rw[ah (by decide)]at hm;show kO _ N'+0<kO _ N+1;omega
   ·intro σ Hh Q1 Q2 hq h;obtain⟨v,h1,c,h2,h3⟩:=h;exact⟨v,h1,c,h2,hq _ _ h3⟩
end
end My
namespace My
open PySem L2
def gW(S:List Nat):List (Key×V):=S.map λ(s:Nat)=>(Sum.inl (s:Int),V.bl true)
theorem uC(n:Nat):∀S:List Nat,bV (gW S) (Sum.inl (n:Int):Key)=if n∈S then some (V.bl true)else none
 |[]=>rfl
 |s::S=>by
  have ih:=uC n S;unfold gW at ih ⊢;rw[bt];by_cases e:s=n
  ·subst e;rw[f_ rfl,ai (by simp)]
  ·have e1:¬(Sum.inl (s:Int):Key)=Sum.inl (n:Int):=λz=>e (by injection z with z;omega)
   rw[gb e1,ih];exact rf (by simp[cu e]) _ _
theorem PJ{n:Nat}{S:List Nat}(h:n ∉ S):dJ (gW S) (Sum.inl (n:Int):Key) (.bl true)=gW (S++[n]):=by
 have e:bV (gW S) (Sum.inl (n:Int):Key)=none:=by rw[uC,ah h]
 unfold dJ;rw[qt,e,ah (by simp)];unfold gW;rw[eU];rfl
theorem PL(S:List Nat):(gW S).length=S.length:=aK _
def jT(c:Sz43.Code)(u:Nat):Nat:=(Sz43.follow c (c.length+1) u).getD u
inductive PM(t:Ad)(vs:List V)(H:Hp)(Q:VK)(e0:XK):Prop
 |mk (p:Nat) (li:Addr) (c:Sz43.Code):vs=[.int (p:Int),.ref li]->gR t H li c->F.fE c->p<=c.length->c.length<=256->(∀H',ae H H'->Q (.int (jT c p:Int)) H')->PM t vs H Q e0
inductive PN(t:Ad)(vs:List V)(H:Hp)(Q:VK)(e0:XK):Prop
 |mk (a li:Addr) (i:Ins) (c:Sz43.Code):vs=[.ref a,.ref li]->IA t H a i->gR t H li c->F.fE c->((∀u,tgt i=some u->u<=c.length))->c.length<=256->(∀b H',ae H H'->IA t H' b (sent (jT c) i)->Q (.ref b) H')->PN t vs H Q e0
inductive PQ(t:Ad)(vs:List V)(H:Hp)(Q:VK)(e0:XK):Prop
 |mk (li:Addr) (c:Sz43.Code):vs=[.ref li]->gR t H li c->F.fE c->c.length<=256->(∀d S H',H' d=some (.dK (gW S))->(∀j,j<c.length->(j∈S ↔ (Sz43.reached c).contains j=true))->ae H H'->Q (.ref d) H')->PQ t vs H Q e0
section
variable{P:Program}{w:World}{K:ax}{mg:Str->Option Value}{base:Heap}{t:Ad}
theorem PR:aQ ["place","instructions","passed","at"] ["place","instructions"] (aC Jt):=aS
theorem aaf(T:Txt K mg t):aG P w K mg base aR 1 t.AY t.BV ["place","instructions"] (PM t):=by
 refine T.wZ.ok PR (λvs H Q E h=>?_) (λ_ A _ s H vs Q E hr h=>?_)
 ·obtain⟨_,_,_,rfl,_⟩:=h;rfl
 ·obtain⟨p,li,c,rfl,⟨is,hli,cQ⟩,hb,hp,h256,k⟩:=h;have nd:=PR.nd;have hu:=kh hr;refine⟨_,aq (aZ (i:=2) nd rfl (Or.inl rfl) Um)
   (aq (aZ (i:=3) nd rfl (Or.inl rfl) (pv 0))
   (aq (vo gp (PW.pt (jg (aX mr (pv 3) (cp dE rfl T.c_ dA (aa (pv 1) af)) (aY _)) (jF (aX bP (aE (bc bA (pv 1) (pv 3) (λ_ _=>rfl)) rfl) bJ (aY _))))) (aq (aU (cR (vL hu (pv 3) (pv 2))) (ak (aB (pv 0))) aW) (aq (vN hu (pv 2) (pv 3) ml rfl) (ak (aZ (i:=3) nd rfl (Or.inl rfl) (aE (bc bA (pv 1) (pv 3) (λ_ _=>rfl)) rfl))))))
   (ak (aB (pv 3))))),?_⟩
  have ln:is.length=c.length:=bC cQ;have cl:=T.cS;intro pd E_;have s0:ae H (upd H pd (.dK [])):=ae.new E_;refine⟨_,rfl,?_⟩;refine dW ?_;refine⟨λm σ Hh=>∃(S:List Nat)(a:Nat),m=c.length-S.length/\σ=[some (.int (p:Int)),some (.ref li),some (.ref pd),some (.int (a:Int))]/\Hh pd=some (.dK (gW S))/\iq c p S a/\ae H Hh,⟨_,[],p,rfl,rfl,aw,iq.start hp,s0⟩,?_⟩
  rintro m σ Hh ⟨S,a,rfl,rfl,hd,GI,sm⟩
  refine⟨_,rfl,_,rfl,li,_,rfl,.inl (aj.of (sm _ _ hli)),_,_,rfl,rfl,_,rfl,?_⟩;rw[aK,ln];by_cases hal:a<c.length
  ·rw[bx (show(a:Int)<(c.length:Int) by omega)];refine aD ?_;obtain⟨i,hi⟩:∃i,c[a]? =some i:=⟨_,aN hal⟩;obtain⟨q,hai⟩:∃q,is[a]? =some q:=⟨_,aN (by omega)⟩;have hI:=(cE (F:=λa i=>IA t H a i) cQ hai hi).nl sm.nl;obtain⟨dx,u,op,ha,d7,hop⟩:=id hI;have gi:(is.map V.ref)[a]? =some (.ref q):=by rw[bF,hai];rfl
   refine⟨_,rfl,_,rfl,li,_,_,_,rfl,rfl,aj.of (sm _ _ hli),bq gi,q,_,dx,_,_,rfl,ha,cl,T.bH,bL,rfl,_,rfl,?_⟩;have stop:(∀u,i≠ .goto u)->Q (.int (a:Int)) Hh:=λhn=>by
    have:=GI.stop hb hp λu e=>hn u (by rw[hi]at e;exact cI e)
    have h:=k Hh sm;unfold jT at h;rw[this]at h;exact h
   cases i with
   |goto v=>
    refine aD ?_;refine⟨λσ' H'=>∃m',m'<c.length-S.length/\∃(S:List Nat)(a:Nat),m'=c.length-S.length/\σ'=[some (.int (p:Int)),some (.ref li),some (.ref pd),some (.int (a:Int))]/\H' pd=some (.dK (gW S))/\iq c p S a/\ae H H',λσ' H' h=>h,?_⟩;refine⟨_,rfl,_,rfl,pd,_,rfl,dt.k (k:=Sum.inl (a:Int)) hd,_,rfl,?_⟩;rw[uC];by_cases hS:a∈S
    ·rw[ai hS];refine aD ?_;refine⟨_,rfl,?_⟩;have h:=k Hh sm;unfold jT at h;rw[GI.round hb hp hS]at h;exact h
    ·rw[ah hS];refine aA ?_;have GN:=GI.next hb hi hS;have sz:=GN.size;rw[bo,cZ]at sz;refine⟨_,rfl,_,rfl,pd,_,rfl,kg.k (k:=Sum.inl (a:Int)) hd (by rw[PL,bg];omega),?_⟩;rw[PJ hS];have npq:q≠pd:=bp ha hd (by intro z;cases z);have nlp:li≠pd:=aJ hli E_;refine⟨_,rfl,_,rfl,li,_,_,_,rfl,rfl,aj.of (by rw[ay nlp];exact sm _ _ hli),bq gi,q,_,dx,_,_,rfl,by rw[ay npq];exact ha,cl,T.fv,gN,?_⟩;exact⟨_,by rw[bo,cZ];omega,S++[a],v,rfl,rfl,aw,GN,sm.upd E_⟩
   |_=>refine aA ?_;exact⟨_,rfl,stop λu e=>by cases e⟩
  ·rw[a9 (show ¬(a:Int)<(c.length:Int) by omega)];refine aA ?_;refine aA ?_;have:=GI.stop hb hp λu e=>hal (gT e)
   have h:=k Hh sm;unfold jT at h;rw[this]at h;exact⟨_,rfl,h⟩
theorem aag:aQ ["instruction","instructions"] ["instruction","instructions"] (aC Ju):=aS
theorem aah(T:Txt K mg t):aG P w K mg base aR 4 t.AZ t.BW ["instruction","instructions"] (PN t):=by
 refine T.w6.ok aag (λvs H Q E h=>?_) (λ_ A _ s H vs Q E hr h=>?_)
 ·obtain⟨_,_,_,_,rfl,_⟩:=h;rfl
 ·obtain⟨a,li,i,c,rfl,hI,hL,hb,ht,h256,k⟩:=h;have hr1:=hr.mono (show 1<=3 by decide);refine⟨_,aq (aU (cR (iI (aE (pv 0) rfl))) (ak (aB (pv 0))) aW)
   (ak (aB (aP (OS T) hr rfl T.C4 T.sZ.kp (LY T) .nil aH (aa (pv 0) (aa (aP (aaf T) hr1 rfl T.Ky T.wZ.kp (VT T) .nil aH (aa (aE (pv 0) rfl) (aa (pv 1) af))) af))))),?_⟩
  obtain⟨dx,u,op,ha,hu,hop⟩:=id hI;have cl:=T.cS;refine⟨_,rfl,a,_,dx,_,_,rfl,ha,cl,T.fv,gN,_,rfl,?_⟩;have ep:=uw i;cases hq:tgt i with
  |none=>
   rw[hq]at ep;rw[ep];refine aD ?_;refine⟨_,rfl,k a H (ae.refl H) ?_⟩;have e:sent (jT c) i=i:=by cases i<;>first |rfl |cases hq
   rw[e];exact hI
  |some v=>rw[hq]at ep;rw[ep];refine aA ?_;refine⟨_,rfl,_,rfl,a,_,dx,_,_,rfl,ha,cl,T.fv,gN,_,rfl,v,li,c,(by rw[ep];rfl),hL,hb,ht v hq,h256,λH1 s1=>?_⟩;refine⟨a,i,_,rfl,hI.nl s1.nl,by rw[hq];rfl,λb H' s hb=>k b H' (s1.trans s) ?_⟩;rw[E3 (g:=λ_=>jT c v) λu hu=>by rw[hq]at hu;cases hu;rfl];exact hb
theorem PU:aQ ["instructions","found","waiting","place","way"] ["instructions"] (aC Jv):=aS
theorem aai(T:Txt K mg t):aG P w K mg base aR 2 t.A0 t.BX ["instructions"] (PQ t):=by
 refine T.w8.ok PU (λvs H Q E h=>?_) (λ_ A _ s H vs Q E hr h=>?_)
 ·obtain⟨_,_,rfl,_⟩:=h;rfl
 ·obtain⟨li,c,rfl,⟨is,hli,cQ⟩,hb,h256,k⟩:=h;have nd:=PU.nd;have hu:=kh hr;refine⟨_,aq (aZ (i:=1) nd rfl (Or.inl rfl) (Ur (Up aL ml Uo) rfl rfl (by intro z;cases z) (by decide)))
   (aq (aZ (i:=2) nd rfl (Or.inl rfl) (cD (aa aL af)))
   (aq (vo gp (aX ql (cp dE rfl T.c_ dA (aa (pv 2) af)) aL (aY _)) (aq (aZ (i:=3) nd rfl (Or.inl rfl) (HF gq PySem.F.slot_list_pop PySem.F.type_list_pop HM (pv 2))) (aq (aU (aX bP (pv 3) (cp dE rfl T.c_ dA (aa (pv 0) af)) (aY _)) (ak zz) aW) (ak (gF gp rfl (gC (aP (yL T) hr rfl T.sW T.oJ.kp (xS T) .nil aH (aa (pv 3) (aa (bc bA (pv 0) (pv 3) (λ_ _=>rfl)) af)))) (bD (i:=4) nd rfl (Or.inl rfl)) (ak (aU (cR (Ag hu (pv 4) (pv 1))) (aq (vN hu (pv 1) (pv 4) ml rfl) (ak (fk (gJ gq j7 j8 jk (pv 2) (aa (pv 4) af))))) aW)))))))
   (ak (aB (pv 1))))),?_⟩
  have ln:is.length=c.length:=bC cQ;have cl:=T.cS;intro fd hfd;refine⟨aw,[(Sum.inl 0,.bl true)],rfl,(by show 1<=15;decide),?_⟩;rw[Gi];have s0:ae H (upd H fd (.dK (jm [] [(Sum.inl 0,.bl true)]))):=ae.new hfd;refine⟨(by show 1<=sizeLine;decide),λwt lX=>?_⟩;have yU:fd≠wt:=aJ aw lX;have rh:H wt=none:=s0.free lX;have nlf:li≠fd:=aJ hli hfd;have nlw:li≠wt:=aJ hli rh;refine dW ?_;refine⟨λm σ Hh=>∃(S W:List Nat)(v3 v4:Option V),m=2*(c.length+1-S.length)+W.length/\σ=[some (.ref li),some (.ref fd),some (.ref wt),v3,v4]/\Hh fd=some (.dK (gW S))/\Hh wt=some (.lst (iw W))/\jw c S W/\m<=2000/\ae H Hh,⟨_,[0],[0],none,none,rfl,rfl,by rw[ay yU];exact aw,aw,jw.start,?_,s0.trans (ae.new lX)⟩,?_⟩
  ·show 2*(c.length+1-1)+1<=2000;omega
  rintro m σ Hh ⟨S,W,v3,v4,rfl,rfl,hd,hw,LI,m4,sm⟩
  refine⟨_,rfl,wt,_,rfl,.inl (aj.of hw),_,_,rfl,rfl,_,rfl,?_⟩;rw[bG];rcases List.eq_nil_or_concat W with eW |⟨ws,q,eW⟩
  ·subst eW;refine aA ?_;exact⟨_,rfl,k fd S Hh hd (λj hj=>LI.done hj) sm⟩
  rw[List.concat_eq_append]at eW;subst eW;have d0:decide ((0:Int)<((ws++[q]).length:Int))=true:=bx (by rw[bo,cZ];omega);rw[d0];refine aD ?_;refine⟨λσ' H'=>∃m',m'<2*(c.length+1-S.length)+(ws++[q]).length/\∃(S W:List Nat)(v3 v4:Option V),m'=2*(c.length+1-S.length)+W.length/\σ'=[some (.ref li),some (.ref fd),some (.ref wt),v3,v4]/\H' fd=some (.dK (gW S))/\H' wt=some (.lst (iw W))/\jw c S W/\m'<=2000/\ae H H',λσ' H' h=>h,?_⟩;rw[pB]at hw;refine⟨_,rfl,.inl ⟨rfl,_,aj.of hw⟩,wt,_,.int (q:Int),rfl,rfl,hw,?_,?_⟩
  ·rw[bo,cZ,RT];simp
  rw[List.dropLast_concat];obtain⟨H1,fU⟩:∃H1,H1=upd Hh wt (.lst (iw ws)):=⟨_,rfl⟩;rw[<-fU];have hw1:H1 wt=some (.lst (iw ws)):=by rw[fU];exact aw
  have hd1:H1 fd=some (.dK (gW S)):=by rw[fU,ay yU];exact hd
  have sm1:ae H H1:=by rw[fU];exact sm.upd rh
  refine⟨_,rfl,_,rfl,li,_,rfl,.inl (aj.of (sm1 _ _ hli)),rfl,_,rfl,?_⟩;rw[aK,ln,d5];have lq:(ws++[q]).length=ws.length+1:=by rw[bo,cZ]
  by_cases hq:q=c.length
  ·rw[bx hq];refine aD ?_;refine⟨2*(c.length+1-S.length)+ws.length,by omega,S,ws,_,_,rfl,rfl,hd1,hw1,?_,by omega,sm1⟩;rw[hq]at LI;exact LI.pop
  rw[a9 hq];refine aA ?_;have qS:=LI.sub q (by simp);have ud:q<c.length:=by have:=LI.le q qS;omega
  obtain⟨i,hi⟩:∃i,c[q]? =some i:=⟨_,aN ud⟩;obtain⟨a,hai⟩:∃a,is[q]? =some a:=⟨_,aN (by omega)⟩;have hI:=(cE (F:=λa i=>IA t H a i) cQ hai hi).nl sm1.nl;refine⟨_,rfl,_,rfl,_,rfl,li,_,_,_,rfl,rfl,aj.of (sm1 _ _ hli),bq (by rw[bF,hai];rfl),q,a,i,rfl,hI,λL H2 s2 hL eL=>?_⟩;have nLf:L≠fd:=(aJ hd1 hL).symm;have nLw:L≠wt:=(aJ hw1 hL).symm;refine⟨L,rfl,⟨_,aj.of eL⟩,lu (K:=K) (a:=L) (xs:=iw (e8 q i)) (λr σ Hr=>∃(S' W':List Nat)(v4:Option V),σ=[some (.ref li),some (.ref fd),some (.ref wt),some (.int (q:Int)),v4]/\Hr fd=some (.dK (gW S'))/\Hr wt=some (.lst (iw W'))/\jx c q i ws ((e8 q i).take r) S' W'/\Hr L=some (.lst (iw (e8 q i)))/\2*(c.length+1-S'.length)+W'.length<=2*(c.length+1-S.length)+ws.length/\ae H Hr)
   ⟨S,ws,v4,rfl,s2 _ _ hd1,s2 _ _ hw1,jx.start LI,eL,aI _,sm1.trans s2⟩ (λ_ _ _ _ ⟨_,_,_,_,_,_,_,e,_⟩=>aj.of e) ?_ ?_⟩
  ·rintro r y σ Hr hy ⟨S',W',v4,rfl,hdr,hwr,LN,Fb,hm,smr⟩
   obtain⟨u,d7,rfl⟩:=ky hy;have et:(e8 q i).take r++[u]=(e8 q i).take (r+1):=by rw[iB,d7];rfl
   refine⟨_,rfl,_,rfl,fd,_,rfl,dt.k (k:=Sum.inl (u:Int)) hdr,_,rfl,?_⟩;rw[uC];by_cases hS:u∈S'
   ·rw[ai hS];refine aA ?_;refine⟨S',W',_,rfl,hdr,hwr,?_,Fb,hm,smr⟩;rw[<-et];exact LN.old hS
   ·rw[ah hS];refine aD ?_;have Fc:=LN.new hb hi (pw.mp (bu d7)) hS;have sz:(S'++[u]).length<=c.length+1:=by
     have:=F.yw (m:=List.range (c.length+1)) Fc.nd λx hx=>pJ.mpr (by have:=Fc.le x hx;omega)
     rwa [gr]at this
    rw[bo,cZ]at sz;refine⟨_,rfl,_,rfl,fd,_,rfl,kg.k (k:=Sum.inl (u:Int)) hdr (by rw[PL,bg];omega),?_⟩;rw[PJ hS];have PV:(upd Hr fd (.dK (gW (S'++[u])))) wt=some (.lst (iw W')):=by rw[ay yU.symm];exact hwr
    refine⟨_,rfl,.inl ⟨rfl,_,aj.of PV⟩,_,rfl,wt,_,_,rfl,rfl,PV,(by rw[bG,bg];omega),?_⟩;rw[<-pB];refine⟨S'++[u],W'++[u],_,rfl,by rw[ay yU];exact aw,aw,?_,?_,?_,(smr.upd hfd).upd rh⟩
    ·rw[<-et];exact Fc
    ·rw[ay nLw,ay nLf];exact Fb
    ·rw[bo,bo,cZ];omega
  ·rintro σ Hr ⟨S',W',v4,rfl,hdr,hwr,LN,Fb,hm,smr⟩
   rw[bG,j0]at LN;refine⟨2*(c.length+1-S'.length)+W'.length,by omega,S',W',_,_,rfl,rfl,hdr,hwr,LN.done hi λj hj=>pw.mpr hj,by omega,smr⟩
end
end My
namespace My
open PySem L2
inductive lY(t:Ad)(pre:Sz43.Program->Prop)(f:Nat->Sz43.Code->Sz43.Code)(vs:List V)(H:Hp)(Q:VK)(e0:XK):Prop
 |mk (x:Addr) (p:Sz43.Program):vs=[.ref x]->fD t H x p->PO p->pre p->(∀li H',ae H H'->gR t H' li (f p.vars.length p.code)->Q (.ref li) H')->lY t pre f vs H Q e0
inductive PX(t:Ad)(vs:List V)(H:Hp)(Q:VK)(e0:XK):Prop
 |mk (a kp:Addr) (v u:Nat) (l:KL):vs=[.ref a,.ref kp]->IA t H a (.cond v u)->H kp=some (.lst (e_ l))->v<l.length->(∀y H',ae H H'->dR t H' y (folded (some l) (.cond v u))->Q y H')->PX t vs H Q e0
inductive Fd(t:Ad)(vs:List V)(H:Hp)(Q:VK)(e0:XK):Prop
 |mk (a kp:Addr) (i:Ins) (d:Nat) (l:KL):vs=[.ref a,.ref kp]->IA t H a i->H kp=some (.lst (e_ l))->givesOf i=some d->d<l.length->((∀v∈usesOf i,v<l.length))->AllP aV l->(∀y H',ae H H'->dR t H' y (folded (some l) i)->Q y H')->Fd t vs H Q e0
inductive PY(t:Ad)(K:ax)(vs:List V)(H:Hp)(Q:VK)(e0:XK):Prop
 |mk (a:Addr) (kv:V) (i:Ins) (e:Sz43.Env):vs=[.ref a,kv]->IA t H a i->dI (pC K) H kv e->((∀l,e=some l->(∀v∈usesOf i,v<l.length)/\∀d,givesOf i=some d->d<l.length))->(∀y H',ae H H'->dR t H' y (folded e i)->Q y H')->PY t K vs H Q e0
theorem PZ(i:Ins)(l:KL){d:Nat}(h:givesOf i=some d):folded (some l) i=match iZ i l with
  |none=>some i
  |some z=>if knows l d=some z then none else some (.num d z):=by
 cases i with
 |num e z=>cases h;rfl
 |copy e a=>
  cases h;show(match knows l a with
   |some z=>if knows l d=some z then none else some (Ins.num d z)
   |none=>some (.copy d a))=_
  unfold iZ;dsimp only;cases knows l a<;>rfl
 |op k e a b=>
  cases h;show(match knows l a,knows l b with
   |some x,some y=>if knows l d=some (reckon k x y)then none else some (Ins.num d (reckon k x y))
   |_,_=>some (Ins.op k d a b))=_
  rw[tR];cases knows l a<;>cases knows l b<;>rfl
 |read e=>cases h;rfl
 |_=>cases h
theorem aaj(x y:Option Int):vx (di x) (di y)=true:=by cases x<;>cases y<;>rfl
section
variable{P:Program}{w:World}{K:ax}{mg:Str->Option Value}{base:Heap}{t:Ad}
theorem P0:aQ ["instruction","known","asked"] ["instruction","known"] (aC JY):=aS
theorem aak(T:Txt K mg t):aG P w K mg base aR 3 t.Bl t.CB ["instruction","known"] (PX t):=by
 refine T.xA.ok P0 (λvs H Q E h=>?_) (λ_ A _ s H vs Q E hr h=>?_)
 ·obtain⟨_,_,_,_,_,rfl,_⟩:=h;rfl
 ·obtain⟨a,kp,v,u',l,rfl,hI,hk,hv,k⟩:=h;have nd:=P0.nd;refine⟨_,aq (aZ (i:=2) nd rfl (Or.inl rfl) (bc bA (pv 1) (bc kf (aE (pv 0) rfl) aL (λ_ _=>rfl)) (λ_ _=>rfl)))
   (aq (aU (cR (iI (pv 2))) (ak (aB (pv 0))) aW)
   (aq (aU (aX bP (pv 2) aL (aY _)) (ak (aB fh)) aW)
   (ak (aB (lG T.ie (iX T) hr rfl T.ic (OQ T) aH (aa bJ (aa (fM af) af)) (h_ (aE (pv 0) rfl) lA)))))),?_⟩
  obtain⟨dx,u,op,ha,hu,hop⟩:=id hI;have cl:=T.cS;refine⟨_,rfl,_,rfl,a,_,dx,_,_,rfl,ha,cl,T.fO,gO,_,_,_,_,rfl,rfl,a8.of hu,bq (j:=0) rfl,kp,_,_,_,rfl,rfl,aj.of hk,bq (uj hv),?_⟩;have ef:folded (some l) (.cond v u')=(match knows l v with |some z=>if z=0 then none else some (.goto u') |none=>some (.cond v u')):=rfl;refine⟨_,rfl,_,rfl,?_⟩;cases hz:knows l v with
  |none=>rw[hz]at ef;rw[ef]at k;refine aD ?_;exact⟨_,rfl,k _ H (ae.refl H) ⟨a,rfl,hI⟩⟩
  |some z=>
   rw[hz]at ef;refine aA ?_;refine⟨_,rfl,rfl,_,rfl,?_⟩;by_cases h0:z=0
   ·have e:decide (di (some z)=V.int 0)=true:=by rw[h0];rfl
    rw[e];refine aD ?_;have ef:folded (some l) (.cond v u')=none:=ef.trans (ai h0);rw[ef]at k;exact k _ H (ae.refl H) rfl
   ·have e:decide (di (some z)=V.int 0)=false:=a9 λq=>h0 (by injection q)
    rw[e];refine aA ?_;have ef:folded (some l) (.cond v u')=some (.goto u'):=ef.trans (ah h0);rw[ef]at k;refine⟨b9 _,λtp htp=>?_⟩;have s1:=ae.new (o:=.tup []) htp;refine⟨_,rfl,a,_,dx,_,_,rfl,s1 _ _ ha,cl,T.fv,gN,?_⟩;intro x da nx cP ij;refine⟨x,da,_,_,_,_,_,_,rfl,aw,λH' h1 h2=>⟨rfl,?_⟩⟩;have s5:=gQ nx cP h2;exact k _ H' (s1.trans s5) ⟨x,rfl,da,tp,.au,h1,s5 _ _ aw,rfl⟩
theorem P1:aQ ["instruction","known","number"] ["instruction","known"] (aC JZ):=aS
theorem aal(T:Txt K mg t):aG P w K mg base aR 5 t.Bm t.CC ["instruction","known"] (Fd t):=by
 refine T.xB.ok P1 (λvs H Q E h=>?_) (λ_ A _ s H vs Q E hr h=>?_)
 ·obtain⟨_,_,_,_,_,rfl,_⟩:=h;rfl
 ·obtain⟨a,kp,i,d,l,rfl,hI,hk,hg,hd,eV,hP,k⟩:=h;have nd:=P1.nd;have hr2:=hr.mono (show 2<=4 by decide);refine⟨_,aq (aZ (i:=2) nd rfl (Or.inl rfl) (aP (OL T) hr rfl T.Di T.s_.kp (LZ T) .nil aH (aa (pv 0) (aa (pv 1) af))))
   (aq (aU (cR (iI (pv 2))) (ak (aB (pv 0))) aW)
   (aq (aU (aX bP (pv 2) (bc bA (pv 1) (aE (pv 0) rfl) (λ_ _=>rfl)) (aY _)) (ak (aB fh)) aW)
   (ak (aB (lG T.ie (iX T) hr2 rfl T.ic (kb2 T) aH (aa bJ (aa (fM af) af)) (h_ (aE (pv 0) rfl) (h_ (pv 2) lA))))))),?_⟩
  refine⟨_,rfl,_,rfl,a,kp,i,_,l,rfl,hI,hk,by rw[hg];rfl,eV,hP,λH1 s1=>?_⟩;have ef:=PZ i l hg;have jR:=hI.nl s1.nl;obtain⟨dx,u,op,ha,hu,hop⟩:=id jR;have cl:=T.cS;have eg:dZ i=.int (d:Int):=by unfold dZ;rw[hg]
  refine⟨_,rfl,_,rfl,?_⟩;cases hz:iZ i l with
  |none=>rw[hz]at ef;rw[ef]at k;refine aD ?_;exact⟨_,rfl,k _ H1 s1 ⟨a,rfl,jR⟩⟩
  |some z=>
   rw[hz]at ef;refine aA ?_;refine⟨_,rfl,_,rfl,_,rfl,a,_,dx,_,_,rfl,ha,cl,T.cO,c7,kp,_,_,_,rfl,eg,aj.of (s1 _ _ hk),bq (uj hd),aaj (some z) _,_,rfl,?_⟩;by_cases h0:knows l d=some z
   ·have e:decide (di (some z)=di (knows l d))=true:=bx (by rw[h0]);rw[e];refine aD ?_;have ef:folded (some l) i=none:=ef.trans (ai h0);rw[ef]at k;exact k _ H1 s1 rfl
   ·have e:decide (di (some z)=di (knows l d))=false:=a9 λq=>h0 (by
     cases hq:knows l d with
     |none=>rw[hq]at q;cases q
     |some y=>rw[hq]at q;cases q;rfl)
    rw[e];refine aA ?_;have ef:folded (some l) i=some (.num d z):=ef.trans (ah h0);rw[ef]at k;refine⟨b9 _,λtp htp=>?_⟩;have s2:=ae.new (o:=.tup []) htp;refine⟨_,rfl,a,_,dx,_,_,rfl,s2 _ _ ha,cl,T.cO,c7,_,rfl,?_⟩;intro x da nx cP ij;refine⟨x,da,_,_,_,_,_,_,rfl,aw,λH' h1 h2=>⟨rfl,?_⟩⟩;have s5:=gQ nx cP h2;rw[eg]at h1;exact k _ H' ((s1.trans s2).trans s5) ⟨x,rfl,da,tp,.au,h1,s5 _ _ aw,rfl⟩
theorem aam:aQ ["instruction","known"] ["instruction","known"] (aC J0):=aS
theorem aan(T:Txt K mg t):aG P w K mg base aR 6 t.Bn t.CD ["instruction","known"] (PY t K):=by
 refine T.xC.ok aam (λvs H Q E h=>?_) (λ_ A _ s H vs Q E hr h=>?_)
 ·obtain⟨_,_,_,_,rfl,_⟩:=h;rfl
 ·obtain⟨a,kv,i,e,rfl,hI,hE,hl,k⟩:=h;have Eb:=hr.mono (show 3<=5 by decide);refine⟨_,aq (aU (cR (iI (pv 1))) (ak (aB fh)) aW)
   (aq (aU (aX bP (aE (pv 0) rfl) bJ (aY _)) (ak (aB (aP (aak T) Eb rfl T.K1 T.xA.kp (Wq T) .nil aH (aa (pv 0) (aa (pv 1) af))))) aW)
   (aq (aU (cR (mm (aE (pv 0) rfl))) (ak (aB (aP (aal T) hr rfl T.K2 T.xB.kp (Wr T) .nil aH (aa (pv 0) (aa (pv 1) af))))) aW)
   (ak (aB (pv 0))))),?_⟩
  obtain⟨dx,u,op,ha,hu,hop⟩:=id hI;have cl:=T.cS;refine⟨_,rfl,_,rfl,?_⟩;cases e with
  |none=>have hE:kv=.au:=hE;subst hE;refine aD ?_;exact k _ H (ae.refl H) rfl
  |some l=>
   obtain⟨kp,rfl,hE⟩:=hE;obtain⟨hk,hP⟩:=uq.mp hE;obtain⟨l1,l2⟩:=hl l rfl;refine aA ?_;refine⟨_,rfl,a,_,dx,_,_,rfl,ha,cl,T.bH,bL,rfl,_,rfl,?_⟩;have main:∀d,givesOf i=some d->Fd t [.ref a,.ref kp] H Q E0:=λd hg=>⟨a,kp,i,d,l,rfl,hI,hk,hg,l2 d hg,l1,hP,k⟩
   cases i with
   |cond v u'=>refine aD ?_;exact⟨_,rfl,_,rfl,a,kp,v,u',l,rfl,hI,hk,l1 v (by simp[usesOf]),k⟩
   |print v=>refine aA ?_;refine⟨_,rfl,a,_,dx,_,_,rfl,ha,cl,T.cO,c7,_,rfl,?_⟩;refine aA ?_;exact⟨_,rfl,k _ H (ae.refl H) ⟨a,rfl,hI⟩⟩
   |goto v=>refine aA ?_;refine⟨_,rfl,a,_,dx,_,_,rfl,ha,cl,T.cO,c7,_,rfl,?_⟩;refine aA ?_;exact⟨_,rfl,k _ H (ae.refl H) ⟨a,rfl,hI⟩⟩
   |stop=>refine aA ?_;refine⟨_,rfl,a,_,dx,_,_,rfl,ha,cl,T.cO,c7,_,rfl,?_⟩;refine aA ?_;exact⟨_,rfl,k _ H (ae.refl H) ⟨a,rfl,hI⟩⟩
   |_=>refine aA ?_;refine⟨_,rfl,a,_,dx,_,_,rfl,ha,cl,T.cO,c7,_,rfl,?_⟩;refine aD ?_;exact⟨_,rfl,_,rfl,main _ rfl⟩
theorem gX(c:Sz43.Code)(g:Ins×Nat->Option Ins):(c.zipIdx.map g).length=c.length:=by rw[aK,List.length_zipIdx]
theorem zip_get{c:Sz43.Code}{g:Ins×Nat->Option Ins}{i:Nat}{x:Ins}(h:c[i]? =some x):(c.zipIdx.map g)[i]? =some (g (x,i)):=by rw[bF,RM,h];simp
theorem P2:aQ ["program","known","instruction","before"] ["program"] (aC AH):=aS
theorem aao(T:Txt K mg t):aG P w K mg base aR 8 t.km t.CF ["program"] (lY t (λ_=>True) Sz43.fold):=by
 refine T.xD.ok P2 (λvs H Q E h=>?_) (λ_ A _ s H vs Q E hr h=>?_)
 ·obtain⟨_,_,rfl,_⟩:=h;rfl
 ·obtain⟨x,p,rfl,hX,O,_,k⟩:=h;have nd:=P2.nd;have i_:=hr.mono (show 5<=7 by decide);have hr6:=hr.mono (show 6<=7 by decide);refine⟨_,aq (aZ (i:=1) nd rfl (Or.inl rfl) (aP (ZV T) hr rfl T.KI T.xh.kp (Wd T) .nil aH (aa (pv 0) af)))
   (ak (aB (aP (uz T) i_ rfl T.qE T.mG.kp (tE T) .nil aH (aa (ia (g:=jG K 2 (eC (c6 2) (eC (c6 3) kb))) (own:=[("instruction",2),("before",3)]) rfl nd (vS rfl T.tD (aa (aE (pv 0) rfl) (aa (pv 1) af))) ?b1 (λs H C cl fp=>mo rfl (fL (bD (i:=2) nd rfl (Or.inl rfl)) (fL (bD (i:=3) nd rfl (Or.inl rfl)) mn))) (λs H C cl fp=>eF) (λs H C cl fp=>aP (aan T) hr6 rfl T.K3 T.xC.kp (Ws T) .nil aH (aa (pv 2) (aa (pv 3) af)))) af)))),?_⟩
  ·show c9 ["program","known","instruction","before"] (aC AH) _ _;exact⟨rfl,by decide+kernel,by decide+kernel,by decide+kernel,by decide+kernel⟩
  ·have h256:=O.dQ;refine⟨_,rfl,x,p,rfl,hX,O,λbf ws B H1 hb hE hlen hkn hwf s1=>?_⟩;obtain⟨dx,li,ns,hx,⟨is,hli,cQ⟩,_⟩:=hX.same s1;have ln:is.length=p.code.length:=bC cQ;have lw:ws.length=B.length:=bC hE;refine⟨_,rfl,x,_,dx,_,_,rfl,hx,T.fz,T.kr,mR _ _,_,rfl,li,bf,_,_,rfl,aj.of hli,aj.of hb,λD hD=>?_⟩;refine yi (λ_=>true) (λi y H=>∀o,(p.code.zipIdx.map λ(x:Ins×Nat)=>folded (Sz43.knownAt (Sz43.known p.vars.length p.code) x.2) x.1)[i]? =some o->dR t H y o) hD (by rw[aK,bg];omega) (aj.of hli) (aj.of hb) (by rw[aK];omega) (λi y H H' r k o ho=>dR.nl (r o ho) k) (λx y=>rfl) (λi y z H2 hi hj s2 A' B' hA hB=>?_) λys H2 s2 hL pr=>?_
   ·rw[bF]at hi;obtain⟨a,hai,rfl⟩:=cK.mp hi;have il:i<p.code.length:=by have:=(bW.mp hai).1;omega
    have hc:p.code[i]? =some p.code[i]:=aN il;have hI:=(cE (F:=λa i=>IA t H1 a i) cQ hai hc).nl s2.nl;have mZ:=cE hE hj (Ed (j:=i) (by omega));have mZ:=dI.same mZ s2;have O':=O.good _ (bu hc);refine aD (B:=B' H2) ?_;refine⟨_,rfl,_,rfl,a,z,p.code[i],gt B i,rfl,hI,mZ,λl el=>⟨λv hv=>by rw[hwf i l el];exact O'.us v hv,λd hd=>by rw[hwf i l el];exact O'.gv d hd⟩,λy H4 s4 hy=>hA rfl _ _ s4 λo ho=>?_⟩;rw[zip_get hc]at ho;cases ho;rw[hkn i]at hy;exact hy
   ·rw[kH,aK,ln,<-gX p.code λ(x:Ins×Nat)=>folded (Sz43.knownAt (Sz43.known p.vars.length p.code) x.2) x.1]at pr;refine⟨D,_,rfl,⟨ys,hL,kI pr⟩,by rw[gX];exact h256,λy hy u hu=>?_,λD' H3 s3 uD=>k D' H3 ((s1.trans s2).trans s3) uD⟩;rw[gX];obtain⟨⟨x0,i0⟩,hx0,ey⟩:=d_.mp hy;have hc0:p.code[i0]? =some x0:=by
     have:=RN.mp hx0;simpa using this
    have O0:=O.good x0 (bu hc0);have ey:folded (Sz43.knownAt (Sz43.known p.vars.length p.code) i0) x0=some y:=ey;cases hk0:Sz43.knownAt (Sz43.known p.vars.length p.code) i0 with
    |none=>rw[hk0]at ey;cases ey
    |some l0=>
     rw[hk0]at ey;cases hg0:givesOf x0 with
     |some d0=>
      rw[PZ x0 l0 hg0]at ey;split at ey
      ·cases ey;exact O0.tg u hu
      ·split at ey
       ·cases ey
       ·cases ey;cases hu
     |none=>
      cases x0 with
      |cond v0 u0=>
       have ey:(match knows l0 v0 with |some z=>if z=0 then none else some (.goto u0) |none=>some (Ins.cond v0 u0))=some y:=ey;split at ey
       ·split at ey
        ·cases ey
        ·cases ey;cases hu;exact O0.tg _ rfl
       ·cases ey;exact O0.tg u hu
      |print v=>cases ey;exact O0.tg u hu
      |goto v=>cases ey;exact O0.tg u hu
      |stop=>cases ey;exact O0.tg u hu
      |_=>cases hg0
end
end My
namespace My
open PySem L2
theorem P4{A:Around}{k:Nat}(hr:cA k A):A.units+65<cLine:=by have:=hr.un;omega
noncomputable def uE(l:HL):Ins->Option Ins
 | .copy d r=>if r=d\/l[d]? =some (some (.same r))then none else some (.copy d r)
 | .op k d x y=>if l[d]? =some (some (.made k x y))then none else (match l.findIdx? λo=>o==some (.made k x y)with
  |some w=>some (.copy d w)
  |none=>some (.op k d x y))
 |i=>some i
def ir:Ins->Sz43.Holds
 | .op k _ x y=>.made k x y
 | .copy _ r=>.same r
 |_=>.same 0
inductive Fe(t:Ad)(K:ax)(vs:List V)(H:Hp)(Q:VK)(e0:XK):Prop
 |mk (a kp:Addr) (i:Ins) (d:Nat) (l:HL):vs=[.ref a,.ref kp]->IA t H a i->LA (b8 K) H kp l->givesOf i=some d->usesOf i≠[]->d<l.length->(∀y H',ae H H'->dR t H' y (uE l i)->Q y H')->Fe t K vs H Q e0
inductive P5(t:Ad)(K:ax)(vs:List V)(H:Hp)(Q:VK)(e0:XK):Prop
 |mk (a kp:Addr) (i:Ins) (l:HL):vs=[.ref a,.ref kp]->IA t H a i->LA (b8 K) H kp l->((∀v∈usesOf i,v<l.length))->((∀d,givesOf i=some d->d<l.length))->(∀y H',ae H H'->dR t H' y (yG l i)->Q y H')->P5 t K vs H Q e0
theorem aap{K:ax}{H:Hp}{v:V}{o o':Option Sz43.Holds}(h:OA (b8 K) H v o)(h':OA (b8 K) H v o'):b7 (b8 K) o=b7 (b8 K) o':=by
 cases o with
 |none=>
  have h:v=.au:=h;subst h;cases o' with
  |none=>rfl
  |some b=>obtain⟨p,_,_,e,_⟩:=h';cases e
 |some a=>
  obtain⟨p,u,op,rfl,h2,h3,h4⟩:=h;cases o' with
  |none=>cases h'
  |some b=>
   obtain⟨p',u',op',e,h2',h3',h4'⟩:=h';cases e;rw[h2]at h2';cases h2';rw[h3]at h3';have eu:iw (fZ a)=iw (fZ b):=by injection h3' with h3';injection h3'
   have eu:=v9 eu;show jS a=jS b;cases a with
   |same y=>
    cases b with
    |same z=>rw[show y=z by simpa[fZ]using eu]
    |made k x z=>simp[fZ]at eu
   |made k x z=>
    cases b with
    |same y=>simp[fZ]at eu
    |made k' x' z'=>
     obtain⟨_,q,rfl,hq⟩:=h4;obtain⟨_,q',eq',hq'⟩:=h4';cases eq';rw[hq]at hq';have ew:iw (Sz43.ops.getD k [])=iw (Sz43.ops.getD k' []):=by injection hq' with hq';injection hq'
     have ew:=v9 ew;have eu:x=x'/\z=z':=by simpa[fZ]using eu
     show PyData.tuple [.tuple (iD (Sz43.ops.getD k [])),.tuple (iD [x,z])]=PyData.tuple [.tuple (iD (Sz43.ops.getD k' [])),.tuple (iD [x',z'])];rw[ew,eu.1,eu.2]
theorem aaq{K:ax}{H:Hp}{l:HL}{vs:List V}(h:Paired (λo v=>OA (b8 K) H v o) l vs):D8 vs (l.map (b7 (b8 K))):=by
 intro j j' v hj hj';have lv:l.length=vs.length:=bC h;have hl:j<l.length:=by have:=(bW.mp hj).1;omega
 have hl':j'<l.length:=by have:=(bW.mp hj').1;omega
 have a:=cE (F:=λo v=>OA (b8 K) H v o) h (aN hl) hj;have b:=cE (F:=λo v=>OA (b8 K) H v o) h (aN hl') hj';rw[bF,bF,aN hl,aN hl'];exact f7 some (aap a b)
theorem P6{K:ax}{h:Sz43.Holds}(hh:EX h):∀{l:HL},(∀x∈l,pA (b8 K) x)->((l.map (b7 (b8 K))).findIdx? λe=>PyData.eqv e (jS h))=l.findIdx? λo=>o==some h
 |[],_=>rfl
 |o::l,ho=>by
  have ih:=P6 (K:=K) hh (l:=l) λx hx=>ho x (bQ _ hx)
  have e:PyData.eqv (b7 (b8 K) o) (b7 (b8 K) (some h))=decide (o=some h):=yP (ho o (by simp)) hh;have e:PyData.eqv (b7 (b8 K) o) (jS h)=decide (o=some h):=e;rw[bt,Gd,Gd,ih,e];have eb:(o==some h)=decide (o=some h):=by rw[f9];simp
  rw[eb]
theorem aar{α:Type}(p:α->Bool):∀l:List α,l.any p=(l.findIdx? p).isSome:=λl=>by rw[zk]
section
variable{P:Program}{w:World}{K:ax}{mg:Str->Option Value}{base:Heap}{t:Ad}
theorem P7:aQ ["instruction","held","thing"] ["instruction","held"] (aC J5):=aS
theorem aas(T:Txt K mg t):aG P w K mg base aR 3 t.Bo t.CG ["instruction","held"] (Fe t K):=by
 refine T.xE.ok P7 (λvs H Q E h=>?_) (λ_ A _ s H vs Q E hr h=>?_)
 ·obtain⟨_,_,_,_,_,rfl,_⟩:=h;rfl
 ·obtain⟨a,kp,i,d,l,rfl,hI,hk,hg,hne,hd,k⟩:=h;have nd:=P7.nd;have hr1:=hr.mono (show 1<=2 by decide);refine⟨_,aq (aZ (i:=2) nd rfl (Or.inl rfl) (fM (aa (aE (pv 0) rfl) (aa (aE (pv 0) rfl) af))))
   (aq (aU (PW.pt (lg (jE (aP (OU T) hr1 rfl T.C3 T.sY.kp (LX T) .nil aH (aa (pv 0) af))) (k_ (aX (jK hr.units) (bc bA (pv 1) (aE (pv 0) rfl) (λ_ _=>rfl)) (pv 2) (aY _))))) (ak (aB fh)) aW)
   (aq (aU (PW.pt (jg (aX bP (aE (pv 0) rfl) bJ (aY _)) (jF (aX (Yt (P4 hr)) (pv 2) (pv 1) rfl)))) (ak (aB (lG T.ie (iX T) hr rfl T.ic (kb1 T) aH (aa bJ (aa (fM (aa (gJ gq PySem.F.slot_list_index PySem.F.type_list_index (Yu (P4 hr)) (pv 1) (aa (pv 2) af)) af)) af)) (h_ (aE (pv 0) rfl) lA)))) aW)
   (ak (aB (pv 0))))),?_⟩
  obtain⟨dx,u,op,ha,hu,hop⟩:=id hI;have cl:=T.cS;have eg:dZ i=.int (d:Int):=by unfold dZ;rw[hg]
  refine⟨_,rfl,a,_,dx,_,_,rfl,ha,cl,T.mJ,qP,_,rfl,a,_,dx,_,_,rfl,ha,cl,T.fO,gO,(by show 2<=sizeLine;decide),λtp htp=>?_⟩;have s1:=ae.new (o:=.tup [op,.ref u]) htp;have jR:=hI.nl s1.nl;obtain⟨xs,hxs,hx⟩:=hk.same s1;have lx:l.length=xs.length:=bC hx;have thg:Pg (upd H tp (.tup [op,.ref u])) (.ref tp) (ir i):=by
   cases i with
   |copy e r=>exact⟨tp,u,op,rfl,aw,s1 _ _ hu,hop⟩
   |op n e y z=>obtain⟨h12,q,e1,e2⟩:=hop;exact⟨tp,u,op,rfl,aw,s1 _ _ hu,h12,q,e1,s1 _ _ e2⟩
   |num e z=>exact absurd rfl hne
   |read e=>exact absurd rfl hne
   |_=>cases hg
  have okt:EX (ir i):=(b8 K).yN thg;have Ff:Dp K (upd H tp (.tup [op,.ref u])) (.ref tp) (jS (ir i)):=(b8 K).dp thg;have Fg:SeqAt.shaped (jS (ir i))=true:=uk (D:=b8 K) (some (ir i));refine⟨_,rfl,a,i,rfl,jR,_,rfl,?_⟩;have hv:xs[d]? =some (xs[d]'(by omega)):=aN _;have hdl:l[d]? =some l[d]:=aN hd;have hov:=cE (F:=λo v=>OA (b8 K) (upd H tp (.tup [op,.ref u])) v o) hx hdl hv;have done:uE l i=none->Q .au (upd H tp (.tup [op,.ref u])):=λe=>k _ _ s1 (by rw[e];rfl)
  have stay:uE l i=some i->Q (.ref a) (upd H tp (.tup [op,.ref u])):=λe=>k _ _ s1 (by rw[e];exact⟨a,rfl,jR⟩)
  by_cases hs:F.fY i=true
  ·rw[hs];refine aD ?_;refine aD ?_;refine done ?_;cases i with
   |copy e r=>
    have e2:e=r:=by simpa[F.fY]using hs
    show(if r=e\/_ then none else _)=none;exact ai (.inl e2.symm)
   |_=>cases hs
  rw[nB]at hs;rw[hs];refine aA ?_;refine⟨_,rfl,_,rfl,a,_,dx,_,_,rfl,s1 _ _ ha,cl,T.cO,c7,kp,_,_,_,rfl,eg,aj.of hxs,bq hv,_,rfl,b7 (b8 K) l[d],jS (ir i),OA.dp hov,Ff,uk _,Fg,_,rfl,?_⟩;have ee:PyData.eqv (b7 (b8 K) l[d]) (b7 (b8 K) (some (ir i)))=decide (l[d]=some (ir i)):=yP (OA.ok hov) okt;have ee:PyData.eqv (b7 (b8 K) l[d]) (jS (ir i))=decide (l[d]=some (ir i)):=ee;rw[ee];by_cases hq:l[d]=some (ir i)
  ·rw[bx hq];refine aD ?_;refine done ?_;rw[hq]at hdl;cases i with
   |copy e r=>cases hg;show(if r=d\/l[d]? =some (some (.same r))then none else _)=none;exact ai (.inr hdl)
   |op n e y z=>cases hg;show(if l[d]? =some (some (.made n y z))then none else _)=none;exact ai hdl
   |num e z=>exact absurd rfl hne
   |read e=>exact absurd rfl hne
   |_=>cases hg
  rw[a9 hq];refine aA ?_;refine⟨_,rfl,a,_,dx,_,_,rfl,s1 _ _ ha,cl,T.bH,bL,rfl,_,rfl,?_⟩;cases i with
  |copy e r=>
   cases hg;refine aA ?_;refine aA ?_;refine⟨_,rfl,stay ?_⟩;have n1:¬(r=d\/l[d]? =some (some (.same r))):=by
    rintro(e |e)
    ·have:F.fY (.copy d r)=true:=by simp[F.fY,e]
     rw[this]at hs;cases hs
    ·rw[hdl]at e;exact hq (cI e)
   exact ah n1
  |op n e y z=>
   cases hg;refine aD ?_;have fn:=aaq hx;have sh:∀e∈l.map (b7 (b8 K)),SeqAt.shaped e=true:=λe he=>by obtain⟨o,_,rfl⟩:=d_.mp he;exact uk o
   have idx:=P6 (K:=K) okt (ES hx);refine⟨_,rfl,_,rfl,kp,_,l.map (b7 (b8 K)),jS (ir (.op n d y z)),rfl,aj.of hxs,ER hx,Ff,sh,Fg,fn,_,rfl,?_⟩;rw[aar,idx];have n1:¬l[d]? =some (some (.made n y z)):=λe=>by rw[hdl]at e;exact hq (cI e)
   have eh:uE l (.op n d y z)=(match l.findIdx? λo=>o==some (.made n y z)with
    |some w=>some (.copy d w)
    |none=>some (.op n d y z)):=ah n1
   cases hf:l.findIdx? λo=>o==some (ir (.op n d y z))with
   |none=>have hf':(l.findIdx? λo=>o==some (.made n y z))=none:=hf;rw[hf']at eh;refine aA ?_;exact⟨_,rfl,stay eh⟩
   |some m=>have hf':(l.findIdx? λo=>o==some (.made n y z))=some m:=hf;rw[hf']at eh;rw[eh]at k;refine aD ?_;refine⟨_,rfl,.inl ⟨rfl,_,aj.of hxs⟩,_,rfl,kp,_,_,l.map (b7 (b8 K)),jS (ir (.op n d y z)),m,rfl,rfl,aj.of hxs,ER hx,Ff,sh,Fg,fn,by rw[idx];exact hf,(by show 1<=sizeLine;decide),λtq Fh=>?_⟩;have s2:=ae.new (o:=.tup [.int (m:Nat)]) Fh;refine⟨_,rfl,a,_,dx,_,_,rfl,s2 _ _ (s1 _ _ ha),cl,T.cO,c7,?_⟩;intro x da nx cP ij;refine⟨x,da,_,_,_,_,_,_,rfl,aw,λH' h1 h2=>⟨rfl,?_⟩⟩;have s5:=gQ nx cP h2;exact k _ H' ((s1.trans s2).trans s5) ⟨x,rfl,da,tq,.au,h1,s5 _ _ aw,rfl⟩
  |num e z=>exact absurd rfl hne
  |read e=>exact absurd rfl hne
  |_=>cases hg
theorem P8:aQ ["instruction","held","rooted","variable"] ["instruction","held"] (aC AI):=aS
theorem aat(T:Txt K mg t):aG P w K mg base aR 4 t.Bp t.CH ["instruction","held"] (P5 t K):=by
 refine T.xF.ok P8 (λvs H Q E h=>?_) (λ_ A _ s H vs Q E hr h=>?_)
 ·obtain⟨_,_,_,_,rfl,_⟩:=h;rfl
 ·obtain⟨a,kp,i,l,rfl,hI,hk,eV,hgv,k⟩:=h;have nd:=P8.nd;have hr1:=hr.mono (show 1<=3 by decide);refine⟨_,aq (aU (aX bP (cp dE rfl T.c_ dA (aa (aE (pv 0) rfl) af)) aL (aY _)) (ak (aB (pv 0))) aW)
   (aq (aZ (i:=2) nd rfl (Or.inl rfl) (aP (ZN T) hr rfl T.Kw T.wX.kp (VR T) .nil aH (aa (pv 0) (aa (mw zT rfl T.xP rfl (aa (ia (own:=[("variable",3)]) rfl nd (lh (aE (pv 0) rfl)) ?b1 (λs H C cl fp=>bD (i:=3) nd rfl (Or.inl rfl)) (λs H C cl fp=>eF) (λs H C cl fp=>aP (Z4 T) hr1 rfl T.Kv T.wW.kp (VQ T) .nil aH (aa (pv 3) (aa (pv 1) af)))) af)) af))))
   (ak (aB (iJ (cR (iI (aE (pv 2) rfl))) (pv 2) (aP (aas T) hr rfl T.K7 T.xE.kp (Wu T) .nil aH (aa (pv 2) (aa (pv 1) af))))))),?_⟩
  ·show c9 ["instruction","held","rooted","variable"] (aC AI) _ _;exact⟨rfl,by decide+kernel,by decide+kernel,by decide+kernel,by decide+kernel⟩
  ·obtain⟨dx,u,op,ha,hu,hop⟩:=id hI;have cl:=T.cS;have hu:H u=some (.tup (iw (usesOf i))):=hu;refine⟨_,rfl,a,_,dx,_,_,rfl,ha,cl,T.fO,gO,u,_,rfl,.inr (a8.of hu),rfl,_,rfl,?_⟩;rw[bG,show decide (V.int ((usesOf i).length:Int)=V.int 0)=decide ((usesOf i).length=0) from d5 _ 0];by_cases h0:(usesOf i).length=0
   ·rw[bx h0];refine aD ?_;refine⟨_,rfl,k _ H (ae.refl H) ?_⟩;have e:yG l i=some i:=by cases i<;>first |rfl |(simp[usesOf]at h0)
    rw[e];exact⟨a,rfl,hI⟩
   rw[a9 h0];refine aA ?_;have l2:(usesOf i).length<=2:=by cases i<;>simp[usesOf]
   refine⟨_,rfl,_,rfl,a,_,dx,_,_,rfl,ha,cl,T.fO,gO,u,rfl,⟨_,a8.of hu⟩,λD hD=>?_⟩;refine lH (xs:=iw (usesOf i)) (λv=>match v with | .int z=>.int ((dv l z.toNat:Nat):Int) |v=>v) hD (by rw[bG,bg];omega) (λH2 s2=>qA (s2.oe (a8.of hu))) (λy=>rfl) ?_ ?_
   ·intro j y H2 hy s2 Q' k';obtain⟨c,hc,rfl⟩:=ky hy;exact⟨_,rfl,_,rfl,c,kp,l,rfl,hk.same s2,eV c (bu hc),k' H2 (ae.refl _)⟩
   intro H2 s2 hL;have eL:(iw (usesOf i)).map (λv=>match v with | .int z=>V.int ((dv l z.toNat:Nat):Int) |v=>v)=iw ((usesOf i).map (dv l)):=by unfold iw;rw[eQ,eQ];rfl
   rw[eL]at hL;refine⟨D,_,rfl,.inl ⟨aj.of hL,λtq Fh=>?_⟩⟩;have s3:ae H (upd H2 tq (.tup (iw ((usesOf i).map (dv l))))):=s2.trans (ae.new Fh);refine⟨a,tq,i,_,rfl,hI.nl s3.nl,aw,aK _,λe=>h0 (by rw[<-aK (as:=usesOf i) (f:=dv l),e];rfl),λb H3 s4 hb=>?_⟩;have s5:=s3.trans s4;obtain⟨dx3,u3,op3,ha3,hu3,hop3⟩:=id hb;refine⟨_,rfl,b,_,dx3,_,_,rfl,ha3,cl,T.cO,c7,_,rfl,?_⟩;have pE:∀d,givesOf (yK i ((usesOf i).map (dv l)))=some d->givesOf i=some d->usesOf (yK i ((usesOf i).map (dv l)))≠[]->uE l (yK i ((usesOf i).map (dv l)))=yG l i->Fe t K [.ref b,.ref kp] H3 Q E0:=λd g1 g2 g3 g4=>⟨b,kp,_,d,l,rfl,hb,hk.same s5,g1,g3,hgv d g2,λy H' s' hy=>k y H' (s5.trans s') (by rw[<-g4];exact hy)⟩
   cases i with
   |copy d v=>refine aA ?_;exact⟨_,rfl,_,rfl,pE d rfl rfl (by intro z;cases z) rfl⟩
   |op n d v v'=>refine aA ?_;exact⟨_,rfl,_,rfl,pE d rfl rfl (by intro z;cases z) rfl⟩
   |print v=>refine aD ?_;exact⟨_,rfl,k _ H3 s5 ⟨b,rfl,hb⟩⟩
   |cond v u'=>refine aD ?_;exact⟨_,rfl,k _ H3 s5 ⟨b,rfl,hb⟩⟩
   |_=>exact absurd rfl h0
end
end My
namespace My
open PySem L2
theorem aau{l:List Sz43.Fact}{x y:Ins}{u:Nat}(h:Sz43.shared l x=some y)(hu:tgt y=some u):tgt x=some u:=by
 cases x with
 |copy d a=>
  have h:(if Sz43.root l a=d\/l.contains (d,Sz43.Holds.same (Sz43.root l a))=true then none else some (Ins.copy d (Sz43.root l a)))=some y:=h;split at h<;>cases h
  cases hu
 |op k d a b=>
  have h:(if l.contains (d,Sz43.Holds.made k (Sz43.root l a) (Sz43.root l b))=true then none
   else match Sz43.least ((l.filter λ(f:Sz43.Fact)=>f.2==Sz43.Holds.made k (Sz43.root l a) (Sz43.root l b)).map λ(f:Sz43.Fact)=>f.1)with
   |some w=>some (Ins.copy d w)
   |none=>some (Ins.op k d (Sz43.root l a) (Sz43.root l b)))=some y:=h
  split at h
  ·cases h
  ·split at h<;>(cases h;cases hu)
 |print a=>cases h;cases hu
 |cond a t=>cases h;exact hu
 |_=>cases h;exact hu
theorem yV{c:Sz43.Code}{g:Ins×Nat->Option Ins}{y:Ins}(h:some y∈c.zipIdx.map g):∃i x,c[i]? =some x/\g (x,i)=some y:=by obtain⟨⟨x,i⟩,hx,e⟩:=d_.mp h;have:=RN.mp hx;exact⟨i,x,by simpa using this,e⟩
theorem aav(xs:List V)(h:1<=xs.length):iO xs (some 1) none=xs.drop 1:=by unfold iO;rw[show HT.bj xs.length 0 (some 1)=1 from (HT.Ti xs.length 0 1).trans (by omega),HT.Th];exact RH (by rw[za];exact aI _)
inductive P9(t:Ad)(vs:List V)(H:Hp)(Q:VK)(e0:XK):Prop
 |mk (a:Addr) (i:Ins) (b:Nat):vs=[.ref a,.int (b:Int)]->IA t H a i->((∀d,givesOf i=some d->d<=64))->(∀y H',ae H H'->dR t H' y (yH b i)->Q y H')->P9 t vs H Q e0
section
variable{P:Program}{w:World}{K:ax}{mg:Str->Option Value}{base:Heap}{t:Ad}
theorem P_:aQ ["program","held","instruction","before"] ["program"] (aC AJ):=aS
theorem aaw(T:Txt K mg t):aG P w K mg base aR 8 t.kn t.CI ["program"] (lY t (λp=>∀j,j<p.code.length->F.gt (Sz43.facts p.code) j≠none) (λ_=>Sz43.share)):=by
 refine T.xG.ok P_ (λvs H Q E h=>?_) (λ_ A _ s H vs Q E hr h=>?_)
 ·obtain⟨_,_,rfl,_⟩:=h;rfl
 ·obtain⟨x,p,rfl,hX,O,pre,k⟩:=h;have nd:=P_.nd;have i_:=hr.mono (show 5<=7 by decide);have ik:=hr.mono (show 4<=7 by decide);refine⟨_,aq (aZ (i:=1) nd rfl (Or.inl rfl) (aP (Z3 T) hr rfl T.Ku T.wV.kp (VP T) .nil aH (aa (pv 0) af)))
   (ak (aB (aP (uz T) i_ rfl T.qE T.mG.kp (tE T) .nil aH (aa (ia (g:=jG K 2 (eC (c6 2) (eC (c6 3) kb))) (own:=[("instruction",2),("before",3)]) rfl nd (vS rfl T.tD (aa (aE (pv 0) rfl) (aa (pv 1) af))) ?b1 (λs H C cl fp=>mo rfl (fL (bD (i:=2) nd rfl (Or.inl rfl)) (fL (bD (i:=3) nd rfl (Or.inl rfl)) mn))) (λs H C cl fp=>eF) (λs H C cl fp=>aP (aat T) ik rfl T.K8 T.xF.kp (Wv T) .nil aH (aa (pv 2) (aa (pv 3) af)))) af)))),?_⟩
  ·show c9 ["program","held","instruction","before"] (aC AJ) _ _;exact⟨rfl,by decide+kernel,by decide+kernel,by decide+kernel,by decide+kernel⟩
  ·have h256:=O.dQ;refine⟨_,rfl,x,p,rfl,hX,O,λbf ws B H1 hb hE hlen hkn hwf s1=>?_⟩;obtain⟨dx,li,ns,hx,⟨is,hli,cQ⟩,_⟩:=hX.same s1;have ln:is.length=p.code.length:=bC cQ;have lw:ws.length=B.length:=bC hE;refine⟨_,rfl,x,_,dx,_,_,rfl,hx,T.fz,T.kr,mR _ _,_,rfl,li,bf,_,_,rfl,aj.of hli,aj.of hb,λD hD=>?_⟩;refine yi (λ_=>true) (λi y H=>∀o,(p.code.zipIdx.map λ(x:Ins×Nat)=>Sz43.shared (Sz43.factsAt (Sz43.facts p.code) x.2) x.1)[i]? =some o->dR t H y o) hD (by rw[aK,bg];omega) (aj.of hli) (aj.of hb) (by rw[aK];omega) (λi y H H' r k o ho=>dR.nl (r o ho) k) (λx y=>rfl) (λi y z H2 hi hj s2 A' B' hA hB=>?_) λys H2 s2 hL pr=>?_
   ·rw[bF]at hi;obtain⟨a,hai,rfl⟩:=cK.mp hi;have il:i<p.code.length:=by have:=(bW.mp hai).1;omega
    have hc:p.code[i]? =some p.code[i]:=aN il;have hI:=(cE (F:=λa i=>IA t H1 a i) cQ hai hc).nl s2.nl;have mZ:=cE hE hj (Ed (j:=i) (by omega));have mZ:=dI.same mZ s2;have O':=O.good _ (bu hc);obtain⟨kn1,kn2⟩:=hkn i;cases yW:gt B i with
    |none=>exact absurd (kn1.mpr yW) (pre i il)
    |some l=>rw[yW]at mZ;obtain⟨kp,rfl,hLA⟩:=mZ;have ll:=hwf i l yW;refine aD (B:=B' H2) ?_;refine⟨_,rfl,_,rfl,a,kp,p.code[i],l,rfl,hI,hLA,λv hv=>by rw[ll];exact O'.us v hv,λd hd=>by rw[ll];exact O'.gv d hd,λy H4 s4 hy=>hA rfl _ _ s4 λo ho=>?_⟩;rw[zip_get hc]at ho;cases ho;dsimp only;rw[YY (kn2 l yW),ab4];exact hy
   ·rw[kH,aK,ln,<-gX p.code λ(x:Ins×Nat)=>Sz43.shared (Sz43.factsAt (Sz43.facts p.code) x.2) x.1]at pr;refine⟨D,_,rfl,⟨ys,hL,kI pr⟩,by rw[gX];exact h256,λy hy u hu=>?_,λD' H3 s3 uD=>k D' H3 ((s1.trans s2).trans s3) uD⟩;rw[gX];obtain⟨i0,x0,hc0,ey⟩:=yV hy;exact(O.good x0 (bu hc0)).tg u (aau ey hu)
theorem aax:aQ ["instruction","needed_behind"] ["instruction","needed_behind"] (aC J7):=aS
theorem aay(T:Txt K mg t):aG P w K mg base aR 2 t.Bq t.CJ ["instruction","needed_behind"] (P9 t):=by
 refine T.xH.ok aax (λvs H Q E h=>?_) (λ_ A _ s H vs Q E hr h=>?_)
 ·obtain⟨_,_,_,rfl,_⟩:=h;rfl
 ·obtain⟨a,i,b,rfl,hI,hgv,k⟩:=h;refine⟨_,aq (aU (PW.pt (lg (cR (iI (aE (pv 0) rfl))) (k_ (aX bP (aE (pv 0) rfl) bJ (aY _))))) (ak (aB (pv 0))) aW) (ak (aB (iJ (aX bP (bU r_ (pv 1) (aP (E8 T) hr rfl T.xj T.qG.kp (DK T) .nil aH (aa (aE (pv 0) rfl) af))) aL (aY _)) fh (pv 0)))),?_⟩
  obtain⟨dx,u,op,ha,hu,hop⟩:=id hI;have cl:=T.cS;refine⟨_,rfl,a,_,dx,_,_,rfl,ha,cl,T.cO,c7,_,rfl,?_⟩;have stay:yH b i=some i->Q (.ref a) H:=λe=>k _ H (ae.refl H) (by rw[e];exact⟨a,rfl,hI⟩)
  have main:∀d:Nat,dZ i=.int (d:Int)->d<=64->yH b i=(if b&&& 2^d=0 then none else some i)->
    (zy (nN (gG zH (gG (hV λi j=>V.int (Builtin.bitAnd i j)) (dS 1) (sf E6 [] E0 (ke (nQ K (dS 0) "given") kc))) (tC (.int 0)))) (tC .au) (dS 0)) [some (.ref a),some (.int (b:Int))] H Q:=λd eg hd en=>by
   refine⟨_,rfl,_,rfl,a,_,dx,_,_,rfl,ha,cl,T.cO,c7,d,(by rw[eg];rfl),hd,_,_,rfl,rfl,?_⟩;refine⟨rfl,_,rfl,?_⟩;have e:decide (V.int (Builtin.bitAnd (b:Int) ((2^d:Nat):Int))=V.int 0)=decide (b&&& 2^d=0):=by show decide (V.int (Builtin.bitAnd _ _)=V.int 0)=_;rw[aaa];exact d5 _ 0
   rw[e];by_cases h0:b&&& 2^d=0
   ·rw[bx h0];rw[ai h0]at en;refine aD ?_;exact k _ H (ae.refl H) (by rw[en];rfl)
   ·rw[a9 h0];rw[ah h0]at en;refine aA ?_;exact⟨_,rfl,stay en⟩
  cases i with
  |num d z=>refine aA ?_;refine⟨_,rfl,a,_,dx,_,_,rfl,ha,cl,T.bH,bL,rfl,_,rfl,?_⟩;refine aA ?_;exact main d rfl (hgv d rfl) rfl
  |copy d z=>refine aA ?_;refine⟨_,rfl,a,_,dx,_,_,rfl,ha,cl,T.bH,bL,rfl,_,rfl,?_⟩;refine aA ?_;exact main d rfl (hgv d rfl) rfl
  |op n d z z'=>refine aA ?_;refine⟨_,rfl,a,_,dx,_,_,rfl,ha,cl,T.bH,bL,rfl,_,rfl,?_⟩;refine aA ?_;exact main d rfl (hgv d rfl) rfl
  |read d=>refine aA ?_;refine⟨_,rfl,a,_,dx,_,_,rfl,ha,cl,T.bH,bL,rfl,_,rfl,?_⟩;refine aD ?_;exact⟨_,rfl,stay rfl⟩
  |_=>refine aD ?_;refine aD ?_;exact⟨_,rfl,stay rfl⟩
theorem Qa:aQ ["program","needed_behind","instruction","bits"] ["program"] (aC AK):=aS
theorem aaz(T:Txt K mg t):aG P w K mg base aR 8 t.ko t.CK ["program"] (lY t (λ_=>True) (λ_=>Sz43.spare)):=by
 refine T.xI.ok Qa (λvs H Q E h=>?_) (λ_ A _ s H vs Q E hr h=>?_)
 ·obtain⟨_,_,rfl,_⟩:=h;rfl
 ·obtain⟨x,p,rfl,hX,O,_,k⟩:=h;have nd:=Qa.nd;have i_:=hr.mono (show 5<=7 by decide);have ik:=hr.mono (show 4<=7 by decide);have hr2:=hr.mono (show 2<=7 by decide);refine⟨_,aq (aZ (i:=1) nd rfl (Or.inl rfl) (Hu TF (aP (aae T) ik rfl T.KO T.xm.kp (Wh T) .nil aH (aa (pv 0) af)) (Ht aL) Hs))
   (ak (aB (aP (uz T) i_ rfl T.qE T.mG.kp (tE T) .nil aH (aa (ia (g:=jG K 2 (eC (c6 2) (eC (c6 3) kb))) (own:=[("instruction",2),("bits",3)]) rfl nd (vS rfl T.tD (aa (aE (pv 0) rfl) (aa (pv 1) af))) ?b1 (λs H C cl fp=>mo rfl (fL (bD (i:=2) nd rfl (Or.inl rfl)) (fL (bD (i:=3) nd rfl (Or.inl rfl)) mn))) (λs H C cl fp=>eF) (λs H C cl fp=>aP (aay T) hr2 rfl T.K_ T.xH.kp (Wx T) .nil aH (aa (pv 2) (aa (pv 3) af)))) af)))),?_⟩
  ·show c9 ["program","needed_behind","instruction","bits"] (aC AK) _ _;exact⟨rfl,by decide+kernel,by decide+kernel,by decide+kernel,by decide+kernel⟩
  ·have h256:=O.dQ;have h64:=O.d6;refine⟨_,rfl,x,p,rfl,hX,O,λne N H0 hN lN hbit s0=>?_⟩;refine⟨_,rfl,ne,_,rfl,aj.of hN,λbf mY=>?_⟩;have s1:=s0.trans (ae.new (o:=.lst (iO (iw N) (some 1) none)) mY);have ec:iO (iw N) (some 1) none=iw (N.drop 1):=by
    rw[aav _ (by rw[bG];omega)];unfold iw;rw[List.map_drop]
   obtain⟨H1,fU⟩:∃H1,H1=upd H0 bf (.lst (iO (iw N) (some 1) none)):=⟨_,rfl⟩;have hb:H1 bf=some (.lst (iw (N.drop 1))):=by rw[fU,aw,ec]
   rw[<-fU]at s1;rw[<-fU];obtain⟨dx,li,ns,hx,⟨is,hli,cQ⟩,_⟩:=hX.same s1;have ln:is.length=p.code.length:=bC cQ;have ld:(N.drop 1).length=p.code.length:=by rw[za];omega
   refine⟨_,rfl,x,_,dx,_,_,rfl,hx,T.fz,T.kr,mR _ _,_,rfl,li,bf,_,_,rfl,aj.of hli,aj.of hb,λD hD=>?_⟩;refine yi (λ_=>true) (λi y H=>∀o,(p.code.zipIdx.map λ(x:Ins×Nat)=>if Sz43.needless p.code x=true then none else some x.1)[i]? =some o->dR t H y o) hD (by rw[aK,bg];omega) (aj.of hli) (aj.of hb) (by rw[aK,bG];omega) (λi y H H' r k o ho=>dR.nl (r o ho) k) (λx y=>rfl) (λi y z H2 hi hj s2 A' B' hA hB=>?_) λys H2 s2 hL pr=>?_
   ·rw[bF]at hi;obtain⟨a,hai,rfl⟩:=cK.mp hi;have il:i<p.code.length:=by have:=(bW.mp hai).1;omega
    have hc:p.code[i]? =some p.code[i]:=aN il;have hI:=(cE (F:=λa i=>IA t H1 a i) cQ hai hc).nl s2.nl;have O':=O.good _ (bu hc);have ez:z=.int (N.getD (i+1) 0:Int):=by
     rw[E7 (by omega)]at hj;have e:(N.drop 1).getD i 0=N.getD (i+1) 0:=by rw[fJ,fJ,List.getElem?_drop,Nat.add_comm]
     rw[e]at hj;exact(cI hj).symm
    subst ez;refine aD (B:=B' H2) ?_;refine⟨_,rfl,_,rfl,a,p.code[i],_,rfl,hI,λd hd=>by have:=O'.gv d hd;omega,λy H4 s4 hy=>hA rfl _ _ s4 λo ho=>?_⟩;rw[zip_get hc]at ho;cases ho;dsimp only;rw[Zq (b:=N.getD (i+1) 0) λv=>hbit (i+1) v];exact hy
   ·rw[kH,aK,ln,<-gX p.code λ(x:Ins×Nat)=>if Sz43.needless p.code x=true then none else some x.1]at pr;refine⟨D,_,rfl,⟨ys,hL,kI pr⟩,by rw[gX];exact h256,λy hy u hu=>?_,λD' H3 s3 uD=>k D' H3 ((s1.trans s2).trans s3) uD⟩;rw[gX];obtain⟨i0,x0,hc0,ey⟩:=yV hy;dsimp only at ey;split at ey
    ·cases ey
    ·have ey:=cI ey;rw[<-ey]at hu;exact(O.good x0 (bu hc0)).tg u hu
end
end My
namespace My
open PySem L2
theorem aaA(i:Nat)(x:Ins):decide (kG x=V.int ((i+1:Nat):Int))=Sz43.leads (i+1) x:=by
 rw[f9,pZ,N7,uw];cases tgt x with
 |none=>
  constructor
  ·intro e;cases e
  ·intro e;cases e
 |some u=>
  constructor
  ·intro e;injection e with e
   congr 1
   omega
  ·intro e;cases e;rfl
inductive Qc(t:Ad)(vs:List V)(H:Hp)(Q:VK)(e0:XK):Prop
 |mk (x:Addr) (p:Sz43.Program):vs=[.ref x]->fD t H x p->PO p->(∀y H',ae H H'->fD t H' y ⟨p.vars,Sz43.once p.vars.length p.code⟩->Q (.ref y) H')->Qc t vs H Q e0
section
variable{P:Program}{w:World}{K:ax}{mg:Str->Option Value}{base:Heap}{t:Ad}
theorem Qd:aQ ["program","instructions","led","found","staying","instruction","place"] ["program"] (aC sT):=aS
theorem aaB(T:Txt K mg t):aG P w K mg base aR 8 t.kl t.BZ ["program"] (lY t (λ_=>True) (λ_ c=>Sz43.onward (Sz43.pruned (Sz43.straight c)))):=by
 refine T.w9.ok Qd (λvs H Q E h=>?_) (λ_ A _ s H vs Q E hr h=>?_)
 ·obtain⟨_,_,rfl,_⟩:=h;rfl
 ·obtain⟨x,p,rfl,hX,O,_,k⟩:=h;have nd:=Qd.nd;have hu:=kh hr;have i_:=hr.mono (show 5<=7 by decide);have ik:=hr.mono (show 4<=7 by decide);have hr2:=hr.mono (show 2<=7 by decide);refine⟨_,aq (aZ (i:=1) nd rfl (Or.inr rfl) (aE (pv 0) rfl))
   (aq (my (i:=2) (own:=[("instruction",5)]) rfl nd rfl rfl rfl (gC (pv 1)) ?b1 (λs H C cl fp=>bD (i:=5) nd rfl (Or.inl rfl)) (λs H C cl fp=>eF) (λs H C cl fp=>aP (aah T) ik rfl T.Kz T.w6.kp (VU T) .nil aH (aa (pv 5) (aa (pv 1) af))))
   (aq (aZ (i:=3) nd rfl (Or.inr rfl) (aP (aai T) hr2 rfl T.KA T.w8.kp (VW T) .nil aH (aa (pv 2) af)))
   (aq (aZ (i:=4) nd rfl (Or.inl rfl) (aP (uz T) i_ rfl T.qE T.mG.kp (tE T) .nil aH (aa (ia (g:=jG K 2 (eC (c6 6) (eC (c6 5) kb))) (own:=[("place",6),("instruction",5)]) rfl nd (An rfl T.xQ (aa (pv 2) af)) ?b2 (λs H C cl fp=>mo rfl (fL (bD (i:=6) nd rfl (Or.inl rfl)) (fL (bD (i:=5) nd rfl (Or.inl rfl)) mn))) (λs H C cl fp=>eF) (λs H C cl fp=>iJ (cR (vL hu (pv 6) (pv 3))) (pv 5) fh)) af)))
   (ak (aB (aP (uz T) i_ rfl T.qE T.mG.kp (tE T) .nil aH (aa (ia (g:=jG K 2 (eC (c6 6) (eC (c6 5) kb))) (te:=zy (nN (gG zH (nQ K (dS 5) "place") (gG (hV λi j=>.int (i+j)) (dS 6) (tC (.int 1))))) (tC .au) (dS 5)) (own:=[("place",6),("instruction",5)]) rfl nd (An rfl T.xQ (aa (pv 4) af)) ?b3 (λs H C cl fp=>mo rfl (fL (bD (i:=6) nd rfl (Or.inl rfl)) (fL (bD (i:=5) nd rfl (Or.inl rfl)) mn))) (λs H C cl fp=>eF) (λs H C cl fp=>iJ (aX bP (aE (pv 5) rfl) (bU ji (pv 6) aL) (aY _)) fh (pv 5))) af))))))),?_⟩
  ·show c9 ["program","instructions","led","found","staying","instruction","place"] (aC sT) _ _;exact⟨rfl,by decide+kernel,by decide+kernel,by decide+kernel,by decide+kernel⟩
  ·show c9 ["program","instructions","led","found","staying","instruction","place"] (aC sT) _ _;exact⟨rfl,by decide+kernel,by decide+kernel,by decide+kernel,by decide+kernel⟩
  ·show c9 ["program","instructions","led","found","staying","instruction","place"] (aC sT) _ _;exact⟨rfl,by decide+kernel,by decide+kernel,by decide+kernel,by decide+kernel⟩
  ·have h256:=O.dQ;have G:=O.good;obtain⟨dx,li,ns,hx,hLi,_⟩:=id hX;obtain⟨is,hli,cQ⟩:=id hLi;have ln:is.length=p.code.length:=bC cQ;refine⟨_,rfl,x,_,dx,_,_,rfl,hx,T.fz,T.kr,mR _ _,?_⟩;refine⟨_,rfl,li,rfl,⟨_,aj.of hli⟩,λD1 Fi=>?_⟩;refine tM (xs:=is.map V.ref) (λ_=>true) (λi y H=>∀x,p.code[i]? =some x->∃a,y=.ref a/\IA t H a (sent (jT p.code) x)) Fi (by rw[aK,bg];omega) (λH2 s2=>qB (aj.of (s2 _ _ hli))) (λi y H H' r k x hx=>by
    obtain⟨a,e,h⟩:=r x hx;exact⟨a,e,h.nl k⟩) (λx=>rfl) (λi y H2 hi s2 A' B' hA hB=>?_) λys H2 s2 hL pr=>?_
   ·rw[bF]at hi;obtain⟨a,hai,rfl⟩:=cK.mp hi;have il:i<p.code.length:=by have:=(bW.mp hai).1;omega
    have hc:p.code[i]? =some p.code[i]:=aN il;have hI:=(cE (F:=λa i=>IA t H a i) cQ hai hc).nl s2.nl;have O':=G _ (bu hc);refine aD (B:=B' H2) ?_;refine⟨_,rfl,_,rfl,a,li,p.code[i],p.code,rfl,hI,hLi.same s2,G.kK,O'.tg,h256,λb H4 s4 hb=>hA rfl _ _ s4 λx' hx'=>?_⟩;rw[hc]at hx';cases hx';exact⟨b,rfl,hb⟩
   rw[kH,aK,ln]at pr;obtain⟨Fj,rfl,hi1⟩:=E2 (F:=λa x=>IA t H2 a (sent (jT p.code) x)) (kI pr);have mp:∀{is:List Addr}{c:List Ins},Paired (λa x=>IA t H2 a (sent (jT p.code) x)) is c->Paired (λa i=>IA t H2 a i) is (c.map (sent (jT p.code))):=by
    intro is c h
    induction h with
    |nil=>exact .nil
    |cons r _ ih=>exact .cons r ih
   have Fk:gR t H2 D1 (Sz43.straight p.code):=⟨Fj,hL,mp hi1⟩;clear pr hi1 mp;obtain⟨G1,_⟩:=N6 G;obtain⟨c1,Fl⟩:∃c1,c1=Sz43.straight p.code:=⟨_,rfl⟩;have lc1:c1.length=p.code.length:=by rw[Fl];exact aK _
   rw[<-Fl]at Fk G1;refine⟨_,rfl,D1,c1,rfl,Fk,G1.kK,by omega,λfd S H3 hfd hS s3=>?_⟩;obtain⟨Fj,Qe,Qg⟩:=Fk.same s3;have oY:Fj.length=c1.length:=bC Qg;have s03:=s2.trans s3;refine⟨_,rfl,D1,_,rfl,aj.of Qe,λD2 tJ=>?_⟩;refine D6 (λ_=>true) (λi y H=>∀o,(c1.zipIdx.map λ(x:Ins×Nat)=>if (Sz43.reached c1).contains x.2=true then some x.1 else none)[i]? =some o->dR t H y o) tJ (by rw[aK,bg];omega) (aj.of Qe) (λi y H H' r k o ho=>dR.nl (r o ho) k) (λx y=>rfl) (λi y H4 hi s4 A' B' hA hB=>?_) λys H4 s4 Fm pr=>?_
   ·rw[bF]at hi;obtain⟨a,hai,rfl⟩:=cK.mp hi;have il:i<c1.length:=by have:=(bW.mp hai).1;omega
    have hc:c1[i]? =some c1[i]:=aN il;have hI:=(cE (F:=λa i=>IA t H3 a i) Qg hai hc).nl s4.nl;refine aD (B:=B' H4) ?_;refine⟨_,rfl,_,rfl,fd,_,rfl,dt.k (k:=Sum.inl (i:Int)) (s4 _ _ hfd),_,rfl,?_⟩;rw[uC];by_cases hm:i∈S
    ·rw[ai hm];refine aD ?_;refine⟨_,rfl,hA rfl _ _ (ae.refl _) λo ho=>?_⟩;rw[zip_get hc]at ho;dsimp only at ho;rw[ai ((hS i il).mp hm)]at ho;cases ho;exact⟨a,rfl,hI⟩
    ·rw[ah hm];refine aA ?_;refine hA rfl _ _ (ae.refl _) λo ho=>?_
     rw[zip_get hc]at ho;dsimp only at ho;rw[ah λz=>hm ((hS i il).mpr z)]at ho;cases ho;rfl
   rw[kH,aK,oY,<-gX c1 λ(x:Ins×Nat)=>if (Sz43.reached c1).contains x.2=true then some x.1 else none]at pr;refine⟨D2,_,rfl,⟨ys,Fm,kI pr⟩,by rw[gX];omega,λy hy u hu=>?_,λD3 H5 s5 yX=>?_⟩
   ·rw[gX];obtain⟨i0,x0,hc0,ey⟩:=yV hy;dsimp only at ey;split at ey
    ·have ey:=cI ey;rw[<-ey]at hu;exact(G1 x0 (bu hc0)).tg u hu
    ·cases ey
   have yX:gR t H5 D3 (Sz43.pruned c1):=yX;obtain⟨G2,l2⟩:=N5 G1;obtain⟨c2,ec2⟩:∃c2,c2=Sz43.pruned c1:=⟨_,rfl⟩;rw[<-ec2]at yX G2 l2;have s05:=(s03.trans s4).trans s5;obtain⟨is2,Qh,Qi⟩:=id yX;have ln2:is2.length=c2.length:=bC Qi;have cl:=T.cS;refine⟨_,rfl,D3,_,rfl,aj.of Qh,λD4 hD4=>?_⟩;refine D6 (λ_=>true) (λi y H=>∀o,(c2.zipIdx.map λ(x:Ins×Nat)=>if Sz43.leads (x.2+1) x.1=true then none else some x.1)[i]? =some o->dR t H y o) hD4 (by rw[aK,bg];omega) (aj.of Qh) (λi y H H' r k o ho=>dR.nl (r o ho) k) (λx y=>rfl) (λi y H6 hi s6 A' B' hA hB=>?_) λys H6 s6 hL6 pr=>?_
   ·rw[bF]at hi;obtain⟨a,hai,rfl⟩:=cK.mp hi;have il:i<c2.length:=by have:=(bW.mp hai).1;omega
    have hc:c2[i]? =some c2[i]:=aN il;have hI:=(cE (F:=λa i=>IA t H5 a i) Qi hai hc).nl s6.nl;obtain⟨dx6,u6,op6,ha6,hu6,hop6⟩:=id hI;refine aD (B:=B' H6) ?_;have sc:vx (kG c2[i]) (V.int ((i+1:Nat):Int))=true:=by rw[uw];cases tgt c2[i]<;>rfl
    refine⟨_,rfl,a,_,dx6,_,_,rfl,ha6,cl,T.fv,gN,_,rfl,_,_,rfl,rfl,sc,_,rfl,?_⟩;show if decide (kG c2[i]=V.int ((i+1:Nat):Int))=true then _ else _
    rw[aaA];by_cases hm:Sz43.leads (i+1) c2[i]=true
    ·rw[hm];refine aD ?_;refine hA rfl _ _ (ae.refl _) λo ho=>?_
     rw[zip_get hc]at ho;dsimp only at ho;rw[ai hm]at ho;cases ho;rfl
    ·rw[nB]at hm;rw[hm];refine aA ?_;refine⟨_,rfl,hA rfl _ _ (ae.refl _) λo ho=>?_⟩;rw[zip_get hc]at ho;dsimp only at ho;rw[hm,ah (by decide)]at ho;cases ho;exact⟨a,rfl,hI⟩
   rw[kH,aK,ln2,<-gX c2 λ(x:Ins×Nat)=>if Sz43.leads (x.2+1) x.1=true then none else some x.1]at pr;refine⟨D4,_,rfl,⟨ys,hL6,kI pr⟩,by rw[gX];omega,λy hy u hu=>?_,λD5 H7 s7 hL7=>k D5 H7 ((s05.trans s6).trans s7) ?_⟩
   ·rw[gX];obtain⟨i0,x0,hc0,ey⟩:=yV hy;dsimp only at ey;split at ey
    ·cases ey
    ·have ey:=cI ey;rw[<-ey]at hu;exact(G2 x0 (bu hc0)).tg u hu
   ·show gR t H7 D5 (Sz43.onward (Sz43.pruned (Sz43.straight p.code)));rw[<-Fl,<-ec2];exact hL7
theorem Qj:aQ ["program","better"] ["program"] (aC J8):=aS
theorem aaC(T:Txt K mg t):aG P w K mg base aR 9 t.Br t.CL ["program"] (Qc t):=by
 refine T.xJ.ok Qj (λvs H Q E h=>?_) (λ_ A _ s H vs Q E hr h=>?_)
 ·obtain⟨_,_,rfl,_⟩:=h;rfl
 ·obtain⟨x,p,rfl,hX,O,k⟩:=h;have nd:=Qj.nd;have hr2:=hr.mono (show 2<=8 by decide);refine⟨_,aq (gF gp rfl (lh (fM (aa (iH (v:=.ref t.km) rfl T.K4 rfl) (aa (iH (v:=.ref t.kn) rfl T.K9 rfl) (aa (iH (v:=.ref t.ko) rfl T.La rfl) (aa (iH (v:=.ref t.kl) rfl T.KC rfl) af)))))) (bD (i:=1) nd rfl (Or.inl rfl))
    (ak (aZ (i:=0) nd rfl (Or.inl rfl) (qp T.DC (Nh T) hr2 rfl T.DB (L7 T) .nil aH (aa (vZ (i:=1) (spT:=λf vs H Q=>(f=t.km/\lY t (λ_=>True) Sz43.fold vs H Q E0)\/(f=t.kn/\lY t (λp=>∀j,j<p.code.length->F.gt (Sz43.facts p.code) j≠none) (λ_=>Sz43.share) vs H Q E0)\/(f=t.ko/\lY t (λ_=>True) (λ_=>Sz43.spare) vs H Q E0)\/(f=t.kl/\lY t (λ_=>True) (λ_ c=>Sz43.onward (Sz43.pruned (Sz43.straight c))) vs H Q E0)) (λf vs H Q h=>by
      rcases h with ⟨rfl,h⟩ |⟨rfl,h⟩ |⟨rfl,h⟩ |⟨rfl,h⟩
      ·exact⟨_,_,_,_,aao T,hr,Wt T,h⟩
      ·exact⟨_,_,_,_,aaw T,hr,Ww T,h⟩
      ·exact⟨_,_,_,_,aaz T,hr,Wy T,h⟩
      ·exact⟨_,_,_,_,aaB T,hr,VX T,h⟩) rfl (Or.inl rfl) (aa (pv 0) af)) (aa (aE (pv 0) rfl) af))))))
   (ak (aB (pv 0))),?_⟩
  have G0:=O.good;obtain⟨G1,l1⟩:=Ew ur (show aV 0 by unfold aV;omega) G0;obtain⟨G2,l2⟩:=N2 G1;obtain⟨G3,l3⟩:=N4 G2;have h256:=O.dQ;have h64:=O.d6
  let cs:Nat->Sz43.Code:=λi=>match i with
   |0=>p.code
   |1=>Sz43.fold p.vars.length p.code
   |2=>Sz43.share (Sz43.fold p.vars.length p.code)
   |3=>Sz43.spare (Sz43.share (Sz43.fold p.vars.length p.code))
   |_=>Sz43.once p.vars.length p.code
  refine dW ?_;refine⟨(by show 4<=sizeLine;decide),λtp htp=>?_⟩;have s0:=ae.new (o:=.tup [.ref t.km,.ref t.kn,.ref t.ko,.ref t.kl]) htp;refine⟨tp,rfl,⟨_,a8.of aw⟩,zD (K:=K) (a:=tp) (xs:=[.ref t.km,.ref t.kn,.ref t.ko,.ref t.kl]) (λr σ Hh=>∃(y:Addr)(v1:Option V),σ=[some (.ref y),v1]/\fD t Hh y ⟨p.vars,cs r⟩/\Hh tp=some (.tup [.ref t.km,.ref t.kn,.ref t.ko,.ref t.kl])/\ae H Hh) ⟨x,none,rfl,hX.same s0,aw,s0⟩ (λr σ Hh _ ⟨_,_,_,_,e,_⟩=>a8.of e) ?_ ?_⟩
  ·rintro r y σ Hh hy ⟨z,v1,rfl,hZ,ht,sm⟩
   have fin:∀(c':Sz43.Code)(li:Addr)(H1:Hp),cs (r+1)=c'->ae Hh H1->gR t H1 li c'->∀(ns:Addr),o9 H1 ns p.vars->∀x' da,H1 x'=none->H1 da=none->da≠x'->Ea t [.ref x',.ref li,.ref ns] (upd (upd H1 da (.own x')) x' (.ins t.lI da [])) (λv H3=>v=.au/\∃(y':Addr)(v1:Option V),[some (V.ref x'),some y]=[some (.ref y'),v1]/\fD t H3 y' ⟨p.vars,cs (r+1)⟩/\H3 tp=some (.tup [.ref t.km,.ref t.kn,.ref t.ko,.ref t.kl])/\ae H H3) E0:=by intro c' li H1 ec s1 hL ns hN x' da nx cP ij;refine⟨x',da,_,_,rfl,aw,λH4 h1 h2=>⟨rfl,?_⟩⟩;have s4:=gQ nx cP h2;exact⟨x',_,rfl,⟨da,li,ns,h1,by rw[ec];exact hL.same s4,hN.same s4⟩,s4 _ _ (s1 _ _ ht),(sm.trans s1).trans s4⟩
   obtain⟨dz,lz,nz,hz,hLz,hNz⟩:=id hZ;have ik:r<4:=(bW.mp hy).1
   match r,ik,hy with
   |0,_,hy=>
    have hy:V.ref t.km=y:=by simpa using hy
    subst hy;refine⟨_,rfl,T.xD.kp,_,rfl,.inl ⟨rfl,z,⟨p.vars,cs 0⟩,rfl,hZ,⟨G0,h256,h64⟩,trivial,λli H1 s1 hL=>?_⟩⟩;exact⟨_,rfl,z,_,dz,_,_,rfl,s1 _ _ hz,T.fz,T.lK,o8 _ _,fin _ li H1 rfl s1 hL nz (hNz.same s1)⟩
   |1,_,hy=>
    have hy:V.ref t.kn=y:=by simpa using hy
    subst hy;refine⟨_,rfl,T.xG.kp,_,rfl,.inr (.inl ⟨rfl,z,⟨p.vars,cs 1⟩,rfl,hZ,⟨G1,bE l1 h256,h64⟩,λj hj=>Zn ur (show aV 0 by unfold aV;omega) G0 j hj,λli H1 s1 hL=>?_⟩)⟩;exact⟨_,rfl,z,_,dz,_,_,rfl,s1 _ _ hz,T.fz,T.lK,o8 _ _,fin _ li H1 rfl s1 hL nz (hNz.same s1)⟩
   |2,_,hy=>
    have hy:V.ref t.ko=y:=by simpa using hy
    subst hy;refine⟨_,rfl,T.xI.kp,_,rfl,.inr (.inr (.inl ⟨rfl,z,⟨p.vars,cs 2⟩,rfl,hZ,⟨G2,bE l2 (bE l1 h256),h64⟩,trivial,λli H1 s1 hL=>?_⟩))⟩;exact⟨_,rfl,z,_,dz,_,_,rfl,s1 _ _ hz,T.fz,T.lK,o8 _ _,fin _ li H1 rfl s1 hL nz (hNz.same s1)⟩
   |3,_,hy=>
    have hy:V.ref t.kl=y:=by simpa using hy
    subst hy;refine⟨_,rfl,T.w9.kp,_,rfl,.inr (.inr (.inr ⟨rfl,z,⟨p.vars,cs 3⟩,rfl,hZ,⟨G3,bE l3 (bE l2 (bE l1 h256)),h64⟩,trivial,λli H1 s1 hL=>?_⟩))⟩;exact⟨_,rfl,z,_,dz,_,_,rfl,s1 _ _ hz,T.fz,T.lK,o8 _ _,fin _ li H1 rfl s1 hL nz (hNz.same s1)⟩
  ·rintro σ Hh ⟨z,v1,rfl,hZ,ht,sm⟩
   exact⟨_,rfl,k z Hh sm hZ⟩
end
end My
namespace My
open PySem L2
theorem Ql(n:Nat):(Nat.repr n).toList.map Char.toNat=eK n:=by unfold Nat.repr;rw[String.toList_ofList];exact N_ n
theorem Fo(z:Int):(Str.ofString (toString z)).cps.toList=Sz43.decimal z:=by
 rw[Str.ofString_eq_toList,rb];show((toString z).toList.map Char.toNat)=_;cases z with
 |ofNat n=>rw[ah (by show ¬((n:Int)<0);omega)];exact Ql n
 |negSucc n=>rw[ai (Int.negSucc_lt_zero n)];show(("-" ++Nat.repr (n+1)).toList.map Char.toNat)=_;rw[String.toList_append,eU,Ql];rfl
theorem Qm:∀(k n:Nat),n<10^(k+1)->(eK n).length<=k+1
 |0,n,h=>by rw[ra (by simpa using h)];exact aI _
 |k+1,n,h=>by
  by_cases h1:n<10
  ·rw[ra h1];show 1<=_;omega
  ·have ih:=Qm k (n/10) (by rw[Nat.pow_succ]at h;omega);rw[t_ h1,bo,cZ];omega
theorem Fp{z:Int}(h:aV z):(Sz43.decimal z).length<=20:=by
 rw[rb];unfold aV at h;have h1:=Qm 18 z.natAbs (by
  have:(10:Nat)^(18+1)=10000000000000000000:=by decide
  rw[this];omega)
 split
 ·rw[b6];omega
 ·omega
def Fq(vs:List (List Nat))(i:Ins):List (List Nat):=(usesOf i).map (vM vs)
def uF(vs:List (List Nat)):Ins->List (List Nat)
 | .num _ z=>[Sz43.decimal z]
 | .read _=>[ascii "read"]
 | .copy _ a=>[vM vs a]
 | .op k _ a b=>[vM vs a,Sz43.ops.getD k [],vM vs b]
 |_=>[]
inductive Fs(t:Ad)(vs:List (List Nat))(ps:List V)(H:Hp)(Q:VK)(e0:XK):Prop
 |mk (a us:Addr) (i:Ins):ps=[.ref a,.ref us]->IA t H a i->b_ H us (Fq vs i)->(givesOf i).isSome=true->((∀d z,i=.num d z->aV z))->(∀b H',ae H H'->b_ H' b (uF vs i)->Q (.ref b) H')->Fs t vs ps H Q e0
def pF(H:Hp)(lb:Addr)(c:Sz43.Code):Prop:=∃kvs:List (Key×V),H lb=some (.dK kvs)/\∀u:Nat,(∃q,u∈targets c/\bV kvs (Sum.inl (u:Int))=some (.ref q)/\H q=some (.tup (iw (lM c u))))\/(u ∉ targets c/\bV kvs (Sum.inl (u:Int))=none)
theorem pF.same{H H':Hp}{lb:Addr}{c:Sz43.Code}(h:pF H lb c)(s:ae H H'):pF H' lb c:=by
 obtain⟨kvs,h1,h2⟩:=h;refine⟨kvs,s _ _ h1,λu=>?_⟩;rcases h2 u with ⟨q,a,b,c⟩ |h
 ·exact .inl ⟨q,a,b,s _ _ c⟩
 ·exact .inr h
inductive Qo(t:Ad)(vs:List (List Nat))(c:Sz43.Code)(ps:List V)(H:Hp)(Q:VK)(e0:XK):Prop
 |mk (a ns lb:Addr) (i:Ins):ps=[.ref a,.ref ns,.ref lb]->IA t H a i->o9 H ns vs->pF H lb c->i∈c->GoodC aV vs.length c->(∀b H',ae H H'->H b=none->b_ H' b (a7 (vM vs) (lM c) i)->Q (.ref b) H')->Qo t vs c ps H Q e0
inductive rj(t:Ad)(ps:List V)(H:Hp)(Q:VK)(e0:XK):Prop
 |mk (li:Addr) (c:Sz43.Code) (n:Nat):ps=[.ref li]->gR t H li c->GoodC aV n c->c.length<=256->(∀lb H',ae H H'->pF H' lb c->Q (.ref lb) H')->rj t ps H Q e0
inductive Qp(t:Ad)(ps:List V)(H:Hp)(Q:VK)(e0:XK):Prop
 |mk (x:Addr) (p:Sz43.Program):ps=[.ref x]->fD t H x p->PO p->(∀b qs H',ae H H'->H b=none->(∀q∈qs,H q=none)->H' b=some (.lst (qs.map V.ref))->Paired (λq ws=>b_ H' q ws) qs (gg p.vars p.code)->Q (.ref b) H')->Qp t ps H Q e0
inductive Qq(ps:List V)(H:Hp)(Q:VK)(e0:XK):Prop
 |mk (q:Addr) (ws:List (List Nat)):ps=[.ref q]->b_ H q ws->ws≠[]->(dh ws).length<=1000->(∀b H',ae H H'->H b=none->H' b=some (.lst (iw (dh ws)))->Q (.ref b) H')->Qq ps H Q e0
inductive Qr(t:Ad)(ps:List V)(H:Hp)(Q:VK)(e0:XK):Prop
 |mk (x:Addr) (p:Sz43.Program):ps=[.ref x]->fD t H x p->PO p->e9 p.vars->(∀b H',ae H H'->H' b=some (.lst (iw p.text))->p.text.length<=1000000->Q (.ref b) H')->Qr t ps H Q e0
theorem b_.same{H H':Hp}{q:Addr}{ws:List (List Nat)}(h:b_ H q ws)(s:ae H H'):b_ H' q ws:=h.mono (λ_ _ e=>s _ _ e) λ_ e=>s _ _ e
theorem uG{H:Hp}{rs:List Addr}{ws:List (List Nat)}(h:iT H rs ws){i:Nat}{x:List Nat}(hi:ws[i]? =some x):∃p,(rs.map V.ref)[i]? =some (.ref p)/\H p=some (.tup (iw x)):=by
 have l:rs.length=ws.length:=bC h;have il:i<rs.length:=by have:=(bW.mp hi).1;omega
 exact⟨rs[i],by rw[bF,aN il];rfl,cE (F:=λp w=>H p=some (.tup (iw w))) h (aN il) hi⟩
def dy(ws:List (List Nat)):List Nat:=ws.flatMap λw=>w++[32]
theorem yY:∀{ws:List (List Nat)},ws≠[]->dy ws=List.intercalate [32] ws++[32]
 |[],h=>absurd rfl h
 |[w],_=>by simp[dy,List.intercalate,List.intersperse]
 |w::u::ws,_=>by
  have ih:=yY (ws:=u::ws) (by simp);have e:List.intercalate [32] (w::u::ws)=w++32::List.intercalate [32] (u::ws):=by simp[List.intercalate,List.intersperse]
  have e2:dy (w::u::ws)=(w++[32])++dy (u::ws):=rfl;rw[e2,ih,e];simp
theorem aaD{ws:List (List Nat)}(h:ws≠[]):(dy ws).set ((dy ws).length-1) 10=dh ws:=by rw[yY h];unfold dh;rw[bo,cZ,RT,List.set_append_right _ _ (aI _),Nat.sub_self];rfl
theorem Qs{ws:List (List Nat)}(h:ws≠[]):(dy ws).length=(dh ws).length:=by rw[yY h];unfold dh;rw[bo,bo];rfl
section
variable{P:Program}{w:World}{K:ax}{mg:Str->Option Value}{base:Heap}{t:Ad}
theorem aaE:aQ ["instruction","used"] ["instruction","used"] (aC JU):=aS
theorem aaF(T:Txt K mg t)(vs:List (List Nat)):aG P w K mg base aR 2 t.Bh t.Cw ["instruction","used"] (Fs t vs):=by
 refine T.xt.ok aaE (λps H Q E h=>?_) (λ_ A _ s H ps Q E hr h=>?_)
 ·obtain⟨_,_,_,rfl,_⟩:=h;rfl
 ·obtain⟨a,us,i,rfl,hI,hU,hg,hz,k⟩:=h;refine⟨_,aq (aU (aX bP (aE (pv 0) rfl) bJ (aY _)) (ak (aB (cD (aa (aP (fC T) hr rfl T.eZ T.dX.kp (fA T) .nil aH (aa (mw S1 rfl T.LS rfl (aa (aE (pv 0) rfl) af)) af)) af)))) aW) (aq (aU (aX bP (aE (pv 0) rfl) bJ (aY _)) (ak (aB (cD (aa (aP (fC T) hr rfl T.eZ T.dX.kp (fA T) .nil aH (aa bJ af)) af)))) aW) (aq (aU (aX bP (aE (pv 0) rfl) bJ (aY _)) (ak (aB (pv 1))) aW) (ak (aB (cD (aa (bc bA (pv 1) aL (λ_ _=>rfl)) (aa (aE (pv 0) rfl) (aa (bc bA (pv 1) aL (λ_ _=>rfl)) af)))))))),?_⟩
  obtain⟨dx,u,op,ha,hu,hop⟩:=id hI;have cl:=T.cS;obtain⟨rs,hrs,hw⟩:=id hU;refine⟨_,rfl,a,_,dx,_,_,rfl,ha,cl,T.bH,bL,rfl,_,rfl,?_⟩;cases i with
  |num d z=>
   refine aD ?_;have i64:=hz d z rfl;have sz:=Fp i64;refine⟨_,rfl,a,_,dx,_,_,rfl,ha,cl,T.xN,Mx,z,rfl,?_,Str.ofString (toString z),rfl,?_,λp H1 s1 hp eH=>?_⟩
   ·unfold aV at i64;by_cases h0:z.natAbs=0
    ·rw[h0]
     decide
    ·exact(Nat.log2_lt h0).mpr (pW (show z.natAbs<=9223372036854775808 by omega) (by decide+kernel))
   ·rw[<-gj,Fo];omega
   rw[Fo]at eH;refine⟨(by show 1<=sizeLine;decide),λb hb=>k b _ (s1.trans (ae.new hb)) ⟨[p],aw,.cons (ae.new hb _ _ eH) .nil⟩⟩
  |read d=>refine aA ?_;refine⟨_,rfl,a,_,dx,_,_,rfl,ha,cl,T.bH,bL,rfl,_,rfl,?_⟩;refine aD ?_;refine⟨"read",rfl,by decide,λp H1 s1 hp eH=>?_⟩;have eH:H1 p=some (.tup (iw (ascii "read"))):=eH;exact⟨(by show 1<=sizeLine;decide),λb hb=>k b _ (s1.trans (ae.new hb)) ⟨[p],aw,.cons (ae.new hb _ _ eH) .nil⟩⟩
  |copy d v=>refine aA ?_;refine⟨_,rfl,a,_,dx,_,_,rfl,ha,cl,T.bH,bL,rfl,_,rfl,?_⟩;refine aA ?_;refine⟨_,rfl,a,_,dx,_,_,rfl,ha,cl,T.bH,bL,rfl,_,rfl,?_⟩;refine aD ?_;exact⟨_,rfl,k us H (ae.refl H) hU⟩
  |op n d v v'=>refine aA ?_;refine⟨_,rfl,a,_,dx,_,_,rfl,ha,cl,T.bH,bL,rfl,_,rfl,?_⟩;refine aA ?_;refine⟨_,rfl,a,_,dx,_,_,rfl,ha,cl,T.bH,bL,rfl,_,rfl,?_⟩;refine aA ?_;obtain⟨h12,q,rfl,hq⟩:=hop;obtain⟨p0,i0,e0⟩:=uG hw (i:=0) rfl;obtain⟨p1,i1,e1⟩:=uG hw (i:=1) rfl;refine⟨_,rfl,us,_,_,_,rfl,rfl,aj.of hrs,bq (j:=0) i0,_,rfl,a,_,dx,_,_,rfl,ha,cl,T.mJ,qP,_,rfl,us,_,_,_,rfl,rfl,aj.of hrs,bq (j:=1) i1,(by show 3<=sizeLine;decide),λb hb=>?_⟩;have s1:=ae.new (o:=.lst [.ref p0,.ref q,.ref p1]) hb;exact k b _ s1 ⟨[p0,q,p1],aw,.cons (s1 _ _ e0) (.cons (s1 _ _ hq) (.cons (s1 _ _ e1) .nil))⟩
  |_=>cases hg
theorem Qt:aQ ["instruction","names","labels","used","variable"] ["instruction","names","labels"] (aC AG):=aS
theorem aaG(T:Txt K mg t)(vs:List (List Nat))(c:Sz43.Code):aG P w K mg base aR 3 t.Bg t.Cv ["instruction","names","labels"] (Qo t vs c):=by
 refine T.xr.ok Qt (λps H Q E h=>?_) (λ_ A _ s H ps Q E hr h=>?_)
 ·obtain⟨_,_,_,_,rfl,_⟩:=h;rfl
 ·obtain⟨a,ns,lb,i,rfl,hI,⟨qs,hns,hqs⟩,hL,hi,G,k⟩:=h;have nd:=Qt.nd;have hu:=kh hr;have hr1:=hr.mono (show 1<=2 by decide);refine⟨_,aq (my (i:=3) (own:=[("variable",4)]) rfl nd rfl rfl rfl (lh (aE (pv 0) rfl)) ?b1 (λs H C cl fp=>bD (i:=4) nd rfl (Or.inl rfl)) (λs H C cl fp=>eF) (λs H C cl fp=>bc (r:=nW K) bA (pv 1) (pv 4) (λ_ _=>rfl)))
   (aq (aU (aX bP (aE (pv 0) rfl) bJ (aY _)) (ak (aB (cD (aa (aP (fC T) hr1 rfl T.eZ T.dX.kp (fA T) .nil aH (aa bJ af)) (aa (sE hu (pv 2) (aE (pv 0) rfl) (λ_ _=>rfl)) af))))) aW)
   (aq (aU (aX bP (aE (pv 0) rfl) bJ (aY _)) (ak (aB (cD (aa (aP (fC T) hr1 rfl T.eZ T.dX.kp (fA T) .nil aH (aa bJ af)) (aa (bc bA (pv 3) aL (λ_ _=>rfl)) (aa (aP (fC T) hr1 rfl T.eZ T.dX.kp (fA T) .nil aH (aa bJ af)) (aa (sE hu (pv 2) (aE (pv 0) rfl) (λ_ _=>rfl)) af))))))) aW)
   (aq (aU (cR (iI (aE (pv 0) rfl))) (ak (aB (bU zX (cD (aa (aP (fC T) hr1 rfl T.eZ T.dX.kp (fA T) .nil aH (aa (aE (pv 0) rfl) af)) af)) (pv 3)))) aW)
   (ak (aB (bU zX (cD (aa (bc bA (pv 1) (aE (pv 0) rfl) (λ_ _=>rfl)) (aa (aP (fC T) hr1 rfl T.eZ T.dX.kp (fA T) .nil aH (aa bJ af)) af))) (aP (aaF T vs) hr rfl T.KU T.xt.kp (Wm T) .nil aH (aa (pv 0) (aa (pv 3) af))))))))),?_⟩
  ·show c9 ["instruction","names","labels","used","variable"] (aC AG) _ _;exact⟨rfl,by decide+kernel,by decide+kernel,by decide+kernel,by decide+kernel⟩
  ·obtain⟨dx,u,op,ha,d7,hop⟩:=id hI;have cl:=T.cS;have O:=G i hi;have d7:H u=some (.tup (iw (usesOf i))):=d7;have l2:(usesOf i).length<=2:=by cases i<;>simp[usesOf]
   have lq:qs.length=vs.length:=bC hqs;have nm:∀d,d<vs.length->∃q,(qs.map V.ref)[d]? =some (.ref q)/\H q=some (.tup (iw (vM vs d))):=λd hd=>by refine uG hqs ?_;unfold vM;rw[fJ,aN hd];rfl
   refine⟨_,rfl,a,_,dx,_,_,rfl,ha,cl,T.fO,gO,u,rfl,⟨_,a8.of d7⟩,λD hD=>?_⟩;refine tM (xs:=iw (usesOf i)) (λ_=>true) (λj y H=>∀v,(usesOf i)[j]? =some v->∃q,y=.ref q/\H q=some (.tup (iw (vM vs v)))) hD (by rw[bG,bg];omega) (λH2 s2=>qA (s2.oe (a8.of d7))) (λj y H H' r k v hv=>by obtain⟨q,e,h⟩:=r v hv;exact⟨q,e,k _ _ h (by intro z e;cases e)⟩) (λx=>rfl) (λj y H2 hj s2 A' B' hA hB=>?_) λys H2 s2 hY pr=>?_
   ·obtain⟨v,hv,rfl⟩:=ky hj;obtain⟨q,hq,eq⟩:=nm v (O.us v (bu hv));refine aD (B:=B' H2) ?_;refine⟨_,rfl,_,rfl,ns,_,_,_,rfl,rfl,aj.of (s2 _ _ hns),bq hq,hA rfl _ _ (ae.refl _) λv' hv'=>?_⟩;rw[hv]at hv';cases hv';exact⟨q,rfl,s2 _ _ eq⟩
   rw[kH,bG]at pr;obtain⟨rs,rfl,hrs⟩:=E2 (F:=λq v=>H2 q=some (.tup (iw (vM vs v)))) (kI pr);have hU:b_ H2 D (Fq vs i):=by
    refine⟨rs,hY,?_⟩;unfold Fq;clear pr hY;have mp:∀{rs:List Addr}{us:List Nat},Paired (λq v=>H2 q=some (.tup (iw (vM vs v)))) rs us->iT H2 rs (us.map (vM vs)):=by
     intro rs us h
     induction h with
     |nil=>exact .nil
     |cons r _ ih=>exact .cons r ih
    exact mp hrs
   clear pr hrs;obtain⟨rs,hrs,hw⟩:=id hU;have hI2:=hI.nl s2.nl;have ha2:=s2 _ _ ha;have hL2:=hL.same s2;have cW:∀(H3:Hp)(v:Nat),ae H2 H3->tgt i=some v->∃q,dt H3 lb (.int (v:Int)) (some (.ref q))/\H3 q=some (.tup (iw (lM c v))):=λH3 v s3 hv=>by
    obtain⟨kvs,h1,h2⟩:=hL2.same s3;have tt:v∈targets c:=t9.mpr ⟨O.tg v hv,Ey.mpr ⟨i,hi,hv⟩⟩;rcases h2 v with ⟨q,_,e1,e2⟩ |⟨h,_⟩
    ·refine⟨q,?_,e2⟩;rw[<-e1];exact dt.k (k:=Sum.inl (v:Int)) h1
    ·exact absurd tt h
   refine⟨_,rfl,a,_,dx,_,_,rfl,ha2,cl,T.bH,bL,rfl,_,rfl,?_⟩;have pE:∀d,givesOf i=some d->a7 (vM vs) (lM c) i=[vM vs d,ascii "="]++uF vs i->
     (Gy (gG zW (G_ (ke (gG (nW K) (dS 1) (nQ K (dS 0) "given")) (ke (sf xU [] E0 (ke (tC (.str "=")) kc)) kc))) (sf (Fs t vs) [] E0 (ke (dS 0) (ke (dS 3) kc))))) {nx:=λ_ H'=>Q .au H',rt:=Q} [some (.ref a),some (.ref ns),some (.ref lb),some (.ref D),none] H2:=λd hg ew=>by
    have eg:dZ i=.int (d:Int):=by unfold dZ;rw[hg]
    obtain⟨q,hq,eq⟩:=nm d (O.gv d hg);refine⟨_,rfl,_,rfl,a,_,dx,_,_,rfl,ha2,cl,T.cO,c7,ns,_,_,_,rfl,eg,aj.of (s2 _ _ hns),bq hq,"=",rfl,by decide,λp H3 s3 hp eH=>?_⟩;have eH:H3 p=some (.tup (iw (ascii "="))):=eH;refine⟨(by show 2<=sizeLine;decide),λb hb=>?_⟩;have s4:=ae.new (o:=.lst [.ref q,.ref p]) hb;refine⟨_,rfl,_,rfl,a,D,i,rfl,(hI2.nl s3.nl).nl s4.nl,(hU.same s3).same s4,by rw[hg];rfl,O.nm,λb2 H5 s5 hb5=>?_⟩;obtain⟨Ft,h51,h52⟩:=hb5;have l5:Ft.length=(uF vs i).length:=bC h52;have l3:(uF vs i).length<=3:=by cases i<;>simp[uF]
    refine⟨b,b2,_,_,rfl,rfl,s5 _ _ aw,h51,(by rw[aK,bg];show 2+_<=_;omega),λb3 m3=>?_⟩;have s6:=ae.new (o:=.lst ([.ref q,.ref p]++Ft.map V.ref)) m3;refine k b3 _ ((((s2.trans s3).trans s4).trans s5).trans s6) ((((s2.trans s3).trans s4).trans s5).free m3) ?_;rw[ew];refine⟨q::p::Ft,aw,.cons (s6 _ _ (s5 _ _ (s4 _ _ (s3 _ _ (s2 _ _ eq))))) (.cons (s6 _ _ (s5 _ _ (s4 _ _ eH))) (Paired.c8 h52 λ_ _ e=>s6 _ _ e))⟩
   cases i with
   |goto v=>refine aD ?_;refine⟨"goto",rfl,by decide,λp H3 s3 hp eH=>?_⟩;have eH:H3 p=some (.tup (iw (ascii "goto"))):=eH;obtain⟨q,g1,g2⟩:=cW H3 v s3 rfl;refine⟨_,rfl,_,rfl,a,_,dx,_,_,rfl,s3 _ _ ha2,cl,T.fv,gN,lb,_,rfl,g1,(by show 2<=sizeLine;decide),λb hb=>?_⟩;have s4:=ae.new (o:=.lst [.ref p,.ref q]) hb;exact k b _ ((s2.trans s3).trans s4) ((s2.trans s3).free hb) ⟨[p,q],aw,.cons (s4 _ _ eH) (.cons (s4 _ _ g2) .nil)⟩
   |cond v u'=>refine aA ?_;refine⟨_,rfl,a,_,dx,_,_,rfl,ha2,cl,T.bH,bL,rfl,_,rfl,?_⟩;refine aD ?_;refine⟨"if",rfl,by decide,λp H3 s3 hp eH=>?_⟩;have eH:H3 p=some (.tup (iw (ascii "if"))):=eH;obtain⟨p0,i0,e0⟩:=uG hw (i:=0) rfl;refine⟨_,rfl,D,_,_,_,rfl,rfl,aj.of (s3 _ _ hrs),bq (j:=0) i0,"goto",rfl,by decide,λp' H4 s4 hp' Fu=>?_⟩;have Fu:H4 p'=some (.tup (iw (ascii "goto"))):=Fu;obtain⟨q,g1,g2⟩:=cW H4 u' (s3.trans s4) rfl;refine⟨_,rfl,_,rfl,a,_,dx,_,_,rfl,s4 _ _ (s3 _ _ ha2),cl,T.fv,gN,lb,_,rfl,g1,(by show 4<=sizeLine;decide),λb hb=>?_⟩;have s5:=ae.new (o:=.lst [.ref p,.ref p0,.ref p',.ref q]) hb;exact k b _ (((s2.trans s3).trans s4).trans s5) (((s2.trans s3).trans s4).free hb) ⟨[p,p0,p',q],aw,.cons (s5 _ _ (s4 _ _ eH)) (.cons (s5 _ _ (s4 _ _ (s3 _ _ e0))) (.cons (s5 _ _ Fu) (.cons (s5 _ _ g2) .nil)))⟩
   |print v=>refine aA ?_;refine⟨_,rfl,a,_,dx,_,_,rfl,ha2,cl,T.bH,bL,rfl,_,rfl,?_⟩;refine aA ?_;refine⟨_,rfl,a,_,dx,_,_,rfl,ha2,cl,T.cO,c7,_,rfl,?_⟩;refine aD ?_;refine⟨_,rfl,a,_,dx,_,_,rfl,ha2,cl,T.bH,bL,"print",rfl,by decide,λp H3 s3 hp eH=>?_⟩;have eH:H3 p=some (.tup (iw (ascii "print"))):=eH;obtain⟨p0,i0,e0⟩:=uG hw (i:=0) rfl;refine⟨(by show 1<=sizeLine;decide),λb hb=>?_⟩;have s4:=ae.new (o:=.lst [.ref p]) hb;have lr:rs.length=1:=bC hw;refine⟨_,rfl,b,D,_,_,rfl,rfl,aw,s4 _ _ (s3 _ _ hrs),(by rw[aK,lr,bg];show 1+1<=_;omega),λb3 m3=>?_⟩;have s6:=ae.new (o:=.lst ([.ref p]++rs.map V.ref)) m3;exact k b3 _ (((s2.trans s3).trans s4).trans s6) (((s2.trans s3).trans s4).free m3) ⟨p::rs,aw,.cons (s6 _ _ (s4 _ _ eH)) (Paired.c8 hw λ_ _ e=>s6 _ _ (s4 _ _ (s3 _ _ e)))⟩
   |stop=>refine aA ?_;refine⟨_,rfl,a,_,dx,_,_,rfl,ha2,cl,T.bH,bL,rfl,_,rfl,?_⟩;refine aA ?_;refine⟨_,rfl,a,_,dx,_,_,rfl,ha2,cl,T.cO,c7,_,rfl,?_⟩;refine aD ?_;refine⟨_,rfl,a,_,dx,_,_,rfl,ha2,cl,T.bH,bL,"end",rfl,by decide,λp H3 s3 hp eH=>?_⟩;have eH:H3 p=some (.tup (iw (ascii "end"))):=eH;refine⟨(by show 1<=sizeLine;decide),λb hb=>?_⟩;have s4:=ae.new (o:=.lst [.ref p]) hb;have lr:rs.length=0:=bC hw;refine⟨_,rfl,b,D,_,_,rfl,rfl,aw,s4 _ _ (s3 _ _ hrs),(by rw[aK,lr,bg];show 1+0<=_;omega),λb3 m3=>?_⟩;have s6:=ae.new (o:=.lst ([.ref p]++rs.map V.ref)) m3;exact k b3 _ (((s2.trans s3).trans s4).trans s6) (((s2.trans s3).trans s4).free m3) ⟨p::rs,aw,.cons (s6 _ _ (s4 _ _ eH)) (Paired.c8 hw λ_ _ e=>s6 _ _ (s4 _ _ (s3 _ _ e)))⟩
   |num d z=>refine aA ?_;refine⟨_,rfl,a,_,dx,_,_,rfl,ha2,cl,T.bH,bL,rfl,_,rfl,?_⟩;refine aA ?_;refine⟨_,rfl,a,_,dx,_,_,rfl,ha2,cl,T.cO,c7,_,rfl,?_⟩;refine aA ?_;exact pE d rfl rfl
   |copy d z=>refine aA ?_;refine⟨_,rfl,a,_,dx,_,_,rfl,ha2,cl,T.bH,bL,rfl,_,rfl,?_⟩;refine aA ?_;refine⟨_,rfl,a,_,dx,_,_,rfl,ha2,cl,T.cO,c7,_,rfl,?_⟩;refine aA ?_;exact pE d rfl rfl
   |op n d z z'=>refine aA ?_;refine⟨_,rfl,a,_,dx,_,_,rfl,ha2,cl,T.bH,bL,rfl,_,rfl,?_⟩;refine aA ?_;refine⟨_,rfl,a,_,dx,_,_,rfl,ha2,cl,T.cO,c7,_,rfl,?_⟩;refine aA ?_;exact pE d rfl rfl
   |read d=>refine aA ?_;refine⟨_,rfl,a,_,dx,_,_,rfl,ha2,cl,T.bH,bL,rfl,_,rfl,?_⟩;refine aA ?_;refine⟨_,rfl,a,_,dx,_,_,rfl,ha2,cl,T.cO,c7,_,rfl,?_⟩;refine aA ?_;exact pE d rfl rfl
end
end My
namespace My
open PySem L2
theorem aaH{w:List Nat}(h:isName w=true):w.length<=16:=by unfold isName at h;simp only[fe,pZ]at h;exact h.1
def y6(ws:List (List Nat)):Prop:=ws≠[]/\ws.length<=5/\∀w∈ws,w.length<=21
theorem Qu{ws:List (List Nat)}(h:y6 ws):(dh ws).length<=110:=by
 rw[<-Qs h.1];have gen:∀ws:List (List Nat),(∀w∈ws,w.length<=21)->(dy ws).length<=22*ws.length:=by
  intro ws
  induction ws with
  |nil=>intro _;exact aI _
  |cons w ws ih=>
   intro h;have h1:=h w (by simp);have h2:=ih λx hx=>h x (bQ _ hx)
   show((w++[32])++dy ws).length<=_;rw[bo,bo,cZ,b6];omega
 have:=gen ws h.2.2;have:=h.2.1;omega
theorem Fv{c:Sz43.Code}(h:c.length<=256)(u:Nat):(lM c u).length<=21:=by
 unfold lM;rw[b6];have ht:(targets c).length<=257:=by unfold targets;refine bE (u5 _ _) ?_;rw[gr];omega
 have hi:((targets c).findIdx? λx=>x==u).getD 0<=257:=by
  cases e:(targets c).findIdx? λx=>x==u with
  |none=>exact b9 _
  |some a=>have:=(me.mp e).1;show a<=257;omega
 have:=Fp (z:=((((targets c).findIdx? λx=>x==u).getD 0:Nat):Int)) (by unfold aV;omega);omega
theorem aaI{vs:List (List Nat)}{c:Sz43.Code}(N:e9 vs)(G:GoodC aV vs.length c)(h:c.length<=256){i:Ins}(hi:i∈c):y6 (a7 (vM vs) (lM c) i):=by
 have O:=G i hi;have pv:∀d,d<vs.length->(vM vs d).length<=21:=λd hd=>bE (aaH (uh N hd)) (by decide)
 have fx:∀w∈([ascii "=",ascii "read",ascii "print",ascii "goto",ascii "if",ascii "end"]:List (List Nat)),w.length<=21:=by decide
 have ho:∀k,k<12->(Sz43.ops.getD k []).length<=21:=by decide
 have ls:=Fv h;refine⟨by cases i<;>simp[a7],by cases i<;>simp[a7],λw hw=>?_⟩;cases i with
 |num d z=>
  simp only[a7,a6,dB,dC]at hw;rcases hw with e |e |e<;>subst e
  ·exact pv d (O.gv d rfl)
  ·exact fx _ (by simp)
  ·exact bE (Fp (O.nm d z rfl)) (by decide)
 |copy d a=>
  simp only[a7,a6,dB,dC]at hw;rcases hw with e |e |e<;>subst e
  ·exact pv d (O.gv d rfl)
  ·exact fx _ (by simp)
  ·exact pv a (O.us a (by simp[usesOf]))
 |op k d a b=>
  simp only[a7,a6,dB,dC]at hw;rcases hw with e |e |e |e |e<;>subst e
  ·exact pv d (O.gv d rfl)
  ·exact fx _ (by simp)
  ·exact pv a (O.us a (by simp[usesOf]))
  ·exact ho k (O.op k d a b rfl)
  ·exact pv b (O.us b (by simp[usesOf]))
 |read d=>
  simp only[a7,a6,dB,dC]at hw;rcases hw with e |e |e<;>subst e
  ·exact pv d (O.gv d rfl)
  ·exact fx _ (by simp)
  ·exact fx _ (by simp)
 |print a=>
  simp only[a7,a6,dB,dC]at hw;rcases hw with e |e<;>subst e
  ·exact fx _ (by simp)
  ·exact pv a (O.us a (by simp[usesOf]))
 |goto u=>
  simp only[a7,a6,dB,dC]at hw;rcases hw with e |e<;>subst e
  ·exact fx _ (by simp)
  ·exact ls u
 |cond a u=>
  simp only[a7,a6,dB,dC]at hw;rcases hw with e |e |e |e<;>subst e
  ·exact fx _ (by simp)
  ·exact pv a (O.us a (by simp[usesOf]))
  ·exact fx _ (by simp)
  ·exact ls u
 |stop=>simp only[a7,a6,dB,dC]at hw;subst hw;exact fx _ (by simp)
theorem aaJ{vs:List (List Nat)}{c:Sz43.Code}(N:e9 vs)(G:GoodC aV vs.length c)(h:c.length<=256):∀ws∈gg vs c,y6 ws:=by
 intro ws hw;obtain⟨i,_,hw⟩:=zo.mp hw;rcases bN.mp hw with k |k
 ·split at k
  ·have:ws=[ascii "label",lM c i]:=by simpa using k
   subst this;refine⟨by simp,by simp,λw hw=>?_⟩;simp only[a6,dB,dC]at hw;rcases hw with e |e<;>subst e
   ·decide
   ·exact Fv h i
  ·exact nomatch k
 ·unfold d8 at k;cases hx:c[i]? with
  |none=>rw[hx]at k;exact nomatch k
  |some x=>
   rw[hx]at k;have:ws=a7 (vM vs) (lM c) x:=by simpa using k
   subst this;exact aaI N G h (bu hx)
theorem Qv(vs:List (List Nat))(c:Sz43.Code)(i:Nat):(fF vs c i).length<=2:=by
 unfold fF d8;rw[bo];have h1:(if (targets c).contains i=true then [[ascii "label",lM c i]]else []).length<=1:=by split<;>simp
 have h2:(((c[i]?).map λx=>[a7 (vM vs) (lM c) x]).getD []).length<=1:=by cases c[i]? <;>simp
 omega
theorem aaK(vs:List (List Nat))(c:Sz43.Code):(gg vs c).length<=2*(c.length+1):=by
 have gen:∀l:List Nat,(l.flatMap (fF vs c)).length<=2*l.length:=by
  intro l
  induction l with
  |nil=>exact aI _
  |cons i l ih=>have:=Qv vs c i;rw[nG,bo,b6];omega
 have:=gen (List.range (c.length+1))
 rwa [gr]at this
theorem Qw:∀{L:List (List (List Nat))},(∀ws∈L,y6 ws)->(L.flatMap dh).length<=110*L.length
 |[],_=>aI _
 |ws::L,h=>by
  have h1:=Qu (h ws (by simp));have h2:=Qw (L:=L) λx hx=>h x (bQ _ hx)
  rw[nG,bo,b6];omega
theorem Qx{α:Type}(f:α->α):∀(a b:Nat)(x:α),repeated f (a+b) x=repeated f b (repeated f a x)
 |0,b,x=>by rw[pU];rfl
 |a+1,b,x=>by rw[show a+1+b=(a+b)+1 by omega];exact Qx f a b (f x)
inductive Qy(t:Ad)(ps:List V)(H:Hp)(Q:VK)(e0:XK):Prop
 |mk (x:Addr) (p:Sz43.Program):ps=[.ref x]->fD t H x p->PO p->e9 p.vars->(∀y H',ae H H'->fD t H' y (Sz43.better p)->Q (.ref y) H')->Qy t ps H Q e0
section
variable{P:Program}{w:World}{K:ax}{mg:Str->Option Value}{base:Heap}{t:Ad}
theorem Qz:aQ ["words","signs","word"] ["words"] (aC JW):=aS
theorem aaL(T:Txt K mg t):aG P w K mg base aR 1 t.Bj t.Cz ["words"] Qq:=by
 refine T.xx.ok Qz (λps H Q E h=>?_) (λ_ A _ s H ps Q E hr h=>?_)
 ·obtain⟨_,_,rfl,_⟩:=h;rfl
 ·obtain⟨q,ws,rfl,⟨rs,hq,hw⟩,hne,hsz,k⟩:=h;have nd:=Qz.nd;refine⟨_,aq (aZ (i:=1) nd rfl (Or.inl rfl) (cD af))
   (aq (gF gp rfl (gC (pv 0)) (bD (i:=2) nd rfl (Or.inl rfl)) (aq (fk (gJ gq PySem.F.slot_list_extend PySem.F.type_list_extend Yp (pv 1) (aa (pv 2) af))) (ak (fk (gJ gq j7 j8 jk (pv 1) (aa (cU T.Lp rfl) af))))))
   (aq (qh (cU T.tw rfl) (qg (pv 1) (mq nL aL) rn))
   (ak (aB (pv 1))))),?_⟩
  have lr:rs.length=ws.length:=bC hw;have lb:=Qs hne;have part:∀r,(dy (ws.take r)).length<=(dy ws).length:=λr=>by
   have e:dy ws=dy (ws.take r)++dy (ws.drop r):=by unfold dy;rw[<-nF,List.take_append_drop]
   rw[e,bo];omega
  refine⟨b9 _,λsg hsg=>?_⟩;have s0:ae H (upd H sg (.lst [])):=ae.new hsg;refine dW ?_;refine⟨_,rfl,q,rfl,⟨_,aj.of (s0 _ _ hq)⟩,lu (K:=K) (a:=q) (xs:=rs.map V.ref) (λr σ Hh=>∃v2:Option V,σ=[some (.ref q),some (.ref sg),v2]/\Hh sg=some (.lst (iw (dy (ws.take r))))/\ae H Hh) ⟨none,rfl,aw,s0⟩ (λr σ Hh _ ⟨_,_,_,e⟩=>aj.of (e _ _ hq)) ?_ ?_⟩
  ·rintro r y σ Hh hy ⟨v2,rfl,hS,sm⟩
   rw[bF]at hy;obtain⟨p,hp,rfl⟩:=cK.mp hy;have il:r<ws.length:=by have:=(bW.mp hp).1;omega
   have gw:ws[r]? =some ws[r]:=aN il;have Fw:=cE (F:=λp w=>H p=some (.tup (iw w))) hw hp gw;have e1:dy (ws.take (r+1))=dy (ws.take r)++(ws[r]++[32]):=by unfold dy;rw[iB,gw,nF];simp
   have l1:=part (r+1);rw[e1,bo,bo,cZ]at l1;refine⟨_,rfl,.inl ⟨rfl,_,aj.of hS⟩,_,rfl,sg,p,_,_,rfl,rfl,hS,sm _ _ Fw,(by rw[bG,bG,bg];omega),?_⟩;have ei:iw (dy (ws.take r))++iw ws[r]=iw (dy (ws.take r)++ws[r]):=by unfold iw;rw[eU]
   rw[ei];refine⟨_,rfl,.inl ⟨rfl,_,aj.of aw⟩,sg,_,_,rfl,rfl,aw,(by rw[bG,bo,bg];omega),?_⟩;rw[Gi];refine⟨_,rfl,?_,sm.upd hsg⟩;rw[aw,e1,<-nE];exact f7 (λx=>some (HO.lst x)) (pB _ 32).symm
  ·rintro σ Hh ⟨v2,rfl,hS,sm⟩
   rw[aK,lr,j0]at hS;have bl:1<=(dy ws).length:=by rw[yY hne,bo,cZ];omega
   refine dW ?_;refine⟨_,rfl,_,rfl,sg,_,-1,(dy ws).length-1,rfl,rfl,hS,?_,?_⟩
   ·unfold iP;rw[bG,ah (by omega),ai (by omega)]
    congr 1
    omega
   refine⟨_,rfl,k sg _ (sm.upd hsg) hsg ?_⟩;rw[aw];show some (HO.lst ((iw (dy ws)).set _ (.int ((10:Nat):Int))))=_;rw[PB,aaD hne]
theorem QA:aQ ["program","instructions","labels","lines","place"] ["program"] (aC JV):=aS
theorem aaM(T:Txt K mg t)(oL:aG P w K mg base aR 3 t.oE t.oG ["instructions"] (rj t)):aG P w K mg base aR 4 t.Bi t.Cy ["program"] (Qp t):=by
 refine T.xw.ok QA (λps H Q E h=>?_) (λ_ A _ s H ps Q E hr h=>?_)
 ·obtain⟨_,_,rfl,_⟩:=h;rfl
 ·obtain⟨x,p,rfl,hX,O,k⟩:=h;have nd:=QA.nd;have hu:=kh hr;have hr1:=hr.mono (show 1<=3 by decide);refine⟨_,aq (aZ (i:=1) nd rfl (Or.inl rfl) (aE (pv 0) rfl))
   (aq (aZ (i:=2) nd rfl (Or.inl rfl) (aP oL hr rfl T.KW T.xu.kp (Wn T) .nil aH (aa (pv 1) af)))
   (aq (aZ (i:=3) nd rfl (Or.inl rfl) (cD af))
   (aq (gF gp rfl (vp rfl T.qL (aa (bU ji (cp dE rfl T.c_ dA (aa (pv 1) af)) aL) af)) (bD (i:=4) nd rfl (Or.inl rfl)) (aq (aU (cR (vL hu (pv 4) (pv 2))) (ak (fk (gJ gq j7 j8 jk (pv 3) (aa (cD (aa (aP (fC T) hr1 rfl T.eZ T.dX.kp (fA T) .nil aH (aa bJ af)) (aa (sE hu (pv 2) (pv 4) (λ_ _=>rfl)) af))) af)))) aW) (ak (aU (aX mr (pv 4) (cp dE rfl T.c_ dA (aa (pv 1) af)) (aY _)) (ak (fk (gJ gq j7 j8 jk (pv 3) (aa (aP (aaG T p.vars p.code) hr rfl T.KS T.xr.kp (Wl T) .nil aH (aa (bc bA (pv 1) (pv 4) (λ_ _=>rfl)) (aa (aE (pv 0) rfl) (aa (pv 2) af)))) af)))) aW))))
   (ak (aB (pv 3)))))),?_⟩
  obtain⟨dx,li,ns,hx,hL,hN⟩:=id hX;have h256:=O.dQ;refine⟨_,rfl,x,_,dx,_,_,rfl,hx,T.fz,T.kr,mR _ _,?_⟩;refine⟨_,rfl,li,p.code,p.vars.length,rfl,hL,O.good,h256,λlb H1 s1 hlb=>?_⟩;refine⟨b9 _,λls hls=>?_⟩;have s2:ae H (upd H1 ls (.lst [])):=s1.trans (ae.new hls);have uH:H ls=none:=s1.free hls;obtain⟨is,hli,cQ⟩:=id hL;have ln:is.length=p.code.length:=bC cQ;have keepL:∀{Ha Hb:Hp}{qs:List Addr}{L:List (List (List Nat))}{xs:List V},Ha ls=some (.lst xs)->(∀q∈qs,q≠ls/\H q=none)->Paired (λq ws=>b_ Ha q ws) qs L->(∀b o,Ha b=some o->b≠ls->Hb b=some o)->Paired (λq ws=>b_ Hb q ws) qs L:=by intro Ha Hb qs L xs e0 hq hp kp;exact Paired.mapM hp λq ws hm h=>h.mono (λb xs e=>kp _ _ e (bp e e0 (by intro z;cases z))) λxs e=>kp _ _ e (hq q hm).1
  refine dW ?_;refine⟨_,rfl,li,_,rfl,.inl (aj.of (s2 _ _ hli)),_,_,rfl,rfl,((p.code.length+1:Nat):Int),?_,by omega,by omega,GH (lo:=0) (n:=p.code.length+1) (λr σ Hh=>∃(v4:Option V)(qs:List Addr),σ=[some (.ref x),some (.ref li),some (.ref lb),some (.ref ls),v4]/\Hh ls=some (.lst (qs.map V.ref))/\(∀q∈qs,q≠ls/\H q=none)/\Paired (λq ws=>b_ Hh q ws) qs ((List.range r).flatMap (fF p.vars p.code))/\pF Hh lb p.code/\ae H Hh) ⟨none,[],rfl,aw,λq h=>absurd h (by simp),.nil,hlb.same (ae.new hls),s2⟩ ?_ ?_⟩
  ·show[V.int (((is.map V.ref).length:Int)+1)]=_;rw[aK,ln];rfl
  ·rintro r σ Hh hr' ⟨v4,qs,rfl,hS,hqs,hP,hLb,sm⟩
   have lq:qs.length<=2*r:=by
    rw[bC hP];have gen:∀l:List Nat,(l.flatMap (fF p.vars p.code)).length<=2*l.length:=by
     intro l
     induction l with
     |nil=>exact aI _
     |cons i l ih=>have:=Qv p.vars p.code i;rw[nG,bo,b6];omega
    have:=gen (List.range r)
    rwa [gr]at this
   have e0:(V.int (0+(r:Int)):V)=.int (r:Int):=by rw[Int.zero_add]
   rw[e0];refine dW (we ?_);obtain⟨kvs,hk1,hk2⟩:=id hLb;refine⟨_,rfl,_,rfl,lb,_,rfl,dt.k (k:=Sum.inl (r:Int)) hk1,_,rfl,?_⟩;have et:fF p.vars p.code r=(if (targets p.code).contains r=true then [[ascii "label",lM p.code r]]else [])++d8 p.vars p.code r:=rfl;refine Jb (λσ' H'=>∃(qs:List Addr),σ'=[some (.ref x),some (.ref li),some (.ref lb),some (.ref ls),some (.int (r:Int))]/\H' ls=some (.lst (qs.map V.ref))/\(∀q∈qs,q≠ls/\H q=none)/\Paired (λq ws=>b_ H' q ws) qs ((List.range r).flatMap (fF p.vars p.code)++(if (targets p.code).contains r=true then [[ascii "label",lM p.code r]]else []))/\pF H' lb p.code/\ae H H'/\qs.length<=2*r+1) ?_ ?_ ?_
   ·intro hc kk;rcases hk2 r with ⟨q0,ht,hv,oX⟩ |⟨_,hv⟩
    ·refine⟨_,rfl,.inl ⟨rfl,_,aj.of hS⟩,"label",rfl,by decide,λp1 H3 s3 hp1 eH=>?_⟩;have eH:H3 p1=some (.tup (iw (ascii "label"))):=eH;refine⟨_,rfl,_,rfl,lb,_,rfl,by rw[<-hv];exact dt.k (k:=Sum.inl (r:Int)) (s3 _ _ hk1),(by show 2<=sizeLine;decide),λb hb=>?_⟩;have s4:=ae.new (o:=.lst [.ref p1,.ref q0]) hb;have rl:=s4 _ _ (s3 _ _ hS);have nb:b≠ls:=(aJ (s3 _ _ hS) hb).symm;refine⟨ls,_,_,rfl,rfl,rl,(by rw[aK,bg];omega),kk _ _ ?_⟩;have kp:∀b' o,(upd H3 b (.lst [.ref p1,.ref q0])) b'=some o->b'≠ls->(upd (upd H3 b (.lst [.ref p1,.ref q0])) ls (.lst (qs.map V.ref++[.ref b]))) b'=some o:=λb' o e n=>by rw[ay n];exact e
     have smA:ae H (upd H3 b (.lst [.ref p1,.ref q0])):=(sm.trans s3).trans s4;refine⟨qs++[b],rfl,by rw[aw,eU];rfl,λq hq=>?_,?_,?_,smA.upd uH,by rw[bo,cZ];omega⟩
     ·rcases bN.mp hq with e |e
      ·exact hqs q e
      ·have:q=b:=by simpa using e
       rw[this];exact⟨nb,(sm.trans s3).free hb⟩
     ·rw[ai (by simpa using ht)];have hP4:Paired (λq ws=>b_ (upd H3 b (.lst [.ref p1,.ref q0])) q ws) qs ((List.range r).flatMap (fF p.vars p.code)):=Paired.c8 hP λq ws h=>(h.same s3).same s4
      refine Paired.app (keepL rl hqs hP4 kp) (.cons ?_ .nil);refine⟨[p1,q0],by rw[ay nb];exact aw,.cons (kp _ _ (s4 _ _ eH) (bp eH (s3 _ _ hS) (by intro z;cases z))) (.cons (kp _ _ (s4 _ _ (s3 _ _ oX)) (bp oX hS (by intro z;cases z))) .nil)⟩
     ·obtain⟨kvs',g1,g2⟩:=(hLb.same s3).same s4;refine⟨kvs',kp _ _ g1 (bp g1 rl (by intro z;cases z)),λu=>?_⟩;rcases g2 u with ⟨q,a1,a2,a3⟩ |h
      ·exact .inl ⟨q,a1,a2,kp _ _ a3 (bp a3 rl (by intro z;cases z))⟩
      ·exact .inr h
    ·rw[hv]at hc;cases hc
   ·intro hc kk;refine kk _ _ ⟨qs,rfl,hS,hqs,?_,hLb,sm,by omega⟩;rcases hk2 r with ⟨q0,ht,hv,oX⟩ |⟨ht,hv⟩
    ·rw[hv]at hc;cases hc
    ·rw[ah (by simpa using ht),gk];exact hP
   ·rintro σ' H' ⟨qs,rfl,hS,hqs,hP,hLb,sm,lq⟩
    refine⟨_,rfl,_,rfl,li,_,rfl,.inl (aj.of (sm _ _ hli)),_,_,rfl,rfl,_,rfl,?_⟩;rw[aK,ln];have er:(List.range (r+1)).flatMap (fF p.vars p.code)=((List.range r).flatMap (fF p.vars p.code)++(if (targets p.code).contains r=true then [[ascii "label",lM p.code r]]else []))++d8 p.vars p.code r:=by rw[rO,nF,nE,<-et];simp
    by_cases hrl:r<p.code.length
    ·rw[bx (show(r:Int)<(p.code.length:Int) by omega)];refine aD ?_;have hc:p.code[r]? =some p.code[r]:=aN hrl;obtain⟨a,hai⟩:∃a,is[r]? =some a:=⟨_,aN (by omega)⟩;have hI:=(cE (F:=λa i=>IA t H a i) cQ hai hc).nl sm.nl;refine⟨_,rfl,.inl ⟨rfl,_,aj.of hS⟩,_,rfl,_,rfl,li,_,_,_,rfl,rfl,aj.of (sm _ _ hli),bq (by rw[bF,hai];rfl),_,rfl,x,_,dx,_,_,rfl,sm _ _ hx,T.fz,T.lK,o8 _ _,_,rfl,a,ns,lb,p.code[r],rfl,hI,hN.same sm,hLb,bu hc,O.good,λb H3 s3 hb hB=>?_⟩;have pG:=s3 _ _ hS;have nb:b≠ls:=(aJ hS hb).symm;refine⟨ls,_,_,rfl,rfl,pG,(by rw[aK,bg];omega),?_⟩;have kp:∀b' o,H3 b'=some o->b'≠ls->(upd H3 ls (.lst (qs.map V.ref++[.ref b]))) b'=some o:=λb' o e n=>by rw[ay n];exact e
     refine⟨_,qs++[b],rfl,by rw[aw,eU];rfl,λq hq=>?_,?_,?_,(sm.trans s3).upd uH⟩
     ·rcases bN.mp hq with e |e
      ·exact hqs q e
      ·have:q=b:=by simpa using e
       rw[this];exact⟨nb,sm.free hb⟩
     ·rw[er];have ei:d8 p.vars p.code r=[a7 (vM p.vars) (lM p.code) p.code[r]]:=by
       unfold d8;rw[hc];rfl
      rw[ei];have hP3:Paired (λq ws=>b_ H3 q ws) qs _:=Paired.c8 hP λq ws h=>h.same s3
      have hq1:∀q∈[b],q≠ls/\H q=none:=λq hq=>by rw[rK]at hq;rw[hq];exact⟨nb,sm.free hb⟩
      exact Paired.app (keepL pG hqs hP3 kp) (keepL pG hq1 (.cons hB .nil) kp)
     ·obtain⟨kvs',g1,g2⟩:=hLb.same s3;refine⟨kvs',kp _ _ g1 (bp g1 pG (by intro z;cases z)),λu=>?_⟩;rcases g2 u with ⟨q,a1,a2,a3⟩ |h
      ·exact .inl ⟨q,a1,a2,kp _ _ a3 (bp a3 pG (by intro z;cases z))⟩
      ·exact .inr h
    ·rw[a9 (show ¬(r:Int)<(p.code.length:Int) by omega)];refine aA ?_;refine⟨_,qs,rfl,hS,hqs,?_,hLb,sm⟩;rw[er];have:d8 p.vars p.code r=[]:=by
      unfold d8;rw[jA (by omega)];rfl
     rw[this,gk];exact hP
  ·rintro σ Hh ⟨v4,qs,rfl,hS,hqs,hP,hLb,sm⟩
   exact⟨_,rfl,k ls qs Hh sm uH (λq hq=>(hqs q hq).2) hS hP⟩
theorem QB:aQ ["program","signs","words"] ["program"] (aC JX):=aS
theorem Fx(T:Txt K mg t)(oL:aG P w K mg base aR 3 t.oE t.oG ["instructions"] (rj t)):aG P w K mg base aR 5 t.Bk t.CA ["program"] (Qr t):=by
 refine T.qI.ok QB (λps H Q E h=>?_) (λ_ A _ s H ps Q E hr h=>?_)
 ·obtain⟨_,_,rfl,_⟩:=h;rfl
 ·obtain⟨x,p,rfl,hX,O,N,k⟩:=h;have nd:=QB.nd;have hr1:=hr.mono (show 1<=4 by decide);refine⟨_,aq (aZ (i:=1) nd rfl (Or.inl rfl) (cD af))
   (aq (gF gp rfl (gC (aP (aaM T oL) hr rfl T.KY T.xw.kp (Wo T) .nil aH (aa (pv 0) af))) (bD (i:=2) nd rfl (Or.inl rfl)) (ak (fk (gJ gq PySem.F.slot_list_extend PySem.F.type_list_extend TQ (pv 1) (aa (aP (aaL T) hr1 rfl T.KZ T.xx.kp (Wp T) .nil aH (aa (pv 2) af)) af)))))
   (ak (aB (pv 1)))),?_⟩
  have h256:=O.dQ;have Fy:=aaJ N O.good h256;have lt:=aaK p.vars p.code;have lj:=Qw Fy;have et:p.text=(gg p.vars p.code).flatMap dh:=FO p;refine⟨b9 _,λsg hsg=>?_⟩;have s0:ae H (upd H sg (.lst [])):=ae.new hsg;refine dW ?_;refine⟨_,rfl,x,p,rfl,hX.same s0,O,λls qs H1 s1 uH fqs hls hqs=>?_⟩;have n8:H1 sg=some (.lst []):=s1 _ _ aw;obtain⟨L,eL⟩:∃L,L=gg p.vars p.code:=⟨_,rfl⟩;rw[<-eL]at hqs lt lj et Fy;have lq:qs.length=L.length:=bC hqs;have nls:ls≠sg:=(aJ aw uH).symm;have nqs:∀q∈qs,q≠sg:=λq hq=>(aJ aw (fqs q hq)).symm
  have part:∀r,((L.take r).flatMap dh).length<=(L.flatMap dh).length:=λr=>by
   have e:L.flatMap dh=(L.take r).flatMap dh++(L.drop r).flatMap dh:=by rw[<-nF,List.take_append_drop]
   rw[e,bo];omega
  have fsg:H sg=none:=hsg;refine⟨ls,rfl,⟨_,aj.of hls⟩,lu (K:=K) (a:=ls) (xs:=qs.map V.ref) (λr σ Hh=>∃v2:Option V,σ=[some (.ref x),some (.ref sg),v2]/\Hh sg=some (.lst (iw ((L.take r).flatMap dh)))/\ae H Hh/\∀b o,H1 b=some o->b≠sg->Hh b=some o) ⟨none,rfl,n8,s0.trans s1,λb o e _=>e⟩ (λr σ Hh _ ⟨_,_,_,_,e⟩=>aj.of (e _ _ hls nls)) ?_ ?_⟩
  ·rintro r y σ Hh hy ⟨v2,rfl,hS,sm,kp⟩
   rw[bF]at hy;obtain⟨q,hq,rfl⟩:=cK.mp hy;have il:r<L.length:=by have:=(bW.mp hq).1;omega
   have gw:L[r]? =some L[r]:=aN il;have hl:=cE (F:=λq ws=>b_ H1 q ws) hqs hq gw;have nq:=nqs q (bu hq);have hl2:b_ Hh q L[r]:=hl.mono (λb xs e=>kp _ _ e (bp e n8 (by intro z;cases z))) λxs e=>kp _ _ e nq
   have sm1:=Fy L[r] (bu gw);have sj:=Qu sm1;refine⟨_,rfl,.inl ⟨rfl,_,aj.of hS⟩,_,rfl,q,L[r],rfl,hl2,sm1.1,by omega,λb H3 s3 hb eb=>?_⟩;have e1:(L.take (r+1)).flatMap dh=(L.take r).flatMap dh++dh L[r]:=by rw[iB,gw,nF];simp
   have l1:=part (r+1);rw[e1,bo]at l1;refine⟨sg,b,_,_,rfl,rfl,s3 _ _ hS,eb,(by rw[bG,bG,bg];omega),?_⟩;refine⟨_,rfl,?_,(sm.trans s3).upd fsg,λb' o e n=>by rw[ay n];exact s3 _ _ (kp b' o e n)⟩;rw[aw,e1];unfold iw;rw[eU]
  ·rintro σ Hh ⟨v2,rfl,hS,sm,kp⟩
   rw[aK,lq,j0,<-et]at hS;refine⟨_,rfl,k sg Hh sm hS ?_⟩;rw[et];omega
theorem QC(w:List Nat):SeqAt.shaped (.list (iD w))=true:=by unfold SeqAt.shaped;rw[fe];have:=sP w;refine⟨rq w,bx ?_⟩;show PyData.depthAll _+1<=64;omega
theorem QD:aQ ["program","turn","better"] ["program"] (aC J9):=aS
theorem aaN(T:Txt K mg t)(oL:aG P w K mg base aR 3 t.oE t.oG ["instructions"] (rj t)):aG P w K mg base aR 10 t.Bs t.CM ["program"] (Qy t):=by
 refine T.xK.ok QD (λps H Q E h=>?_) (λ_ A _ s H ps Q E hr h=>?_)
 ·obtain⟨_,_,rfl,_⟩:=h;rfl
 ·obtain⟨x,p,rfl,hX,O,N,k⟩:=h;have nd:=QD.nd;have i_:=hr.mono (show 5<=9 by decide);refine⟨_,aq (gF gp rfl (vp rfl T.qL (aa (cU T.LB rfl) af)) (bD (i:=1) nd rfl (Or.inl rfl))
    (aq (aZ (i:=2) nd rfl (Or.inl rfl) (aP (aaC T) hr rfl T.Lb T.xJ.kp (Wz T) .nil aH (aa (pv 0) af)))
    (aq (aU (aX (jK hr.units) (aP (Fx T oL) i_ rfl T.xy T.qI.kp (DM T) .nil aH (aa (pv 2) af)) (aP (Fx T oL) i_ rfl T.xy T.qI.kp (DM T) .nil aH (aa (pv 0) af)) (aY _)) (ak (aB (pv 2))) aW)
    (ak (aZ (i:=0) nd rfl (Or.inl rfl) (pv 2))))))
   (ak (aB (pv 0))),?_⟩
  have h0:aV 0:=by unfold aV;omega
  have ok:∀r,PO ⟨p.vars,repeated (Sz43.once p.vars.length) r p.code⟩:=λr=>by obtain⟨g,l⟩:=Ex ur h0 O.good r;exact⟨g,bE l O.dQ,O.d6⟩
  refine dW ?_;refine⟨64,rfl,by decide,by decide,GH (lo:=0) (n:=64) (λr σ Hh=>∃(y:Addr)(v1 v2:Option V),σ=[some (.ref y),v1,v2]/\fD t Hh y ⟨p.vars,repeated (Sz43.once p.vars.length) r p.code⟩/\ae H Hh) ⟨x,none,none,rfl,hX,ae.refl H⟩ ?_ ?_⟩
  ·rintro r σ Hh hr' ⟨y,v1,v2,rfl,hY,sm⟩
   refine⟨_,rfl,y,_,rfl,hY,ok r,λz H1 s1 hZ=>?_⟩;have eo:Sz43.once p.vars.length (repeated (Sz43.once p.vars.length) r p.code)=repeated (Sz43.once p.vars.length) (r+1) p.code:=(du _ r p.code).symm;have hZ:fD t H1 z ⟨p.vars,repeated (Sz43.once p.vars.length) (r+1) p.code⟩:=by rw[<-eo];exact hZ
   refine⟨_,rfl,z,_,rfl,hZ,ok (r+1),N,λb H2 s2 hb lb=>?_⟩;refine⟨_,rfl,y,_,rfl,(hY.same s1).same s2,ok r,N,λb' H3 s3 hb' lb'=>?_⟩;refine⟨.list (iD _),.list (iD _),.lst (aj.of (s3 _ _ hb)) (v_ _),.lst (aj.of hb') (v_ _),QC _,QC _,_,rfl,?_⟩;rw[show PyData.eqv (.list (iD (Sz43.Program.text ⟨p.vars,repeated (Sz43.once p.vars.length) (r+1) p.code⟩))) (.list (iD (Sz43.Program.text ⟨p.vars,repeated (Sz43.once p.vars.length) r p.code⟩)))=_ from Ar _ _];have s03:=((sm.trans s1).trans s2).trans s3;have hZ3:=(hZ.same s2).same s3;by_cases e:Sz43.Program.text ⟨p.vars,repeated (Sz43.once p.vars.length) (r+1) p.code⟩=Sz43.Program.text ⟨p.vars,repeated (Sz43.once p.vars.length) r p.code⟩
   ·rw[bx e];refine aD ?_;refine⟨_,rfl,k z H3 s03 ?_⟩;have ec:repeated (Sz43.once p.vars.length) (r+1) p.code=repeated (Sz43.once p.vars.length) r p.code:=ZC N (ok (r+1)).good (ok r).good e;have e64:repeated (Sz43.once p.vars.length) 64 p.code=repeated (Sz43.once p.vars.length) (r+1) p.code:=by
     rw[show 64=(r+1)+(63-r) by omega,Qx];refine yp _ ?_ _;rw[ec];exact eo.trans ec
    unfold Sz43.better;rw[show Sz43.ROUNDS=64 from rfl,e64];exact hZ3
   ·rw[a9 e];refine aA ?_;exact⟨_,rfl,z,_,_,rfl,hZ3,s03⟩
  ·rintro σ Hh ⟨y,v1,v2,rfl,hY,sm⟩
   exact⟨_,rfl,k y Hh sm hY⟩
end
end My
namespace My
open PySem L2
def iv(l:List Int):List V:=l.map V.int
theorem aaO(tx:List Nat):Sz43Neutral.nats (tx.map λ(c:Nat)=>(c:Int))=tx:=by unfold Sz43Neutral.nats;rw[eQ];exact(u7 λc _=>by simp).trans (Gh tx)
theorem QE(n:Nat)(z:Int):Sz43.sized n z=decide (0<=z/\z<=(n:Int)):=by unfold Sz43.sized;rw[Bool.decide_and]
theorem aaP{n:Nat}{c:Sz43.Code}(h:GoodC yJ n c):GoodC aV n c:=λi hi=>by have O:=h i hi;refine⟨O.us,O.gv,λd z e=>?_,O.op,O.tg⟩;unfold aV;exact O.nm d z e
theorem QF(p:Sz43.Program):Sz43.better p=⟨p.vars,repeated (Sz43.once p.vars.length) Sz43.ROUNDS p.code⟩:=by unfold Sz43.better;generalize Sz43.ROUNDS=R;rfl
theorem aaQ{p:Sz43.Program}(O:PO p):PO (Sz43.better p):=by rw[QF];generalize Sz43.ROUNDS=R;have h:=Ex ur (show aV 0 by unfold aV;omega) O.good R;exact⟨h.1,bE h.2 O.dQ,O.d6⟩
inductive QG(K:ax)(vs:List V)(H:Hp)(Q:VK)(e0:XK):Prop
 |mk (z:Int) (a:Addr) (tx:List Nat):vs=[.int z,.ref a]->(jL K H a (tx.map λ(c:Nat)=>(c:Int)))->tx.length<=65536->(∀q H',H' q=some (.lst (iv (PySz43.bt_better z (tx.map λ(c:Nat)=>(c:Int)))))->Q (.ref q) H')->QG K vs H Q e0
theorem aaR(z:Int)(tx:List Nat)(h:tx.length<=65536):PySz43.bt_better z (tx.map λ(c:Nat)=>(c:Int))=if ¬(0<=z/\z<=65536)then [-2]else match Sz43.parse tx with
  | .error k=>[-100-(k:Int)]
  | .ok p=>if z<((Sz43.better p).text.length:Int)then [-1]else (((Sz43.better p).text.length:Nat):Int)::Sz43.ints (Sz43.better p).text:=by
 have e0:PySz43.bt_better z (tx.map λ(c:Nat)=>(c:Int))=(Sz43.does (.better (Sz43Neutral.nats (tx.map λ(c:Nat)=>(c:Int))) ((tx.map λ(c:Nat)=>(c:Int)).length:Int) z)).value::((Sz43.does (.better (Sz43Neutral.nats (tx.map λ(c:Nat)=>(c:Int))) ((tx.map λ(c:Nat)=>(c:Int)).length:Int) z)).out++(Sz43.does (.better (Sz43Neutral.nats (tx.map λ(c:Nat)=>(c:Int))) ((tx.map λ(c:Nat)=>(c:Int)).length:Int) z)).done):=rfl;rw[e0,aaO,aK];have e1:Sz43.sized Sz43.LONG (tx.length:Int)=true:=by rw[QE];exact bx ⟨by omega,by unfold Sz43.LONG;omega⟩
 have e2:Sz43.does (.better tx (tx.length:Int) z)=if Sz43.sized Sz43.LONG (tx.length:Int)=false\/Sz43.sized Sz43.MOSTROOM z=false then ⟨-2,[],[]⟩else match Sz43.parse tx with
  | .error k=>⟨-100-(k:Int),[],[]⟩
  | .ok p=>if z<((Sz43.better p).text.length:Int)then ⟨-1,[],[]⟩else ⟨((Sz43.better p).text.length:Nat),Sz43.ints (Sz43.better p).text,[]⟩:=rfl
 rw[e2,e1,QE];have em:((Sz43.MOSTROOM:Nat):Int)=65536:=rfl;rw[em];by_cases hz:0<=z/\z<=65536
 ·rw[bx hz,ah (by simp),ah (λq=>q hz)];cases Sz43.parse tx with
  |error k=>rfl
  |ok p=>
   dsimp only;split
   ·rfl
   ·show _::(_++[])=_;rw[gk]
 ·rw[a9 hz,ai (.inr rfl),ai hz];rfl
section
variable{P:Program}{w:World}{K:ax}{mg:Str->Option Value}{base:Heap}{t:Ad}
theorem QH:aQ ["most","text","program","wrong","signs"] ["most","text"] (aC Ka):=aS
theorem aaS(T:Txt K mg t)(oL:aG P w K mg base aR 3 t.oE t.oG ["instructions"] (rj t)):aG P w K mg base aR 11 t.sU t.CO ["most","text"] (QG K):=by
 refine T.Dl.ok QH (λvs H Q E h=>?_) (λ_ A _ s H vs Q E hr h=>?_)
 ·obtain⟨_,_,_,rfl,_⟩:=h;rfl
 ·obtain⟨z,a,tx,rfl,hT,hl,k⟩:=h;have nd:=QH.nd;have i_:=hr.mono (show 5<=10 by decide);have hr9:=hr.mono (show 9<=10 by decide);refine⟨_,aq (aU (PW.pt (lg (aX mr (pv 0) aL (aY _)) (k_ (aX ql (pv 0) (cU T.LJ rfl) (aY _))))) (ak (aB (cD (aa (cU T.LG rfl) af)))) aW)
   (aq (Ve (i:=3) (E:=λv _ _=>∃k:Nat,v=.int (k:Int) 0/\Sz43.parse tx=.error k) T.xc rfl rfl nd rfl rfl rfl rfl T.ku (λP=>ak (aZ (i:=2) nd rfl (Or.inl rfl) (aP (Yz T) hr9 rfl T.Ld T.xM.kp (WB T) .nil (gL rfl rfl) (aa (pv 1) af)))) (λP e=>ak (aB (cD (aa (bU rZ (cU T.LF rfl) (Va T.xc (pv 3) rfl)) af)))))
   (aq (aZ (i:=4) nd rfl (Or.inl rfl) (aP (Fx T oL) i_ rfl T.xy T.qI.kp (DM T) .nil aH (aa (aP (aaN T oL) hr rfl T.Lc T.xK.kp (WA T) .nil aH (aa (pv 2) af)) af)))
   (aq (aU (aX ql (cp dE rfl T.c_ dA (aa (pv 4) af)) (pv 0) (aY _)) (ak (aB (cD (aa (cU T.LH rfl) af)))) aW)
   (ak (aB (bU zX (cD (aa (cp dE rfl T.c_ dA (aa (pv 4) af)) af)) (pv 4))))))),?_⟩
  have eB:=aaR z tx hl;refine⟨_,rfl,_,_,rfl,rfl,_,rfl,?_⟩;by_cases hz0:z<0
  ·rw[bx hz0];refine aD ?_;refine aD ?_;rw[ai (by omega)]at eB;exact⟨(by show 1<=sizeLine;decide),λq hq=>k q _ (by rw[aw,eB];rfl)⟩
  rw[a9 hz0];refine aA ?_;refine⟨_,rfl,_,_,rfl,rfl,_,rfl,?_⟩;by_cases hz1:(65536:Int)<z
  ·rw[bx hz1];refine aD ?_;rw[ai (by omega)]at eB;exact⟨(by show 1<=sizeLine;decide),λq hq=>k q _ (by rw[aw,eB];rfl)⟩
  rw[a9 hz1];refine aA ?_;rw[ah (by omega)]at eB;refine⟨⟨_,rfl,a,tx,rfl,hT,λk' hk' H'=>⟨k',rfl,hk'⟩,λp hp x H1 hX=>?_⟩,?_⟩
  case refine_2=>
   rintro n H' a' dx ⟨kk,e1,e2⟩ h1 h2 h3
   have e1:n=(kk:Int):=by injection e1
   refine⟨_,rfl,a',dx,n,rfl,aw,(by rw[ay h3];exact aw),_,_,rfl,rfl,(by show 1<=sizeLine;decide),λq hq=>k q _ ?_⟩;rw[aw,eB,e2,e1];rfl
  rw[hp]at eB;obtain⟨o1,oN,o3,o4⟩:=ZJ hp;have O:PO p:=⟨aaP o1,o3,o4⟩;dsimp only at eB;refine⟨_,rfl,x,p,rfl,hX,O,oN,λy H2 s2 hY=>?_⟩;have OB:=aaQ O;obtain⟨pb,epb⟩:∃pb,pb=Sz43.better p:=⟨_,rfl⟩;have oNB:e9 pb.vars:=by rw[epb,QF];exact oN
  rw[<-epb]at hY OB eB;refine⟨y,pb,rfl,hY,OB,oNB,λb H3 s3 hb lb=>?_⟩;refine⟨_,rfl,b,_,rfl,.inl (aj.of hb),_,rfl,_,_,rfl,rfl,_,rfl,?_⟩;rw[bG];by_cases hz2:z<(pb.text.length:Int)
  ·rw[bx hz2];refine aD ?_;rw[ai hz2]at eB;exact⟨(by show 1<=sizeLine;decide),λq hq=>k q _ (by rw[aw,eB];rfl)⟩
  rw[a9 hz2];refine aA ?_;rw[ah hz2]at eB;refine⟨_,rfl,b,_,rfl,.inl (aj.of hb),(by show 1<=sizeLine;decide),λc hc=>?_⟩;have s4:=ae.new (o:=.lst [.int ((iw pb.text).length:Int)]) hc;refine⟨_,rfl,c,b,_,_,rfl,rfl,aw,s4 _ _ hb,(by rw[bG,bg];show 1+_<=_;omega),λq hq=>k q _ ?_⟩;rw[aw,eB,bG];unfold iv Sz43.ints iw;rw[bt,eQ];rfl
end
end My
namespace L2
open PySem PySem.Spec PyProof.Rows
theorem QI(x:Str):Str.empty++x=x:=by
 cases x with
 |mk c=>show Str.mk (#[]++c)=_;simp
theorem aaT(x y:Str):(x++y).cps.toList=x.cps.toList++y.cps.toList:=by
 cases x with
 |mk c=>
  cases y with
  |mk d=>show(c++d).toList=_;simp
section
variable{X:Cx}{e:Expr}{te:TE}{p1 p2 pos:Pos}
inductive QJ(x:Str)(Q:VK)(v:V)(H1:Hp):Prop
 |mk (i:Int):v=.int i->i.natAbs.log2<1920->(x++Str.ofString (toString i)).length<=1000->Q (.str (x++Str.ofString (toString i))) H1->QJ x Q v H1
def tFs(x:Str)(te:TE):TE:=λσ H Q=>te σ H λv H1=>QJ x Q v H1
theorem aaU{x:Str}{j:Nat}(he:PE X e te)(hx:x.length<=100:=by decide):PE X (.JoinedStr [.Constant (.str x) j p1,.FormattedValue e (-1) none p2] pos) (tFs x te):=by
 intro pins s σ H Q I h;have hs:=bg;refine JoinedStr_many (joinParts_cons (Calls.Constant_str ⟨?_,joinParts_cons (FormattedValue_plain (aF (he pins _ σ H _ (I.tok _) h) λu s1 ⟨v,H1,I1,rv,i,ev,hl,hz,q⟩=>?_))⟩))
 ·rw[QI];omega
 ·subst ev;obtain⟨t,rfl⟩:=rv;rw[QI];refine formatField_int_small hl ⟨?_,joinParts_nil ?_ ?_⟩
  ·omega
  ·exact⟨.str (x++Str.ofString (toString i)),H1,(I1.tok _).tok _,⟨_,rfl⟩,q⟩
  ·omega
end
end L2
namespace L2
open PySem PySem.Spec PyProof.Rows
def pH(xs:Array Nat):Prop:=xs.toList.Pairwise (· < ·)
def gZ(L:Bool)(t:SetTable):Prop:=t.led=L/\t.dummies= #[]/\pH t.place
theorem pH.lt{xs:Array Nat}(h:pH xs){i k:Nat}(hik:i<k)(hk:k<xs.size):xs.getD i 0<xs.getD k 0:=by
 have h1:i<xs.size:=by omega
 have:=List.pairwise_iff_getElem.mp h i k (by simpa using h1) (by simpa using hk) hik;simp only[Array.getElem_toList]at this;simpa[Array.getD,h1,hk]using this
theorem Fz{xs:Array Nat}{j:Nat}(hs:pH xs):∀(fuel lo hi:Nat),hi<=xs.size->hi-lo<=fuel->lo<=hi->(∀i,i<lo->xs.getD i 0<j)->(∀i,hi<=i->i<xs.size->j<=xs.getD i 0)->SetTable.below.go xs j fuel lo hi<=xs.size/\(∀i,i<SetTable.below.go xs j fuel lo hi->xs.getD i 0<j)/\∀i,SetTable.below.go xs j fuel lo hi<=i->i<xs.size->j<=xs.getD i 0
 |0,lo,hi,h1,h2,h3,h4,h5=>by
  have e:lo=hi:=by omega
  subst e;exact⟨h1,h4,h5⟩
 |fuel+1,lo,hi,h1,h2,h3,h4,h5=>by
  have eg:SetTable.below.go xs j (fuel+1) lo hi=if lo<hi then (if xs.getD ((lo+hi)/2) j<j then SetTable.below.go xs j fuel ((lo+hi)/2+1) hi else SetTable.below.go xs j fuel lo ((lo+hi)/2))else lo:=rfl
  rw[eg];by_cases hl:lo<hi
  ·have hm:(lo+hi)/2<xs.size:=by omega
   have ed:xs.getD ((lo+hi)/2) j=xs.getD ((lo+hi)/2) 0:=by simp[Array.getD,hm]
   rw[ai hl,ed];by_cases hc:xs.getD ((lo+hi)/2) 0<j
   ·rw[ai hc];refine Fz hs fuel ((lo+hi)/2+1) hi h1 (by omega) (by omega) (λi hi'=>?_) h5;by_cases e:i=(lo+hi)/2
    ·rw[e];exact hc
    ·exact uT (hs.lt (i:=i) (k:=(lo+hi)/2) (by omega) hm) hc
   ·rw[ah hc];refine Fz hs fuel lo ((lo+hi)/2) (by omega) (by omega) (by omega) h4 λi hi' hi2=>?_
    by_cases e:i=(lo+hi)/2
    ·rw[e];omega
    ·have:=hs.lt (i:=(lo+hi)/2) (k:=i) (by omega) hi2;omega
  ·rw[ah hl];have e:lo=hi:=by omega
   subst e;exact⟨h1,h4,h5⟩
theorem FA{xs:Array Nat}(hs:pH xs)(j:Nat):SetTable.below xs j<=xs.size/\(∀i,i<SetTable.below xs j->xs.getD i 0<j)/\∀i,SetTable.below xs j<=i->i<xs.size->j<=xs.getD i 0:=Fz hs xs.size 0 xs.size (aI _) (by omega) (by omega) (λi h=>absurd h (by omega)) λi h1 h2=>absurd h1 (by omega)
theorem aaV{xs:Array Nat}(hs:pH xs){i:Nat}(hi:i<xs.size):SetTable.below xs (xs.getD i 0+1)=i+1:=by
 obtain⟨b1,b2,b3⟩:=FA hs (xs.getD i 0+1);by_cases h:SetTable.below xs (xs.getD i 0+1)<=i
 ·have:=b3 i h hi;omega
 ·by_cases h2:SetTable.below xs (xs.getD i 0+1)=i+1
  ·exact h2
  ·have h3:=b2 (i+1) (by omega);have h4:=hs.lt (i:=i) (k:=i+1) (by omega) (by omega);omega
theorem aaW{xs:Array Nat}(hs:pH xs):SetTable.below xs 0=0:=by
 obtain⟨b1,b2,b3⟩:=FA hs 0;by_cases h:SetTable.below xs 0=0
 ·exact h
 ·have:=b2 0 (by omega);omega
theorem uL{xs:Array Nat}{i:Nat}(hi:i<xs.size):xs.getD i 0=xs[i]:=by simp[Array.getD,hi]
theorem aaX{t:SetTable}{L:Bool}(h:gZ L t){j:Nat}(hn:t.place[SetTable.below t.place j]? ≠some j):gZ L (t.put j).1:=by
 obtain⟨h1,h2,h3⟩:=h;obtain⟨b1,b2,b3⟩:=FA h3 j;refine⟨h1,?_,?_⟩
 ·show(if SetTable.has t.dummies j=true then _ else t.dummies)= #[];rw[h2];rfl
 ·show((t.place.extract 0 (SetTable.below t.place j)).push j++t.place.extract (SetTable.below t.place j) t.place.size).toList.Pairwise (· < ·);generalize hp:SetTable.below t.place j=p at*;rw[Array.toList_append,RU,Array.toList_extract,Array.toList_extract,List.extract_eq_take_drop,List.extract_eq_take_drop];have e1:List.take (p-0) (List.drop 0 t.place.toList)=t.place.toList.take p:=by simp
  have e2:List.take (t.place.size-p) (List.drop p t.place.toList)=t.place.toList.drop p:=RH (by simp);rw[e1,e2];have l1:∀x∈t.place.toList.take p,x<j:=λx hx=>by obtain⟨i,hi⟩:=u9 hx;have il:i<(t.place.toList.take p).length:=(bW.mp hi).1;rw[uP,gj]at il;have:=b2 i (by omega);rw[uL (by omega)]at this;rw[List.getElem?_take_of_lt (by omega),pO,jd (by omega)]at hi;rw[<-cI hi];exact this
  have l2:∀x∈t.place.toList.drop p,j<x:=λx hx=>by
   obtain⟨i,hi⟩:=u9 hx;have il:i<(t.place.toList.drop p).length:=(bW.mp hi).1;rw[za,gj]at il;rw[List.getElem?_drop,pO,jd (by omega)]at hi;have ex:=cI hi;have hps:p<t.place.size:=by omega
   have h0:=b3 p (aI _) hps;rw[uL hps]at h0;have hne:t.place[p]≠j:=λe=>hn (by rw[jd hps,e])
   have h5:t.place[p]<=x:=by
    rw[<-ex];by_cases e:i=0
    ·subst e;exact nc (by simp)
    ·have:=h3.lt (i:=p) (k:=p+i) (by omega) (by omega);rw[uL hps,uL (by omega)]at this;exact pK this
   omega
  rw[nE,List.pairwise_append];refine⟨h3.sublist (Rw _ _),?_,λa ha b hb=>?_⟩
  ·rw[List.singleton_append,RV];exact⟨l2,h3.sublist (List.drop_sublist _ _)⟩
  ·rcases bN.mp hb with e |e
   ·rw[rK]at e;rw[e];exact l1 a ha
   ·exact uT (l1 a ha) (l2 b e)
theorem yZ{t:SetTable}{L:Bool}(h:t.led=L)(n:Nat):gZ L (t.standIn n):=by refine⟨h,rfl,?_⟩;show(Array.range n).toList.Pairwise (· < ·);rw[Array.toList_range];exact RW
theorem aaY{t:SetTable}(hd:t.dummies= #[]){h:Int}{j:Nat}{b:Bool}(e:t.freeSlot h=some (j,b)):t.place[SetTable.below t.place j]? ≠some j:=by
 have nod:∀i,t.slot i≠ .dummy:=λi z=>by
  unfold SetTable.slot at z;dsimp only at z;split at z
  ·cases z
  ·rw[hd]at z;cases z
 have go:∀(fuel:Nat)(p:SetTable.Probe)(q:Nat)(dm:Option Nat),p.dummy=none->SetTable.probe.go t (λ_=>h+1) h fuel p=some (.empty q dm)->dm=none/\t.slot q=.empty:=by
  intro fuel
  induction fuel with
  |zero=>intro p q dm _ z;cases z
  |succ f ih=>
   intro p q dm hp z;unfold SetTable.probe.go at z;split at z
   ·next hs=>cases z;exact⟨hp,hs⟩
   ·next hs=>exact absurd hs (nod _)
   ·next i hs=>
    split at z
    ·cases z
    ·refine ih _ q dm ?_ z;unfold SetTable.advance;split
     ·exact hp
     ·exact hp
 unfold SetTable.freeSlot at e;split at e
 ·next q dm hq=>obtain⟨e1,e2⟩:=go _ _ q dm rfl hq;subst e1;have e:(q,false)=(j,b):=cI e;cases e;intro z;unfold SetTable.slot at e2;dsimp only at e2;rw[z]at e2;simp at e2
 ·cases e
theorem aaZ{t:SetTable}{L:Bool}(h:gZ L t)(es:Array (Int×Value))(hs:Int)(x:Value):gZ L (layNew t es hs x).2.1:=by
 unfold layNew;split
 ·next slot wd e=>
  have hp:=aaX h (aaY h.2.1 e);show gZ L ((t.put slot).1.orStandIn _);unfold SetTable.orStandIn;split
  ·exact hp
  ·exact yZ hp.1 _
 ·exact yZ h.1 _
theorem aa0{t:SetTable}{L:Bool}(h:gZ L t)(es:Array (Int×Value))(n:Nat):gZ L (relayAll t es n).2.1:=by
 unfold relayAll;split
 ·next t' order e=>
  dsimp only;split
  ·unfold SetTable.relaid SetTable.laid at e;cases ho:SetTable.layClean (SetTable.sizeAbove n-1) (es.map (·.1))with
   |none=>rw[ho]at e;cases e
   |some owner=>
    rw[ho]at e;cases e;refine⟨h.1,rfl,?_⟩;show(List.map (·.1) (List.filterMap (λj=>(owner.getD j none).map (j,·)) (List.range (SetTable.sizeAbove n-1+1)))).toArray.toList.Pairwise (· < ·);rw[List.toList_toArray,List.map_filterMap];have e2:(λj=>((owner.getD j none).map (j,·)).map (·.1))=λ(j:Nat)=>if (owner.getD j none).isSome=true then some j else none:=by funext j;cases owner.getD j none<;>rfl
    rw[e2];have e3:∀l:List Nat,l.filterMap (λ(j:Nat)=>if (owner.getD j none).isSome=true then some j else none)=l.filter λj=>(owner.getD j none).isSome:=by
     intro l
     induction l with
     |nil=>rfl
     |cons a l ih=>rw[FP,pY,ih];cases(owner.getD a none).isSome<;>rfl
    rw[e3];exact RW.filter _
  ·exact yZ h.1 _
 ·exact yZ h.1 _
end L2
namespace L2
open PySem PySem.Spec PyProof.Rows
def kQ:Value->Int
 | .int i _=>i
 |_=>0
def ja(w:World):Bool:=w.params.followText "set-order"
structure uI(P:Program)(w:World)(S:Int->Bool)(n:Nat)(es:Array (Int×Value))(t:SetTable):Prop where
 el:ElemsOf (intKind P w) es.toList
 mem:∀k,S k=true ↔ ∃e∈es.toList,(intKind P w).is k e.2=true
 sm:es.size<scanBound
 fit:t.fits es.size=true
 sz:es.size=n
 tok:gZ (!(ja w)) t
 nd:(es.toList.map λe=>kQ e.2).Nodup
def g7(P:Program)(w:World)(h:Heap)(a:Addr)(S:Int->Bool)(n:Nat):Prop:=∃o es ep t,h.get? a=some o/\o.ExactSet/\o.data=.set es ep t/\uI P w S n es t
theorem g7.keep{P:Program}{w:World}{h h':Heap}{a:Addr}{S:Int->Bool}{n:Nat}(x:g7 P w h a S n)(k:∀o,h.get? a=some o->h'.get? a=some o):g7 P w h' a S n:=by obtain⟨o,es,ep,t,h1,r⟩:=x;exact⟨o,es,ep,t,k o h1,r⟩
section
variable{P:Program}{w:World}{A:Around}{E:Value->Shared->Prop}{s:Shared}
theorem QK{h:Heap}{a:Addr}{o:Obj}{es es':Array (Int×Value)}{ep n:Nat}{t t':SetTable}{S:Int->Bool}(g1:h.get? a=some o)(g2:o.ExactSet)(g3:o.data=.set es ep t)(D:uI P w S n es' t'):(h.update a (Obj.putSet es' t')).get? a=some {o with data:=.set es' (ep+1) t'}/\g7 P w (h.update a (Obj.putSet es' t')) a S n:=by
 have q:(h.update a (Obj.putSet es' t')).get? a=some {o with data:=.set es' (ep+1) t'}:=by have z:=ni (Obj.putSet es' t') g1 (by rw[putSet_of es' t' g3];rfl);rw[putSet_of es' t' g3]at z;exact z
 exact⟨q,_,es',ep+1,t',q,g2,rfl,D⟩
theorem QL{g:Bool->Sem Unit}(hg:∀(b:Bool)(s1:Shared)(Q':Unit->Shared->Prop),Q' () s1->wpAny (model P w) A (g b) Q' E s1) {a:Addr}{o:Obj}{es es1:Array (Int×Value)}{ep n:Nat}{t t2:SetTable}{S:Int->Bool}(g1:s.heap.get? a=some o)(g2:o.ExactSet)(g3:o.data=.set es ep t)(D:uI P w S n es1 t2){wd:Bool}{R:Option Bool->Shared->Prop} (h:∀h',Heap.SameBut a s.heap h'->g7 P w h' a S n->R (some true) {s with heap:=h'}):wpAny (model P w) A (do
    storeSet a es1 t2
    if (!wd&&t2.tooFull)=true then do
      g (relayAll t2 es1 (SetTable.grown es1.size)).2.2
      storeSet a (relayAll t2 es1 (SetTable.grown es1.size)).1 (relayAll t2 es1 (SetTable.grown es1.size)).2.1
      pure (some true)
     else pure (some true)) R E s:=by
 refine ag (wpAny_storeSet_of g1 g3 ?_ (fits_of_scanBound D.sm));obtain⟨q1,q2⟩:=QK g1 g2 g3 D;have sb:=F5 s.heap a (Obj.putSet es1 t2);split
 ·have pm:=relayAll_perm t2 es1 (SetTable.grown es1.size);have ft:=relayAll_fits t2 es1 (SetTable.grown es1.size);have tk:=aa0 D.tok es1 (SetTable.grown es1.size);generalize relayAll t2 es1 (SetTable.grown es1.size)=Rl at pm ft tk ⊢;obtain⟨x5,t3,gv⟩:=Rl;dsimp only at pm ft tk ⊢;have sz:x5.size=es1.size:=by rw[<-gj,pm.length_eq,gj]
  have D2:uI P w S n x5 t3:=⟨D.el.perm pm,λk=>(D.mem k).trans ⟨λ⟨e,he,q⟩=>⟨e,pm.mem_iff.mpr he,q⟩,λ⟨e,he,q⟩=>⟨e,pm.mem_iff.mp he,q⟩⟩,by rw[sz];exact D.sm,ft,sz.trans D.sz,tk,(pm.map _).nodup_iff.mpr D.nd⟩;refine ag (hg _ _ _ ?_);refine ag (wpAny_storeSet_of q1 rfl ?_ (fits_of_scanBound D2.sm));obtain⟨_,q4⟩:=QK q1 g2 rfl D2;exact az (h _ (sb.trans (F5 _ a _)) q4)
 ·exact az (h _ sb q2)
theorem FC{k:Int}{v:Value}(h:(intKind P w).is k v=true):kQ v=k:=by obtain⟨t,rfl⟩:=Value.isInt_shape h;rfl
theorem aa1{a:Addr}{S:Int->Bool}{n:Nat}{k:Int}{tk:Tok}{Q:Bool->Shared->Prop}(hS:g7 P w s.heap a S n)(room:n+1<scanBound) (h:∀h',Heap.SameBut a s.heap h'->g7 P w h' a (λk'=>S k'||decide (k'=k)) (if S k then n else n+1)->Q (!S k) {s with heap:=h'}):wpAny (model P w) A (setAddHashed a (.int k tk) ((intKind P w).hash k)) Q E s:=by
 obtain⟨o,es,ep,t,g1,g2,g3,D⟩:=hS;have hk:(intKind P w).is k (.int k tk)=true:=intKind_is _ _ _ _;have hsc:(Value.int k tk).scannable=true:=rfl;unfold setAddHashed setAddHashedIn;refine jb (ag (vc g1 g3 D.fit ?_));dsimp only;rw[byScan_of hsc D.sm D.el];simp only[↓reduceIte];unfold setAddByScan;refine ag (ag (uV (ag (wpAny_setScan_of hk g1 g3 D.fit D.el ?_))));cases hr:List.findIdx? (λe=>(intKind P w).is k e.2) es.toList with
 |some j=>
  dsimp only;obtain⟨j1,j2,_⟩:=me.mp hr;have yes:S k=true:=(D.mem k).mpr ⟨es.toList[j],zl j1,j2⟩;refine az (az ?_);have z:=h s.heap (Heap.SameBut.refl a s.heap) ⟨o,es,ep,t,g1,g2,g3,D.el,λk'=>by rw[zm,decide_eq_true_eq,<-D.mem k'];exact⟨λc=>c.elim id λe=>e▸yes,.inl⟩,D.sm,D.fit,by rw[yes];exact D.sz,D.tok,D.nd⟩
  rw[yes]at z;exact z
 |none=>
  dsimp only;have no:S k=false:=by
   cases c:S k with
   |false=>rfl
   |true=>obtain⟨e,he,q⟩:=(D.mem k).mp c;have z:=Gg.mp hr e he;rw[q]at z;cases z
  have gw:∀(b:Bool){s1:Shared}{Q':Unit->Shared->Prop},Q' () s1->wpAny (model P w) A (match b with |true=>rule "set.scan.the-table-gave-way" |false=>pure ()) Q' E s1:=λb s1 Q' q=>by
   cases b
   ·exact az q
   ·exact uV q
  have pm:=layNew_perm t es ((intKind P w).hash k) (.int k tk);have ft:=layNew_fits t es ((intKind P w).hash k) (.int k tk);have to:=aaZ D.tok es ((intKind P w).hash k) (.int k tk);generalize layNew t es ((intKind P w).hash k) (.int k tk)=Ln at pm ft to ⊢;obtain⟨es1,t1,wd,gv⟩:=Ln;dsimp only at pm ft to ⊢;rw[RU]at pm;have sz:es1.size=n+1:=by rw[<-gj,pm.length_eq,bo,gj,D.sz];rfl
  have nd1:(es1.toList.map λe=>kQ e.2).Nodup:=by
   rw[(pm.map _).nodup_iff,eU,uZ];refine⟨D.nd,by simp,λx hx y hy=>?_⟩;have ey:y=k:=by simpa[kQ]using hy
   obtain⟨e,he,ex⟩:=d_.mp hx;obtain⟨⟨k',hk',_⟩,_⟩:=D.el e he
   rintro rfl
   have e2:k'=k:=by rw[<-FC hk',ex,ey]
   rw[e2]at hk';have z:=(D.mem k).mpr ⟨e,he,hk'⟩;rw[no]at z;cases z
  have Dn:∀t2:SetTable,t2.fits es1.size=true->gZ (!(ja w)) t2->uI P w (λk'=>S k'||decide (k'=k)) (n+1) es1 t2:=λt2 f o=>⟨(D.el.push hk hsc).perm pm,mem_push_iff hk D.mem pm,by rw[sz];exact room,f,sz,o,nd1⟩
  have fin:∀h',Heap.SameBut a s.heap h'->g7 P w h' a (λk'=>S k'||decide (k'=k)) (n+1)->Q true {s with heap:=h'}:=λh' c d=>by have z:=h h' c;rw[no]at z;exact z d
  refine ag (gw _ ?_);split
  ·refine ag ?_;rw[hashByValue_scannable 8 hsc];refine az ?_;refine QL (λb s1 Q' q=>?_) g1 g2 g3 (Dn _ ?_ ?_) ?_
   ·cases b
    ·exact az q
    ·exact uV q
   ·split
    ·exact ft
    ·exact SetTable.fits_plain_off ft
   ·split
    ·exact to
    ·exact to
   ·intro h' c d;dsimp only;exact az (fin h' c d)
  ·refine ag (az ?_);simp only[↓reduceIte];refine QL (λb s1 Q' q=>?_) g1 g2 g3 (Dn _ ft to) ?_
   ·cases b
    ·exact az q
    ·exact uV q
   ·intro h' c d;dsimp only;exact az (fin h' c d)
end
end L2
namespace L2
open PySem PySem.Spec PyProof.Rows
abbrev jU(w:World):Obj:= {cls:=.type "set",dict:=none,data:=.set #[] 0 (.fresh 0 0 (!(ja w)))}
section
variable{P:Program}{w:World}{A:Around}{E:Value->Shared->Prop}{s:Shared}
theorem aa2(a:Value){Q1:Value->Shared->Prop}(h:Q1 (.ref s.heap.objs.size) {s with heap:=s.heap.push (jU w)}):codeAny (model P w) A (.call (.builtin "set.__new__") ⟨[.type "set",a],[]⟩) (wants Q1 E) s:=by
 refine codeAny_of_tree ?_;show wpAny _ A.in1 (checkBuiltinCall "set.__new__" ⟨[.type "set",a],[]⟩>>=λ_=>again (.builtin "set.__new__" ⟨[.type "set",a],[]⟩)) _ _ s;refine ag (wpAny_of_eq (PySem.F.newCall_set_1 a) (az ⟨pT PySem.F.plain_set_new _,pS PySem.F.entry_set_new ?_⟩));rw[rJ PySem.F.plain_set_new _];unfold Builtin.«set.__new__» Builtin.Frozenset.newClass;have q:=sub_set_self;obtain⟨hp,g,d,tk,os⟩:=s;dsimp only at h ⊢
 wp_walk
 refine ve (az ?_);dsimp only;simp only[newObj];exact ag (wpAny_alloc (az (az h)))
end
section
variable{P:Program}{w:World}{A:Around}{R:Result->Shared->Prop}{I:Addr}{fp wr:List Addr}{G:Array GenState->Array GenState->Prop}{n:Nat}{Pv:Nat->Value->Prop}{St:Nat->Shared->Prop}
theorem aa3(W:WalksS P w A.in1 I fp wr G n Pv St)(a:Addr)(na:a ∉ fp)(val:Nat->Int)(hv:∀i v,Pv i v->∃t,v=.int (val i) t)(hb:n+1<scanBound):∀(k i:Nat)(s:Shared),n-i=k->i<=n->St i s->g7 P w s.heap a (λz=>(firstMet val i).any (· ==z)) (firstMet val i).length->(∀s',Moved (a::wr) G s s'->g7 P w s'.heap a (λz=>(firstMet val n).any (· ==z)) (firstMet val n).length->R (.ok (.ret .none)) s')->codeAny (model P w) A (.builtin "set.update.loop" ⟨[.ref a,.ref I],[]⟩) R s:=by
 have nw:a ∉ wr:=λz=>na (W.sub _ z)
 have up:∀b∈wr,b∈a::wr:=λb z=>bQ _ z
 intro k
 induction k with
 |zero=>
  intro i s e1 e2 st hS kk;obtain rfl:i=n:=by omega
  refine pS ab7 ?_;rw[rJ RX _];show wpAny _ A.in1 (pyNext (.ref I)>>=_) _ _ s;refine ag (W.done s _ _ st λs' mv=>?_);show wpAny _ A.in1 (ret Value.none) _ _ s';exact az (kk s' (mv.mono up) (hS.keep λo e=>mv.heap a o nw e))
 |succ k ih=>
  intro i s e1 e2 st hS kk;have lt:i<n:=by omega
  refine pS ab7 ?_;rw[rJ RX _];show wpAny _ A.in1 (pyNext (.ref I)>>=_) _ _ s;refine ag (W.item i s _ _ lt st λv s' hP st' mv=>?_);obtain⟨t,rfl⟩:=hv i v hP;have hS':=hS.keep λo e=>mv.heap a o nw e
  show wpAny _ A.in1 (holding [Value.int (val i) t] (setAdd a (.int (val i) t))>>=_) _ _ s';refine ag (jb ?_);unfold setAdd;refine jb (ag ((intKind P w).pyHash (k:=val i) (intKind_is _ _ _ _) ?_));have rm:(firstMet val i).length+1<scanBound:=by have:=firstMet_length_le val i;omega
  refine aa1 (s:= {s' with toks:=s'.toks+1}) hS' rm λh' sb hS2=>?_
  have pG:g7 P w h' a (λz=>(firstMet val (i+1)).any (· ==z)) (firstMet val (i+1)).length:=by
   have e1:(λz=>(firstMet val (i+1)).any (· ==z))=λz=>(firstMet val i).any (· ==z)||decide (z=val i):=funext λz=>by rw[firstMet_succ,step_any]
   have e2:(firstMet val (i+1)).length=if (firstMet val i).any (· ==val i)then (firstMet val i).length else (firstMet val i).length+1:=by rw[firstMet_succ,step_length]
   rw[e1,e2];exact hS2
  refine az ⟨pT RX _,ih (i+1) _ (by omega) lt (W.frame _ s' _ _ st' (l_ _) λb z o e=>?_) pG λs2 mv2 rl=>?_⟩
  ·rw[sb.2 b (λc:b=a=>na (c▸z))];exact e
  ·refine kk s2 (Moved.trans W.gtrans ((mv.mono up).then_heap (l_ _) λb o z e=>?_) mv2) rl;rw[sb.2 b (λc:b=a=>z (c▸dN))];exact e
end
section
variable{P:Program}{w:World}{A:Around}{E:Value->Shared->Prop}{s:Shared}
theorem aa4{h:Heap}{a:Addr}(g:h.get? a=some (jU w)):g7 P w h a (λ_=>false) 0:=⟨_, #[],0,_,g,⟨rfl,rfl,rfl⟩,rfl,λe he=>by simp at he,λk=>by simp,by decide,rfl,rfl,⟨rfl,rfl,List.Pairwise.nil⟩,zb⟩
set_option maxHeartbeats 3200000 in
theorem aa5{l:Addr}{its:Array Value}{ns:List Int}{Q:Value->Shared->Prop}(hh:A.handled=none)(hl:s.heap.IsList l its)(hi:IntsAre its.toList ns)(hb:its.size+1<scanBound) (h:∀(h':Heap)(tk:Nat),g7 P w h' s.heap.objs.size (λz=>(firstMet (λi=>ns.getD i 0) its.size).any (· ==z)) (firstMet (λi=>ns.getD i 0) its.size).length->(∀b o,b<s.heap.objs.size->s.heap.get? b=some o->h'.get? b=some o)->Q (.ref s.heap.objs.size) {s with heap:=h',toks:=tk}):wpAny (model P w) A (call (.type "set") [.ref l]) Q E s:=by
 obtain⟨c,tl,mro⟩:=qb.mro;have made:=qb.made;have sub:=qb.sub;refine rC (codeAny_of_tree ?_);show wpAny _ _ (callAny (.type "set") _) _ _ _;refine az ⟨RC _ (by decide+kernel),pS PySem.F.entry_type_call ?_⟩;rw[Around.under_plain (weight_type_call_type "set" [.ref l] []) rfl];have q1:=qb.notType;have q2:=qb.canCreate;have q3:=PySem.F.typeCall_set_1 (.ref l)
 repeat (any_goals (first |assumption |wp_step))
 refine ng (aa2 (.ref l) (E:=E) (Q1:=λobj s1=>obj=.ref s.heap.objs.size/\s1= {s with heap:=s.heap.push (jU w)}) ⟨rfl,rfl⟩) λr s1 hr=>?_
 cases r with
 |error e=>exact hr
 |ok fl=>
  cases fl with
  |ret obj=>
   obtain⟨rfl,rfl⟩:=hr;have gS:(s.heap.push (jU w)).get? s.heap.objs.size=some (jU w):=cF _ rfl;have tS:Shared.TypeIs {s with heap:=s.heap.push (jU w)} (.ref s.heap.objs.size) "set":=⟨_,gS,rfl⟩;have q4:=qb.init.lookup;have q5:=qb.init.bind (.ref s.heap.objs.size)
   repeat (any_goals (first |assumption |wp_step))
   refine ng (RF (R:=wants (λr s2=>r=.none/\∃h' tk,s2= {s with heap:=h',toks:=tk}/\ g7 P w h' s.heap.objs.size (λz=>(firstMet (λi=>ns.getD i 0) its.size).any (· ==z)) (firstMet (λi=>ns.getD i 0) its.size).length/\ (∀b o,b<s.heap.objs.size->s.heap.get? b=some o->h'.get? b=some o)) E) qb.init.plain PySem.F.entry_set_init (check_set_init_1 tS ?_)) λr2 s2 hr2=>?_
   ·obtain⟨ol,gl,cl,nl,dl⟩:=hl;obtain⟨ocls,odict,odata,ab8⟩:=ol;simp only at cl dl;subst cl;subst dl;have gl':=br (jU w) gl;have q6:=PySem.F.sub_list_set;have q7:=PySem.F.sub_list_frozenset;have q8:(Value.type "list"==Value.type "dict")=false:=by decide
    have hl1:(s.heap.push (jU w)).IsList l its:=⟨_,gl',rfl,nl,rfl⟩;unfold Builtin.«set.__init__» noKeywords Builtin.Frozenset.updateFrom;generalize hPI:pyIter=PI
    wp_walk
    subst hPI;refine FR hl1 (ag (wpAny_runValue ?_));have lS:l<s.heap.objs.size:=ba gl;have h3:A.in1.in1.in1.handled=none:=by simp[hh]
    have nI:l≠(s.heap.push (jU w)).objs.size:=by rw[eO];exact bT (rH lS)
    have nS:s.heap.objs.size ∉ [(s.heap.push (jU w)).objs.size,l]:=by rw[eO];simp only[a6,rK,dB,dC,not_or];exact⟨bT (uN _),l9 lS⟩
    have vals:∀(i:Nat)(v:Value),its[i]? =some v->∃t,v=.int ((λi=>ns.getD i 0) i) t:=λi v q=>hi.int_at i v (by rw[pO];exact q)
    refine aa3 ((Walks.list h3 _ l nI its).toS) s.heap.objs.size nS (λi=>ns.getD i 0) vals hb (its.size-0) 0 _ (by omega) (b9 _) ⟨⟨_,cF _ rfl,rfl,rfl⟩,(hl1.push _)⟩ ?c0 ?c1
    case c0=>exact aa4 (br _ gS)
    case c1=>
     intro s' mv hS';obtain⟨h',g',d',tk',os'⟩:=s';have eg:g'=s.gens:=mv.gens;have ed:d'=s.drawn:=mv.drawn;have eo:os'=s.os:=mv.os;subst eg ed eo;show wpAny _ _ _ _ _ _;refine az ?_;show wpAny _ _ (ret Value.none) _ _ _;refine az ⟨rfl,h',tk',rfl,hS',λb o lb e=>?_⟩;have b1:b≠s.heap.objs.size:=bT lb;have b2:b≠(s.heap.push (jU w)).objs.size:=by rw[eO];exact bT (rH lb)
     exact mv.heap b o (by simp only[a6,rK,dB,dC,not_or];exact⟨b1,b2⟩) (br _ (br _ e))
   ·cases r2 with
    |error e=>exact hr2
    |ok fl2=>
     cases fl2 with
     |ret r=>
      obtain⟨rfl,h',tk,rfl,hS',hk'⟩:=hr2
      repeat (any_goals (first |assumption |wp_step))
      exact h _ _ hS' hk'
     |_=>exact hr2.elim
  |_=>exact hr.elim
end
end L2
namespace L2
open PySem PySem.Spec PyProof.Rows
theorem pI:Slot "set_iterator" "__next__" "set_iterator.__next__":=.of (owner:="set_iterator") (n:="__next__") (by rw[typeLookup_type,RE];kernel_rfl) (by decide+kernel) (by decide+kernel) (by decide+kernel) (by first |exact .inl (by decide+kernel) |exact .inr (by decide+kernel)) (by rw[isSubtype_type];kernel_rfl)
theorem QM:entryFor table "set_iterator.__next__"=some Builtin.«set_iterator.__next__»:=entryFor_of_tree (by kernel_rfl)
theorem QN(a:Value):argsOk "set_iterator.__next__" ⟨[a],[]⟩:=by unfold argsOk;kernel_rfl
theorem aa6:entryFor table "set.__iter__"=some Builtin.«frozenset.__iter__»:=entryFor_alias (id':="frozenset.__iter__") (by kernel_rfl) rfl (by decide+kernel) (by kernel_rfl)
theorem QO:Slot "set_iterator" "__iter__" "set_iterator.__iter__":=.of (owner:="set_iterator") (n:="__iter__") (by rw[typeLookup_type,RE];kernel_rfl) (by decide+kernel) (by decide+kernel) (by decide+kernel) (by first |exact .inl (by decide+kernel) |exact .inr (by decide+kernel)) (by rw[isSubtype_type];kernel_rfl)
theorem FD{α:Type}:∀(l:List α)(v:Nat)(h:v<l.length),(l[v]::l.eraseIdx v).Perm l
 |x::l,0,_=>List.Perm.refl _
 |x::l,v+1,h=>(List.Perm.swap _ _ _).trans ((FD l v (by simpa using h)).cons x)
theorem QP{α:Type}(f:Nat->Nat):∀(n k:Nat)(l:List α)(out:Array α),n=l.length->(pickOrder.go f n k l out).toList.Perm (out.toList++l)
 |0,k,l,out,e=>by obtain rfl:=ab5 e.symm;simp[pickOrder.go]
 |n+1,k,l,out,e=>by have hv:f k%l.length<l.length:=Nat.mod_lt _ (by omega);unfold pickOrder.go;rw[aN hv];refine(QP f n (k+1) _ _ (by rw[List.length_eraseIdx_of_lt hv];omega)).trans ?_;rw[RU,nE];exact(FD l _ hv).append_left _
section
variable{M:Model}{P:Program}{w:World}{A:Around}{E:Value->Shared->Prop}{s:Shared}
theorem aa7{src:Source}{n:Nat}{Q:Nat->Shared->Prop}(hn:n≠0)(h:∀v d,v<n->Q v {s with drawn:=d}):wpAny M A (choose src n) Q E s:=λ_ _ _=>⟨hn,h _ _ (Nat.mod_lt _ (Nat.pos_of_ne_zero hn))⟩
theorem QQ{α:Type}:∀(n:Nat)(xs:List α)(s:Shared)(Q:List α->Shared->Prop),n=xs.length->(∀ys d,ys.Perm xs->Q ys {s with drawn:=d})->wpAny M A (drawOrder n xs) Q E s
 |0,[],s,Q,_,h=>az (h [] s.drawn (List.Perm.refl _))
 |0,_::_,_,_,e,_=>absurd e (by simp)
 |n+1,[],_,_,e,_=>absurd e (by simp)
 |n+1,x::xs,s,Q,e,h=>by unfold drawOrder;refine ag (aa7 (by simp) λv d hv=>?_);have gx:(x::xs)[v]? =some (x::xs)[v]:=aN hv;rw[gx];dsimp only;refine ag (QQ n ((x::xs).eraseIdx v) _ _ (by rw[List.length_eraseIdx_of_lt hv];simpa using e) λys d' pm=>?_);refine az (h _ d' ?_);exact(List.Perm.cons _ pm).trans (FD _ v hv)
def fH(h:Heap)(I:Addr)(f:Value)(i:Nat)(a:Addr)(n ep:Nat):Prop:=∃o,h.get? I=some o/\o.cls=.type "set_iterator" /\o.data=.fields #[f,.int i 0,.ref a,.int n 0,.int ep 0]
theorem fH.ty{I a:Addr}{f:Value}{i n ep:Nat}(h:fH s.heap I f i a n ep):s.TypeIs (.ref I) "set_iterator":=let ⟨o,h1,h2,_⟩:=h;⟨o,h1,h2⟩
theorem fH.keep{h h':Heap}{I a:Addr}{f:Value}{i n ep:Nat}(x:fH h I f i a n ep)(k:∀o,h.get? I=some o->h'.get? I=some o):fH h' I f i a n ep:=let ⟨o,h1,h2⟩:=x;⟨o,k o h1,h2⟩
theorem fH.put{h:Heap}{I a:Addr}{f:Value}{i n ep:Nat}(x:fH h I f i a n ep)(f':Value):fH (h.update I (Obj.mapFields (·.setIfInBounds 0 f'))) I f' i a n ep:=by obtain⟨o,h1,h2,h3⟩:=x;exact⟨_,ni _ h1 (F4 (pV h3 _)),(Obj.cls_mapFields ..).trans h2,by rw[pV h3];simp⟩
theorem fH.step{h:Heap}{I a:Addr}{f:Value}{i n ep:Nat}(x:fH h I f i a n ep):fH (h.update I (Obj.mapFields (·.setIfInBounds 1 (rawInt ((i:Int)+1))))) I f (i+1) a n ep:=by obtain⟨o,h1,h2,h3⟩:=x;exact⟨_,ni _ h1 (F4 (pV h3 _)),(Obj.cls_mapFields ..).trans h2,by rw[pV h3];simp[rawInt]⟩
theorem QR{B:Around}(hh:B.handled=none){Q:PySem.Fin->Shared->Prop}{E':Value->Shared->Prop}(h:∀h' v,(∀b o,s.heap.get? b=some o->h'.get? b=some o)->({s with heap:=h'}:Shared).TypeIs v "StopIteration" ->E' v {s with heap:=h'}):wpAny (model P w) B (do raiseNew (<-newExc (.type "StopIteration") [])) Q E' s:=by
 refine ag ?_;simp only[newExc,newTuple];refine ag (jc ?_ (by size_fits));refine ag (m:=firstArgMember _ _) (wpAny_of_eq (a:=Value.none) (by first |rfl |(simp only[firstArgMember];rfl)) ?_);refine jc ?_ (by size_fits);simp only[raiseNew];refine ag (wpAny_handled ?_);rw[hh];refine ag (az (wpAny_throw (h _ _ (λb o e=>?_) ?_)))
 ·exact br _ (br _ e)
 ·exact⟨_,cF _ rfl,rfl⟩
theorem QS{I a:Addr}{sl i ep:Nat}{o:Obj}{es:Array (Int×Value)}{t:SetTable}{r:Option (Value×Nat)}{Q:Option Value->Shared->Prop}(hh:A.handled=none) (hI:fH s.heap I (.int sl 0) i a es.size ep)(g1:s.heap.get? a=some o)(g2:o.data=.set es ep t)(g3:t.fits es.size=true) (hN:∀(B:Around)(E':Value->Shared->Prop)(Q':Option (Value×Nat)->Shared->Prop),Q' r s->wpAny (model P w) B (setNext a sl i ep) Q' E' s) (k1:∀x nx h',r=some (x,nx)->fH h' I (.int (nx:Nat) 0) (i+1) a es.size ep->(∀b o,b≠I->s.heap.get? b=some o->h'.get? b=some o)->Q (some x) {s with heap:=h'}) (k2:r=none->∀h',(∀b o,b≠I->s.heap.get? b=some o->h'.get? b=some o)->Q none {s with heap:=h'}):wpAny (model P w) A (pyNext (.ref I)) Q E s:=by
 obtain⟨oi,i1,i2,i3⟩:=id hI;unfold pyNext;refine ag (F0 (uQ (name:=Str.ofString "__next__") hI.ty pI (nh pI hI.ty QM ?_ (QN _))));refine ag (az ?_);refine ag (F3 i1 i3 ?_);show wpAny _ _ (setEntries a>>=_) _ _ s;refine ag (RY g1 g2 g3 ?_);rw[ah (by simp)];show wpAny _ _ (setNext a sl i ep>>=_) _ _ s;refine ag (hN _ _ _ ?_)
 match r,k1,k2 with
 |some (x,nx),k1,_=>show wpAny _ _ (setField (.ref I) 0 (rawInt nx)>>=_) _ _ s;refine ag (kT i1 i3 (by simp) ?_);have j1:=hI.put (rawInt nx);obtain⟨o2,j2,j3,j4⟩:=id j1;refine ag (kT (s:= {s with heap:=_}) j2 j4 (by simp) ?_);have j5:=j1.step;exact az ⟨_,rfl,az (k1 x nx _ rfl j5 λb o nb e=>(iA _ _ (cu nb)).trans ((iA _ _ (cu nb)).trans e))⟩
 |none,_,k2=>
  show wpAny _ _ (setField (.ref I) 2 .none>>=_) _ _ s;refine ag (kT i1 i3 (by simp) ?_);refine QR (B:=A.in1) hh λh' v hk hv=>?_
  refine ag (F6 (T:="StopIteration") (b:=true) hv isSubtype_stop ?_);exact az (k2 rfl _ λb o nb e=>hk b o ((iA _ _ (cu nb)).trans e))
theorem QT{I a T:Addr}{i ep:Nat}{o:Obj}{es:Array (Int×Value)}{t:SetTable}{ps:List Nat}{Q:Option Value->Shared->Prop}(hh:A.handled=none) (hI:fH s.heap I (.ref T) i a es.size ep)(hT:s.heap.IsTuple T (ps.map λ(p:Nat)=>rawInt p).toArray)(g1:s.heap.get? a=some o)(g2:o.data=.set es ep t)(g3:t.fits es.size=true) (k1:∀p,ps[i]? =some p->∃e,es[p]? =some e/\∀h',fH h' I (.ref T) (i+1) a es.size ep->(∀b o,b≠I->s.heap.get? b=some o->h'.get? b=some o)->Q (some e.2) {s with heap:=h'}) (k2:ps[i]? =none->∀h',(∀b o,b≠I->s.heap.get? b=some o->h'.get? b=some o)->Q none {s with heap:=h'}):wpAny (model P w) A (pyNext (.ref I)) Q E s:=by
 obtain⟨oi,i1,i2,i3⟩:=id hI;unfold pyNext;refine ag (F0 (uQ (name:=Str.ofString "__next__") hI.ty pI (nh pI hI.ty QM ?_ (QN _))));refine ag (az ?_);refine ag (F3 i1 i3 ?_);show wpAny _ _ (setEntries a>>=_) _ _ s;refine ag (RY g1 g2 g3 ?_);rw[ah (by simp)];show wpAny _ _ (seqItems? (.ref T)>>=_) _ _ s;obtain⟨ot,t1,_,n0,t3⟩:=hT;unfold seqItems?;refine ag (ag (wpAny_load t1 ?_));rw[t3];refine az ?_;dsimp only[Int.toNat_natCast];cases hp:ps[i]? with
 |some p=>
  obtain⟨e,he,kk⟩:=k1 p hp;have FF:(ps.map λ(p:Nat)=>rawInt p).toArray[i]? =some (rawInt p):=by simp[hp]
  rw[FF];show wpAny _ _ (setNextDrawn a p ep>>=_) _ _ s;unfold setNextDrawn;refine ag (ag (vc g1 g2 g3 ?_));dsimp only;rw[ah (by simp),he];refine az ?_;refine ag (kT i1 i3 (by simp) ?_);exact az ⟨_,rfl,az (kk _ hI.step λb o nb e=>(iA _ _ (cu nb)).trans e)⟩
 |none=>
  have FF:(ps.map λ(p:Nat)=>rawInt p).toArray[i]? =none:=by simpa using hp
  rw[FF];dsimp only;refine ag (kT i1 i3 (by simp) ?_);have j1:=hI.put (rawInt 0);obtain⟨o2,j2,j3,j4⟩:=id j1;refine ag (kT (s:= {s with heap:=_}) j2 j4 (by simp) ?_);refine QR (B:=A.in1) hh λh' v hk hv=>?_
  refine ag (F6 (T:="StopIteration") (b:=true) hv isSubtype_stop ?_);exact az (k2 hp _ λb o nb e=>hk b o ((iA _ _ (cu nb)).trans ((iA _ _ (cu nb)).trans e)))
theorem aa8:entryFor table "set_iterator.__iter__"=some Builtin.«dict_keyiterator.__iter__»:=entryFor_alias (id':="dict_keyiterator.__iter__") (by kernel_rfl) rfl (by decide+kernel) (by kernel_rfl)
theorem aa9(a:Value):argsOk "set_iterator.__iter__" ⟨[a],[]⟩:=by unfold argsOk;kernel_rfl
theorem QU{I a:Addr}{f:Value}{i n ep:Nat}{Q:Value->Shared->Prop}(h:fH s.heap I f i a n ep)(q:Q (.ref I) s):wpAny (model P w) A (pyIter (.ref I)) Q E s:=by refine wpAny_pyIter_slot h.ty QO (nh QO h.ty aa8 ?_ (aa9 _));show wpAny _ _ (ret (.ref I)) _ _ s;exact az ⟨_,rfl,"set_iterator",_,h.ty,pI.lookup,q⟩
theorem aa_{a:Addr}{sl i ep:Nat}{o:Obj}{es:Array (Int×Value)}{t:SetTable}(g1:s.heap.get? a=some o)(g2:o.data=.set es ep t)(g3:t.fits es.size=true)(hb:ja w=true) {Q:Option (Value×Nat)->Shared->Prop}(q:Q (((pickOrder (w.params.setOrder a ep) es)[i]?).map λe=>(e.2,sl)) s):wpAny (model P w) A (setNext a sl i ep) Q E s:=by
 have hb':(model P w).w.params.followText "set-order"=true:=hb;unfold setNext;refine ag (vc g1 g2 g3 ?_);unfold setsByText;refine ag (ag (ve (az ?_)));dsimp only;rw[ai hb',ah (by simp)];unfold setWalk setsByText;refine ag (ag (vc g1 g2 g3 ?_));refine ag (ag (ve (az ?_)));dsimp only;rw[ai hb'];exact ag (ve (az (az q)))
theorem aba{a:Addr}{i ep:Nat}{o:Obj}{es:Array (Int×Value)}{t:SetTable}(g1:s.heap.get? a=some o)(g2:o.data=.set es ep t)(g3:t.fits es.size=true)(hb:ja w=false)(tk:gZ (!(ja w)) t) (np:(!t.plain&&decide (es.size>1))=false)(hi:i<=es.size){Q:Option (Value×Nat)->Shared->Prop}(sl:Nat->Nat)(s0:sl 0=0)(s1:∀j,j<es.size->sl (j+1)=t.place.getD j 0+1) (q:Q ((es[i]?).map λe=>(e.2,sl (i+1))) s):wpAny (model P w) A (setNext a (sl i) i ep) Q E s:=by
 obtain⟨t1,t2,t3⟩:=tk;have sz:t.place.size=es.size:=by simp only[SetTable.fits,fe,jX,decide_eq_true_eq]at g3;exact g3.1
 unfold setNext;refine ag (vc g1 g2 g3 ?_);unfold setsByText;refine ag (ag (ve (az ?_)));dsimp only;have hb':(model P w).w.params.followText "set-order"=false:=hb;rw[ah (by rw[hb'];decide)];show wpAny _ _ (if (!t.plain&&decide (es.size>1))=true then _ else _) _ _ s;rw[ah (by rw[np];decide)];show wpAny _ _ ((if (!t.led&& !es.isEmpty)=true then _ else _)>>=_) _ _ s;rw[ah (by rw[t1,hb];simp)];refine ag (az ?_);have eb:SetTable.below t.place (sl i)=i:=by
  cases i with
  |zero=>rw[s0,aaW t3]
  |succ j=>rw[s1 j (by omega),aaV t3 (by omega)]
 rw[eb];refine az ?_;by_cases h:i<es.size
 ·have h2:i<t.place.size:=by omega
  rw[jd h]at q;rw[jd h,jd h2];rw[ma,s1 i h,uL h2]at q;exact q
 ·rw[zc (by omega)]at q;rw[zc (by omega)];exact q
theorem abb{I a:Addr}{ep:Nat}{o:Obj}{es:Array (Int×Value)}{t:SetTable}(sl:Nat->Nat)(vs:List Value)(hh:A.handled=none)(ne:a≠I)(g2:o.data=.set es ep t)(g3:t.fits es.size=true) (hN:∀(i:Nat)(s:Shared)(B:Around)(E':Value->Shared->Prop)(Q':Option (Value×Nat)->Shared->Prop),i<=vs.length->s.heap.get? a=some o->Q' ((vs[i]?).map λx=>(x,sl (i+1))) s->wpAny (model P w) B (setNext a (sl i) i ep) Q' E' s):Walks P w A I [I,a] [I] vs.length (λi v=>vs[i]? =some v) λi h=>fH h I (.int (sl i:Nat) 0) i a es.size ep/\h.get? a=some o where
 sub:=λb hb=>by simp at hb;simp[hb]
 frame:=λ_ _ _ x hk=>⟨x.1.keep λo e=>hk I (by simp) o e,hk a (by simp) _ x.2⟩
 item:=λi s Q E hi x hQ=>by
  refine QS hh x.1 x.2 g2 g3 (hN i s · · · (by omega) x.2) (λy nx h' e1 e2 e3=>?_) λe=>?_
  ·rw[aN hi,ma]at e1;obtain⟨rfl,rfl⟩:=Prod.mk.inj (cI e1);exact hQ _ h' s.toks (aN hi) ⟨e2,e3 a o ne x.2⟩ λb o hb e=>e3 b o (λz=>hb (by simp[z])) e
  ·rw[aN hi]at e;cases e
 done:=λs Q E x hQ=>by
  refine QS hh x.1 x.2 g2 g3 (hN _ s · · · (by omega) x.2) (λy nx h' e1 e2 e3=>?_) λ_ h' e3=>?_
  ·rw[jA (aI _)]at e1;cases e1
  ·exact hQ h' s.toks λb o hb e=>e3 b o (λz=>hb (by simp[z])) e
 self:=λ_ _ _ _ x hQ=>QU x.1 hQ
theorem abc{I a T:Addr}{ep:Nat}{o:Obj}{es:Array (Int×Value)}{t:SetTable}(ps:List Nat)(hh:A.handled=none)(ne:a≠I)(nT:T≠I)(g2:o.data=.set es ep t)(g3:t.fits es.size=true)(hp:∀p∈ps,p<es.size):Walks P w A I [I,a,T] [I] (ps.map λp=>((es[p]?).getD (0,.none)).2).length (λi v=>(ps.map λp=>((es[p]?).getD (0,.none)).2)[i]? =some v) λi h=>fH h I (.ref T) i a es.size ep/\h.get? a=some o/\h.IsTuple T (ps.map λ(p:Nat)=>rawInt p).toArray where
 sub:=λb hb=>by simp at hb;simp[hb]
 frame:=λ_ _ _ x hk=>⟨x.1.keep λo e=>hk I (by simp) o e,hk a (by simp) _ x.2.1,let ⟨ot,t1,t2⟩:=x.2.2;⟨ot,hk T (by simp) _ t1,t2⟩⟩
 item:=λi s Q E hi x hQ=>by
  refine QT hh x.1 x.2.2 x.2.1 g2 g3 (λp e1=>?_) λe=>?_
  ·have lp:=hp p (bu e1);refine⟨es[p],jd lp,λh' e2 e3=>?_⟩;refine hQ _ h' s.toks ?_ ⟨e2,e3 a o ne x.2.1,?_⟩ λb o hb e=>e3 b o (λz=>hb (by simp[z])) e
   ·rw[bF,e1,ma,jd lp];rfl
   ·obtain⟨ot,t1,t2⟩:=x.2.2;exact⟨ot,e3 T _ nT t1,t2⟩
  ·rw[aN (by simpa using hi)]at e;cases e
 done:=λs Q E x hQ=>by
  refine QT hh x.1 x.2.2 x.2.1 g2 g3 (λp e1=>?_) λ_ h' e3=>?_
  ·rw[jA (by simp)]at e1;cases e1
  ·exact hQ h' s.toks λb o hb e=>e3 b o (λz=>hb (by simp[z])) e
 self:=λ_ _ _ _ x hQ=>QU x.1 hQ
theorem map_range{es:Array (Int×Value)}{ps:List Nat}(h:ps.Perm (List.range es.size)):(ps.map λp=>((es[p]?).getD (0,Value.none)).2).Perm (es.toList.map (·.2)):=by
 refine(h.map _).trans (List.Perm.of_eq ?_);refine List.ext_getElem (by simp) λi h1 h2=>?_
 have:i<es.size:=by simpa using h1
 simp[this]
theorem abd{B:Around}{a:Addr}{ep:Nat}{o:Obj}{es:Array (Int×Value)}{t:SetTable}{Q:Value->Shared->Prop}(hh:B.handled=none)(g1:s.heap.get? a=some o)(g0:o.ExactSet)(g2:o.data=.set es ep t)(g3:t.fits es.size=true) (tk:gZ (!(ja w)) t)(sm:es.size<scanBound) (h:∀(I:Addr)(h1:Heap)(d:Drawn)(vs:List Value)(fp:List Addr)(St:Nat->Heap->Prop),Walks P w B I fp [I] vs.length (λi v=>vs[i]? =some v) St->St 0 h1->(∀b∈fp,b=a\/s.heap.objs.size<=b)->s.heap.objs.size<=I->(∀b o,s.heap.get? b=some o->h1.get? b=some o)->vs.Perm (es.toList.map (·.2))->Q (.ref I) {s with heap:=h1,drawn:=d}):wpAny (model P w) A (pyIter (.ref a)) Q E s:=by
 have la:=ba g1;have hT:s.TypeIs (.ref a) "set":=⟨o,g1,g0.1⟩;refine wpAny_pyIter_slot hT PySem.F.slot_set_iter (nh PySem.F.slot_set_iter hT aa6 ?_ (PySem.F.args_set_iter_1 _));unfold Builtin.«frozenset.__iter__» Builtin.Frozenset.slot0 slotArgs;simp only[List.isEmpty_nil,Bool.not_true,pQ,↓reduceIte,bind_assoc,pR,bne_self_eq_false];unfold Builtin.Frozenset.addrOf Builtin.Frozenset.sizeOf;refine ag (az ?_);refine ag (az ?_);refine ag (ag (RY g1 g2 g3 (az ?_)));unfold setDrawn setsByText;refine ag (ag (vc g1 g2 g3 ?_));refine ag (ag (ve (az (az ?_))));show wpAny _ _ (if (!(ja w)&&(!t.plain&&decide (es.size>1)))=true then _ else _) _ _ s;have lz:es.size<=sizeLine:=by rw[bg];unfold scanBound at sm;omega
 by_cases hc:(!(ja w)&&(!t.plain&&decide (es.size>1)))=true
 ·rw[ai hc];refine ag (QQ es.size (List.range es.size) _ _ (by simp) λps d pm=>?_);have pl:ps.length=es.size:=by rw[pm.length_eq,gr]
  refine ag (wpAny_newTuple ?_ (by rw[aK,pl];exact lz));refine ag ?_;have g1':=br {cls:=.type "tuple",data:=.seq (ps.map λ(p:Nat)=>rawInt p).toArray} g1;refine wpAny_setEpoch_of (s:= {s with heap:=_,drawn:=_}) g1' g2 g3 ?_;refine ag (jc (az ⟨_,rfl,"set_iterator",_,⟨_,cF _ rfl,rfl⟩,pI.lookup,?_⟩));refine h _ _ d _ _ _ (abc (T:=s.heap.objs.size) (ep:=ep) (o:=o) ps hh ?_ ?_ g2 g3 λp hp=>by simpa using pm.mem_iff.mp hp) ⟨⟨_,cF _ rfl,rfl,rfl⟩,br _ g1',⟨_,br _ (cF _ rfl),rfl,_,rfl⟩⟩
   (λb hb=>?_) ?_ (λb o e=>br _ (br _ e)) (map_range pm)
  ·rw[eO];exact bT (rH la)
  ·rw[eO];exact bT (uN _)
  ·simp only[a6,dB,dC]at hb;rcases hb with e |e |e
   ·exact Or.inr (by rw[e,eO];exact l_ _)
   ·exact Or.inl e
   ·exact Or.inr (nc e.symm)
  ·rw[eO];exact l_ _
 ·rw[ah hc];refine ag (az ?_);refine ag ?_;refine wpAny_setEpoch_of g1 g2 g3 ?_;refine ag (jc (az ⟨_,rfl,"set_iterator",_,⟨_,cF _ rfl,rfl⟩,pI.lookup,?_⟩));have fin:∀(sl:Nat->Nat)(vs:List Value),sl 0=0->vs.Perm (es.toList.map (·.2))->(∀(i:Nat)(s:Shared)(B:Around)(E':Value->Shared->Prop)(Q':Option (Value×Nat)->Shared->Prop),i<=vs.length->s.heap.get? a=some o->Q' ((vs[i]?).map λx=>(x,sl (i+1))) s->wpAny (model P w) B (setNext a (sl i) i ep) Q' E' s)->
    Q (.ref s.heap.objs.size) {s with heap:=s.heap.push {cls:=.type "set_iterator",data:=.fields [rawInt 0,rawInt 0,.ref a,rawInt es.size,rawInt ep].toArray}}:=λsl vs s0 pm hN=>by
   refine h _ _ s.drawn vs _ _ (abb sl vs hh (bT la) g2 g3 hN) ⟨⟨_,cF _ rfl,rfl,by rw[s0];rfl⟩,br _ g1⟩ (λb hb=>?_) (aI _) (λb o e=>br _ e) pm;simp only[a6,dB,dC]at hb;rcases hb with e |e
   ·exact Or.inr (nc e.symm)
   ·exact Or.inl e
  cases hb:ja w with
  |true=>
   refine fin (λ_=>0) ((pickOrder (w.params.setOrder a ep) es).toList.map (·.2)) rfl ((QP _ _ _ _ _ (by simp)).map _) λi s B E' Q' hi g q=>?_
   refine aa_ g g2 g3 hb ?_;rw[bF,pO,Option.map_map]at q;exact q
  |false=>
   have np:(!t.plain&&decide (es.size>1))=false:=by rw[hb]at hc;simpa using hc
   refine fin (λj=>match j with |0=>0 |j+1=>t.place.getD j 0+1) (es.toList.map (·.2)) rfl (List.Perm.refl _) λi s B E' Q' hi g q=>?_
   refine aba g g2 g3 hb tk np (by simpa using hi) (λj=>match j with |0=>0 |j+1=>t.place.getD j 0+1) rfl (λ_ _=>rfl) ?_;rw[bF,pO,Option.map_map]at q;exact q
end
end L2
namespace L2
open PySem PySem.Spec PyProof.Rows
section
variable{P:Program}{w:World}{A:Around}{E:Value->Shared->Prop}{s:Shared}
theorem abe{r:Addr}{Q:Bool->Shared->Prop}(hT:s.TypeIs (.ref r) "set")(q:Q false s):wpAny (model P w) A (Builtin.List.listLengthHint (.ref r)) Q E s:=by
 unfold Builtin.List.listLengthHint;refine ag (wpAny_specialOf hT PySem.F.slot_set_len.lookup ?_);generalize hid:("set.__len__" :String)=z
 wp_delta
 rw[show splitId z=some ("set","__len__") from by subst hid;decide+kernel];subst hid;refine ag (F6 (T:="set") (b:=true) hT (by rw[isSubtype_type];kernel_rfl) ?_);refine wpAny_ite_split (λc=>absurd c (by decide)) (λ_=>?_);refine wpAny_ite_split (λ_=>?_) (λc=>absurd (by decide+kernel) c);exact ag (uR hT (az q))
theorem abf{R:Result->Shared->Prop}{a S:Addr}{ep c0:Nat}{o:Obj}{es:Array (Int×Value)}{t:SetTable}(hh:A.handled=none)(g1:s.heap.get? a=some o)(g0:o.ExactSet)(g2:o.data=.set es ep t)(g3:t.fits es.size=true) (tk:gZ (!(ja w)) t)(sm:es.size<scanBound)(res:Value)(nS:S≠a)(gS:s.heap.get? S=some {cls:=.type "list",data:=.seq #[] c0}) (kk:∀h' tk d(vs:Array Value) c',(∀b o,b≠S->s.heap.get? b=some o->h'.get? b=some o)->h'.get? S=some {cls:=.type "list",dict:=none,data:=.seq vs c',slots:= #[]}->vs.toList.Perm (es.toList.map (·.2))->R (.ok (.ret res)) {s with heap:=h',toks:=tk,drawn:=d}):wpAny (model P w) A.in1 (Builtin.List.listExtendWith (.ref S) (.ref a) res) (λfin s'=>match fin with | .done f=>R (.ok f) s' | .again c'=>c'.quiet=true/\codeAny (model P w) A c' R s') (λe s'=>R (.error e) s') s:=by
 have hT:s.TypeIs (.ref a) "set":=⟨o,g1,g0.1⟩;have lz:es.size<=sizeLine:=by rw[bg];unfold scanBound at sm;omega
 unfold Builtin.List.listExtendWith;refine ag (uR hT ?_);have q1:Builtin.List.listSameRef (.ref S) (.ref a)=false:=by simp[Builtin.List.listSameRef,nS]
 have q2:(Value.type "set"==Value.type "list")=false:=by decide
 have q3:(Value.type "set"==Value.type "tuple")=false:=by decide
 simp only[q1,q2,q3,Bool.or_false,pQ,jY];refine ag (abd (B:=A.in1) (by simp[hh]) g1 g0 g2 g3 tk sm λI h1 d vs fp St W st hfp hI hk pm=>?_);have lS:=ba gS;have nSf:S ∉ fp:=λz=>(hfp S z).elim nS λy=>absurd lS (Nat.not_lt.mpr y)
 have nSI:S≠I:=λz=>absurd lS (Nat.not_lt.mpr (z▸hI))
 have vl:vs.length<=sizeLine:=by rw[pm.length_eq,aK,gj];exact lz
 have key:∀(h:Heap)(c1 tk:Nat),St 0 h->(∀b o,b≠S->s.heap.get? b=some o->h.get? b=some o)->
   h.get? S=some {cls:=.type "list",data:=.seq #[] c1}->codeAny (model P w) A (.builtin "list.extend.loop" ⟨[.ref S,.ref I,res],[]⟩) R {s with heap:=h,toks:=tk,drawn:=d}:=by
  intro h c1 tk hst hk2 uJ;refine codeAny_extend_loopS W.toS vl S nSf res vs.length 0 _ #[] c1 rfl (b9 _) hst uJ (ItemsOf.nil _) λs' acc c' mv lZ ha=>?_
  rw[Moved.eq_with mv];refine kk s'.heap s'.toks d acc c' (λb o nb e=>mv.heap b o (λz=>?_) (hk2 b o nb e)) lZ ?_
  ·rcases a6.mp z with e' |z
   ·exact nb e'
   ·exact absurd (ba e) (by rw[rK.mp z];exact Nat.not_lt.mpr hI)
  ·have e:acc.toList=vs:=by
    refine List.ext_getElem? λj=>?_
    by_cases hj:j<vs.length
    ·have:j<acc.size:=by rw[ha.1];exact hj
     have h3:=ha.2 j acc[j] (jd this);rw[pO,jd this];exact h3.symm
    ·rw[jA (by rw[gj,ha.1];omega),jA (by omega)]
   rw[e];exact pm
 have uJ:=hk S _ gS;have hT1:({s with heap:=h1,drawn:=d}:Shared).TypeIs (.ref a) "set":=⟨o,hk a _ g1,g0.1⟩;refine ag (jb (abe hT1 ?_));refine wpAny_ite_split (λ_=>?_) (λ_=>az ⟨pT PySem.F.plain_extend_loop _,key _ c0 _ st (λb o _ e=>hk b o e) uJ⟩);refine ag (uV (ag ?_));show wpAny _ _ (updateSeq S (·.push .none)>>=λ_=>updateSeq S (·.pop)) _ _ _;refine ag (wpAny_updateSeq uJ rfl ?_);have gS2:=ni (Obj.mapSeq (·.push Value.none)) uJ rfl;refine wpAny_updateSeq (hz:=by seq_fits) gS2 rfl ?_;have gS3:=ni (Obj.mapSeq (·.pop)) gS2 rfl;refine az ⟨pT PySem.F.plain_extend_loop _,key _ _ _ ?_ (λb o nb e=>?_) gS3⟩
 ·refine W.frame 0 _ _ st λb hb o e=>?_
  have nb:b≠S:=λz=>nSf (z▸hb)
  exact(iA _ _ nb.symm).trans ((iA _ _ nb.symm).trans e)
 ·exact(iA _ _ nb.symm).trans ((iA _ _ nb.symm).trans (hk b o e))
theorem abg{R:List Value->Shared->Prop}{a:Addr}{ep:Nat}{o:Obj}{es:Array (Int×Value)}{t:SetTable}(hh:A.handled=none)(g1:s.heap.get? a=some o)(g0:o.ExactSet)(g2:o.data=.set es ep t)(g3:t.fits es.size=true) (tk:gZ (!(ja w)) t)(sm:es.size<scanBound) (kk:∀h' tk d(vs:List Value),s.heap.objs.size<=h'.objs.size->(∀b o,s.heap.get? b=some o->h'.get? b=some o)->vs.Perm (es.toList.map (·.2))->R vs {s with heap:=h',toks:=tk,drawn:=d}):wpAny (model P w) A (collect (.ref a)) R E s:=by
 have la:=ba g1;unfold collect;refine ag (wpAny_runValue (pS entry_proto_collect' ?_));rw[rJ PySem.F.plain_proto_collect _];refine ag (m:=newList []) (jc ?_);refine az ⟨pT PySem.F.plain_list_iadd _,pS entry_list_iadd' ?_⟩;rw[rJ PySem.F.plain_list_iadd _];have gS:(s.heap.push {cls:=.type "list",data:=.seq ([]:List Value).toArray}).get? s.heap.objs.size=some {cls:=.type "list",data:=.seq #[]}:=cF _ rfl;show wpAny _ A.in1 (Builtin.List.listExtendWith (.ref s.heap.objs.size) (.ref a) (.ref s.heap.objs.size)) _ _ _;refine dq (abf (A:=A) (s:= {s with heap:=_}) (R:=λ(q:Result)(s':Shared)=>∃(h':Heap)(tk:Nat)(d:Drawn)(vs:Array Value)(c':Nat),q=.ok (.ret (.ref s.heap.objs.size))/\s'= {s with heap:=h',toks:=tk,drawn:=d}/\
   (∀b o,s.heap.get? b=some o->h'.get? b=some o)/\h'.get? s.heap.objs.size=some {cls:=.type "list",dict:=none,data:=.seq vs c',slots:= #[]}/\vs.toList.Perm (es.toList.map (·.2)))
  hh (br _ g1) g0 g2 g3 tk sm _ (l9 la) gS λh' tk d vs c' hk lZ pm=>⟨h',tk,d,vs,c',rfl,rfl,λb o e=>hk b o (bT (ba e)) (br _ e),lZ,pm⟩) (λfin s' x=>?_) λe s' x=>?_
 ·cases fin with
  |done f=>obtain⟨h',tk,d,vs,c',e,rfl,hk,lZ,pm⟩:=x;cases e;exact ag (m:=load _) (wpAny_load lZ (az (kk h' tk d _ (pK (ba lZ)) hk pm)))
  |again c1=>refine⟨x.1,ng x.2 λq s2 y=>?_⟩;obtain⟨h',tk,d,vs,c',rfl,rfl,hk,lZ,pm⟩:=y;exact ag (m:=load _) (wpAny_load lZ (az (kk h' tk d _ (pK (ba lZ)) hk pm)))
 ·obtain⟨_,_,_,_,_,e',_⟩:=x;cases e'
theorem QV:∀{vs:List Value},(∀v∈vs,∃n t,v=.int n t)->IntsAre vs (vs.map kQ)
 |[],_=>.nil
 |v::vs,h=>by obtain⟨n,t,rfl⟩:=h v dN;exact .cons n t (QV λx hx=>h x (bQ _ hx))
theorem abh{Q:Value->Shared->Prop}{a:Addr}{ep:Nat}{o:Obj}{es:Array (Int×Value)}{t:SetTable}(hh:A.handled=none)(g1:s.heap.get? a=some o)(g0:o.ExactSet)(g2:o.data=.set es ep t)(g3:t.fits es.size=true) (tk:gZ (!(ja w)) t)(sm:es.size<scanBound)(hi:∀e∈es.toList,∃n t,e.2=.int n t) (kk:∀h' tk d(D:Addr)(out:Array Value)(ns':List Int) c',(∀b o,s.heap.get? b=some o->h'.get? b=some o)->s.heap.objs.size<=D->h'.get? D=some (seqObj "list" out c')->IntsAre out.toList ns'->ns'.Perm (es.toList.map λe=>kQ e.2)->ns'.Pairwise (· <= ·)->Q (.ref D) {s with heap:=h',toks:=tk,drawn:=d}):wpAny (model P w) A (call (.builtin "sorted") [.ref a]) Q E s:=by
 refine PySem.Calls.call_function_entry kind_sorted plain_sorted entry_sorted (args_sorted1 _) ?_;unfold Builtin.«sorted»;refine ag (m:=checkCount "sorted" 1 1 _) (az ?_);refine ag (abg (A:=A.in1) (by simp[hh]) g1 g0 g2 g3 tk sm λh' tk d vs hz hk pm=>?_);have lz:vs.length<=sizeLine:=by rw[pm.length_eq,aK,gj,bg];unfold scanBound at sm;omega
 refine ag (wpAny_newList ?_ lz);have gD:(h'.push (seqObj "list" vs.toArray 0)).get? h'.objs.size=some (seqObj "list" vs.toArray 0):=cF _ rfl;have h1:IntsAre vs (vs.map kQ):=QV λv hv=>by obtain⟨e,he,rfl⟩:=d_.mp (pm.mem_iff.mp hv);exact hi e he
 have h2:(vs.map kQ).Perm (es.toList.map λe=>kQ e.2):=by
  have:=pm.map kQ
  rwa [eQ]at this
 refine ag (jb (nh slot_list_sort ⟨_,gD,rfl⟩ entry_list_sort (list_sort_treeAny gD h1 lz λout ns' a1 a2 a3=>⟨_,rfl,?_⟩) (args_list_sort _)));refine az ⟨_,rfl,?_⟩;obtain⟨c',gE⟩:=sortedHeap_at (vs:=vs) (out:=out) gD;refine kk _ tk d _ out ns' c' (λb o e=>?_) ?_ gE a1 (a2.trans h2) a3
 ·have e':=hk b o e;have lb:=ba e';rw[sortedHeap_old (bT lb) (by rw[eO];exact rH lb)];exact br _ e'
 ·exact hz
end
end L2
namespace L2
open PySem PySem.Spec PyProof.Rows
theorem QW(val:Nat->Int)(z:Int):∀n,(firstMet val n).any (· ==z)=true ↔ ∃i,i<n/\val i=z
 |0=>by simp[firstMet]
 |n+1=>by
  rw[firstMet_succ,step_any,zm,QW val z n,pZ];constructor
  ·rintro(⟨i,h1,h2⟩ |h)
   ·exact⟨i,by omega,h2⟩
   ·exact⟨n,by omega,h.symm⟩
  ·rintro⟨i,h1,h2⟩
   by_cases e:i=n
   ·exact .inr (by rw[<-h2,e])
   ·exact .inl ⟨i,by omega,h2⟩
def FG(P:Program)(w:World)(p:Addr)(ns:List Int):HO:=HO.ext λh=>g7 P w h p (λz=>(firstMet (λi=>ns.getD i 0) ns.length).any (· ==z)) (firstMet (λi=>ns.getD i 0) ns.length).length
section
variable{X:Cx}
theorem Inv.drw{pins:List (Addr×Obj)}{σ:List (Option V)}{H:Hp}{s:Shared}(I:Inv X pins σ H s)(d:Drawn):Inv X pins σ H {s with drawn:=d}:=⟨I.ok,I.os,I.bare,I.base,I.loc,I.cell,I.free,I.fg,I.pin,I.hok,I.len⟩
inductive QX(X:Cx)(vs:List V)(H:Hp)(Q:VK):Prop
 |mk (a:Addr) (ns:List Int):vs=[V.ref a]->aj X.K H a (ns.map V.int)->ns.length<=1000->(∀p o,H p=none->o=FG X.prog X.w p ns->Q (.ref p) (upd H p o))->QX X vs H Q
theorem abi(hc:X.calm=true):g_ X (.type "set") (QX X):=by
 intro pins s σ H vs us Q I r h;obtain⟨a,ns,rfl,hs,hn,q⟩:=h;obtain⟨its,rv,hl,_⟩:=I.list hs;rw[Vals.zY r];have hi:=rv.ints;have ez:its.toArray.size=ns.length:=by have:=rv.length;simp only[aK]at this;simp[this]
 refine aa5 (I.ok.hd hc) hl.isList hi (by rw[ez];unfold scanBound;omega) λh' tk hS hk=>?_
 rw[ez]at hS;refine⟨.ref _,upd H s.heap.objs.size (FG X.prog X.w s.heap.objs.size ns),I.laid (λb u e=>hk b u (ba e) e) (aI _) ⟨hS,?_,λh1 h2 x k=>x.keep k⟩,rfl,q _ _ (I.hok.fresh (aI _)) rfl⟩;obtain⟨o,_,_,_,h1,_⟩:=hS;exact⟨o,h1⟩
inductive QY(X:Cx)(vs:List V)(H:Hp)(Q:VK):Prop
 |mk (p:Addr) (ns:List Int) (o:HO):vs=[V.ref p]->H p=some o->o=FG X.prog X.w p ns->(∀(ms:List Int)(q:Addr),(∀z,z∈ms ↔ z∈ns)->ms.Pairwise (· < ·)->H q=none->Q (.ref q) (upd H q (.lst (ms.map V.int))))->QY X vs H Q
theorem abj(hc:X.calm=true):g_ X (.builtin "sorted") (QY X):=by
 intro pins s σ H vs us Q I r h;obtain⟨p,ns,_,rfl,hp,rfl,q⟩:=h;rw[Vals.zY r];obtain⟨⟨o,es,ep,t,g1,g2,g3,D⟩,_,_⟩:=I.hok p _ hp;refine abh (I.ok.hd hc) g1 g2 g3 D.fit D.tok D.sm (λe he=>?_) λh' tk d a out ms c' hk ha gD h1 h2 h3=>?_
 ·obtain⟨⟨k,hk,_⟩,_⟩:=D.el e he;obtain⟨t,e2⟩:=Value.isInt_shape hk;exact⟨_,_,e2⟩
 ·have nd:ms.Nodup:=h2.nodup_iff.mpr D.nd;have lt:ms.Pairwise (· < ·):=(h3.and nd).imp λ⟨a,b⟩=>by omega
  have lz:(ms.map V.int).length<=sizeLine:=by have sm:=D.sm;unfold scanBound at sm;rw[aK,h2.length_eq,aK,gj,bg];omega
  refine⟨.ref _,upd H a (.lst (ms.map V.int)),(I.laid (o:=.lst (ms.map V.int)) (t':=tk) hk ha ⟨lz,out.toList,c',HN h1,gD⟩).drw d,rfl,q ms a (λz=>?_) lt (I.hok.fresh ha)⟩;have m1:=D.mem z;rw[QW]at m1;constructor
  ·intro hz;obtain⟨e,he,rfl⟩:=d_.mp (h2.mem_iff.mp hz);obtain⟨⟨k,hk,_⟩,_⟩:=D.el e he;have ek:=FC hk;obtain⟨i,h5,h6⟩:=m1.mpr ⟨e,he,by rw[ek];exact hk⟩;rw[<-h6,fJ,aN h5];exact zl h5
  ·intro hz;obtain⟨i,h5,h6⟩:=List.getElem_of_mem hz;obtain⟨e,he,h7⟩:=m1.mp ⟨i,h5,by rw[fJ,aN h5];exact h6⟩;rw[<-FC h7];exact h2.mem_iff.mpr (d_.mpr ⟨e,he,rfl⟩)
end
end L2
namespace My
open PySem L2
theorem QZ:∀{l m:List Int},l.Pairwise (· < ·)->m.Pairwise (· < ·)->(∀z,z∈l ↔ z∈m)->l=m
 |[],[],_,_,_=>rfl
 |[],b::m,_,_,h=>absurd ((h b).mpr dN) (by simp)
 |a::l,[],_,_,h=>absurd ((h a).mp dN) (by simp)
 |a::l,b::m,h1,h2,h=>by
  obtain⟨p1,q1⟩:=RV.mp h1;obtain⟨p2,q2⟩:=RV.mp h2;have e:a=b:=by
   rcases a6.mp ((h a).mp dN)with e |e
   ·exact e
   ·rcases a6.mp ((h b).mpr dN)with e' |e'
    ·exact e'.symm
    ·have:=p2 a e;have:=p1 b e';omega
  subst e;rw[QZ q1 q2 λz=>?_];constructor
  ·intro hz;rcases a6.mp ((h z).mp (bQ _ hz))with e |e
   ·have:=p1 z hz;omega
   ·exact e
  ·intro hz;rcases a6.mp ((h z).mpr (bQ _ hz))with e |e
   ·have:=p2 z hz;omega
   ·exact e
theorem FH(c:Sz43.Code):(targets c).Pairwise (· < ·):=RW.filter _
theorem Q0{u:Nat}{i:Ins}:Sz43.leads u i=true ↔ tgt i=some u:=by cases i<;>simp[Sz43.leads,tgt]
theorem Q3{c:Sz43.Code}(h:∀x∈c,∀u,tgt x=some u->u<=c.length){u:Nat}:u∈targets c ↔ u∈c.filterMap tgt:=by
 rw[t9,mf,m_];constructor
 ·rintro⟨_,x,h1,h2⟩
  exact⟨x,h1,Q0.mp h2⟩
 ·rintro⟨x,h1,h2⟩
  exact⟨h x h1 u h2,x,h1,Q0.mpr h2⟩
theorem abk{c:Sz43.Code}{ms:List Int}(h:∀x∈c,∀u,tgt x=some u->u<=c.length)(hm:∀z,z∈ms ↔ z∈(c.filterMap tgt).map λ(u:Nat)=>(u:Int))(hp:ms.Pairwise (· < ·)):ms.map V.int=iw (targets c):=by
 have e:ms=(targets c).map λ(u:Nat)=>(u:Int):=by
  refine QZ hp ?_ λz=>(hm z).trans ?_
  ·rw[List.pairwise_map];exact(FH c).imp λh=>by omega
  ·rw[d_,d_];exact⟨λ⟨u,a,b⟩=>⟨u,(Q3 h).mpr a,b⟩,λ⟨u,a,b⟩=>⟨u,(Q3 h).mp a,b⟩⟩
 rw[e,eQ];rfl
theorem Q4{k:Key}:∀(kvs acc:List (Key×V)),(kvs.map (·.1)).Nodup->bV (jm acc kvs) k=(bV kvs k).or (bV acc k)
 |[],acc,_=>rfl
 |p::r,acc,h=>by
  obtain⟨h1,h2⟩:=uO.mp h;show bV (jm (dJ acc p.1 p.2) r) k=_;rw[Q4 r _ h2,T8];by_cases e:p.1=k
  ·rw[f_ e,ai e.symm];have:bV r k=none:=by
    unfold bV;rw[RK.mpr λq hq=>by rw[pZ];intro z;exact h1 (by show p.1∈_;rw[e,<-z];exact List.mem_map_of_mem hq)]
    rfl
   rw[this];rfl
  ·rw[gb e,ah λz=>e z.symm]
theorem abl{c:Sz43.Code}{i u:Nat}(h:(targets c)[i]? =some u):(targets c).findIdx? (λx=>x==u)=some i:=by obtain⟨h1,h2⟩:=bW.mp h;rw[me];refine⟨h1,by rw[h2];exact beq_self_eq_true u,λj hj=>?_⟩;have:=List.pairwise_iff_getElem.mp (FH c) j i (by omega) h1 hj;simp only[jX];omega
theorem abm{H:Hp}{c:Sz43.Code}{K:ax}{us:List Nat}{ys:List V}(h:Paired (λ(u:Nat) y=>∃p q,y=V.ref p/\H p=some (.tup [.int (u:Int),.ref q])/\H q=some (.tup (iw (lM c u)))) us ys):∃(ps:List Addr)(kvs:List (Key×V)),ys=ps.map V.ref/\Paired (λp kv=>a8 K H p [kV kv.1,kv.2]) ps kvs/\Paired (λ(u:Nat)(kv:Key×V)=>kv.1=Sum.inl (u:Int)/\∃q,kv.2=.ref q/\H q=some (.tup (iw (lM c u)))) us kvs:=by
 induction h with
 |nil=>exact⟨[],[],rfl,.nil,.nil⟩
 | @cons u _ _ _ r _ ih=>obtain⟨p,q,rfl,h1,h2⟩:=r;obtain⟨ps,kvs,rfl,h3,h4⟩:=ih;exact⟨p::ps,(Sum.inl (u:Int),.ref q)::kvs,rfl,.cons (a8.of h1) h3,.cons ⟨rfl,q,rfl,h2⟩ h4⟩
theorem abn{H:Hp}{c:Sz43.Code}{us:List Nat}{kvs:List (Key×V)}(h:Paired (λ(u:Nat)(kv:Key×V)=>kv.1=Sum.inl (u:Int)/\∃q,kv.2=.ref q/\H q=some (.tup (iw (lM c u)))) us kvs):kvs.map (·.1)=us.map (λ(u:Nat)=>(Sum.inl (u:Int):Key))/\∀u:Nat,(∃q,u∈us/\bV kvs (Sum.inl (u:Int))=some (.ref q)/\H q=some (.tup (iw (lM c u))))\/(u ∉ us/\bV kvs (Sum.inl (u:Int))=none):=by
 induction h with
 |nil=>exact⟨rfl,λu=>.inr ⟨by simp,rfl⟩⟩
 | @cons v kv us kvs r _ ih=>
  obtain⟨e1,q,e2,hq⟩:=r;refine⟨by rw[bt,bt,ih.1,e1],λu=>?_⟩;by_cases e:v=u
  ·subst e;exact .inl ⟨q,dN,by rw[f_ e1,e2],hq⟩
  ·have ne:¬kv.1=Sum.inl (u:Int):=by
    rw[e1];intro z;have:=Sum.inl.inj z;omega
   rw[gb ne];rcases ih.2 u with ⟨q',a,b,d⟩ |⟨a,b⟩
   ·exact .inl ⟨q',bQ _ a,b,d⟩
   ·exact .inr ⟨λz=>(a6.mp z).elim (λy=>e y.symm) a,b⟩
theorem abo{us:List Nat}{ys:List V}(h:Paired (λ(u:Nat) y=>y=V.int (u:Int)) us ys):ys=(us.map λ(u:Nat)=>(u:Int)).map V.int:=by
 induction h with
 |nil=>rfl
 |cons r _ ih=>rw[r,ih];rfl
section
variable{P:Program}{w:World}{K:ax}{mg:Str->Option Value}{base:Heap}{t:Ad}
theorem Q5:aQ ["instructions","places","instruction","number","place"] ["instructions"] (aC wk):=aS
theorem abp(T:Txt K mg t):aG P w K mg base aR 3 t.oE t.oG ["instructions"] (rj t):=by
 refine T.xu.ok Q5 (λvs H Q E h=>?_) (λ_ A _ s H vs Q E hr h=>?_)
 ·obtain⟨_,_,_,rfl,_⟩:=h;rfl
 ·obtain⟨li,c,n,rfl,hL,G,h256,k⟩:=h;have nd:=Q5.nd;have hr1:=hr.mono (show 1<=2 by decide);refine⟨_,aq (aZ (i:=1) nd rfl (Or.inl rfl) (cp (abj rfl) rfl T.LO rfl (aa (mw (abi rfl) rfl T.LQ rfl (aa
    (ia (tt:=tB (Gp (nQ K (dS 2) "place"))) (te:=nQ K (dS 2) "place") (own:=[("instruction",2)]) rfl nd (gC (pv 0)) ?b1 (λs H C cl fp=>bD (i:=2) nd rfl (Or.inl rfl)) (λs H C cl fp=>HW (cR (mm (aE (pv 2) rfl)))) (λs H C cl fp=>aE (pv 2) rfl)) af)) af)))
   (ak (aB (mw (Uw rfl) rfl T.LP rfl (aa (ia (g:=jG K 2 (eC (c6 3) (eC (c6 4) kb))) (own:=[("number",3),("place",4)]) rfl nd (An rfl T.xQ (aa (pv 1) af)) ?b2 (λs H C cl fp=>mo rfl (fL (bD (i:=3) nd rfl (Or.inl rfl)) (fL (bD (i:=4) nd rfl (Or.inl rfl)) mn))) (λs H C cl fp=>eF) (λs H C cl fp=>fM (aa (pv 4) (aa (aP (fC T) hr1 rfl T.eZ T.dX.kp (fA T) .nil aH (aa (aaU (pv 3)) af)) af)))) af)))),?_⟩
  ·show c9 ["instructions","places","instruction","number","place"] (aC wk) _ _;exact⟨rfl,by decide+kernel,by decide+kernel,by decide+kernel,by decide+kernel⟩
  ·show c9 ["instructions","places","instruction","number","place"] (aC wk) _ _;exact⟨rfl,by decide+kernel,by decide+kernel,by decide+kernel,by decide+kernel⟩
  ·obtain⟨is,hli,cQ⟩:=id hL;have ln:is.length=c.length:=bC cQ;have cl:=T.cS;have tg:∀x∈c,∀u,tgt x=some u->u<=c.length:=λx hx u hu=>(G x hx).tg u hu
   refine⟨_,rfl,li,rfl,⟨_,aj.of hli⟩,λD1 Fi=>?_⟩;refine tM (xs:=is.map V.ref) (λi=>((c.map tgt)[i]?.bind id).isSome) (λi y H=>∀u,(c.map tgt)[i]? =some (some u)->y=V.int (u:Int)) Fi (by rw[aK,bg];omega) (λH2 s2=>qB (aj.of (s2 _ _ hli))) (λi y H H' r _=>r) (λx=>rfl) (λi y H2 hi s2 A B hA hB=>?_) λys H2 s2 hL2 pr=>?_
   ·rw[bF]at hi;obtain⟨a,hai,rfl⟩:=cK.mp hi;have il:i<c.length:=by have:=(bW.mp hai).1;omega
    have hc:c[i]? =some c[i]:=aN il;obtain⟨dx,u,op,ha,hu,hop⟩:=(cE (F:=λa i=>IA t H a i) cQ hai hc).nl s2.nl;rw[bF,hc]at hA hB;refine⟨_,rfl,a,_,dx,_,_,rfl,ha,cl,T.fv,gN,_,rfl,?_⟩;have ep:=uw c[i];cases hq:tgt c[i]with
    |none=>rw[hq]at ep;rw[ep];refine aA (hB (by rw[ma,hq];rfl) _ (ae.refl _))
    |some v=>rw[hq]at ep;rw[ep];refine aD ?_;refine⟨_,rfl,a,_,dx,_,_,rfl,ha,cl,T.fv,gN,?_⟩;rw[ep];exact hA (by rw[ma,hq];rfl) _ _ (ae.refl _) λu' d7=>by rw[ma,hq]at d7;cases d7;rfl
   ·have pr:Paired (λ(i:Nat) y=>∀u:Nat,(c.map tgt)[i]? =some (some u)->y=V.int (u:Int)) ((List.range (c.map tgt).length).filter λi=>((c.map tgt)[i]?.bind id).isSome) ys:=by
     rw[aK,ln]at pr;rw[aK];exact pr
    have FI:=Pq (G:=λ(u:Nat) y=>y=V.int (u:Int)) pr;have e:(c.map tgt).filterMap id=c.filterMap tgt:=by rw[List.filterMap_map];rfl
    rw[e]at FI;have ey:=abo FI;clear pr FI e;subst ey;have lf:(c.filterMap tgt).length<=256:=bE (List.length_filterMap_le _ _) h256;refine⟨D1,_,rfl,aj.of hL2,by rw[aK];omega,λp so hp hso=>?_⟩;refine⟨p,_,so,rfl,aw,hso,λms q hm Fw hq=>?_⟩;have s3:ae H (upd H2 p so):=s2.trans (ae.new hp);obtain⟨H3,y1⟩:∃H3,H3=upd (upd H2 p so) q (.lst (ms.map V.int)):=⟨_,rfl⟩;have s4:ae H H3:=by rw[y1];exact s3.trans (ae.new hq)
    have qT:H3 q=some (.lst (iw (targets c))):=by rw[y1,<-abk tg hm Fw];exact aw
    rw[<-y1];clear y1 s3;have tl:(targets c).length<=257:=by unfold targets;refine bE (u5 _ _) ?_;rw[gr];omega
    refine⟨_,rfl,q,_,rfl,aj.of qT,λD2 tJ=>?_⟩;refine D6 (λ_=>true) (λi y H=>∀u:Nat,(targets c)[i]? =some u->∃p q,y=V.ref p/\H p=some (.tup [.int (u:Int),.ref q])/\H q=some (.tup (iw (lM c u)))) tJ (by rw[bG,bg];omega) (aj.of qT) (λi y H H' r k u hu=>?_) (λx y=>rfl) (λi y H4 hi s5 A B hA hB=>?_) λys H4 s5 Fm pr=>?_
    ·obtain⟨p,q,e,h1,h2⟩:=r u hu;exact⟨p,q,e,k _ _ h1 (by intro z y;cases y),k _ _ h2 (by intro z y;cases y)⟩
    ·obtain⟨u,hu,rfl⟩:∃u:Nat,(targets c)[i]? =some u/\y=.int (u:Int):=by
      unfold iw at hi;rw[bF]at hi;obtain⟨u,h1,h2⟩:=cK.mp hi;exact⟨u,h1,h2.symm⟩
     refine aD (B:=B H4) ?_;have il:i<257:=by have:=(bW.mp hu).1;omega
     have ew:(Str.ofString "l" ++Str.ofString (toString (i:Int))).cps.toList=lM c u:=by rw[aaT,Fo];unfold lM;rw[abl hu];rfl
     have ez:(Str.ofString "l" ++Str.ofString (toString (i:Int))).cps.size<=21:=by rw[<-gj,ew];exact Fv h256 u
     refine⟨_,rfl,_,rfl,_,rfl,?_,?_,_,rfl,?_,λp H5 s6 hp hw=>?_⟩
     ·show(i:Int).natAbs.log2<1920;by_cases h0:i=0
      ·subst h0
       decide
      ·exact(Nat.log2_lt (by omega)).mpr (dM (show(i:Int).natAbs<2^9 by omega) (Nat.pow_le_pow_right (by decide) (by decide)))
     ·show(Str.ofString "l" ++Str.ofString (toString (i:Int))).cps.size<=1000;omega
     ·omega
     ·rw[ew]at hw;exact⟨(by show 2<=sizeLine;decide),λb hb=>hA rfl _ _ (s6.trans (ae.new hb)) λu' d7=>by rw[hu]at d7;cases d7;exact⟨b,p,rfl,aw,ae.new hb _ _ hw⟩⟩
    ·rw[kH,bG]at pr;obtain⟨ps,kvs,rfl,h1,h2⟩:=abm (K:=K) (kI pr);refine⟨D2,ps,kvs,rfl,aj.of Fm,h1,λp hp=>k p _ ((s4.trans s5).trans (ae.new hp)) ⟨_,aw,λu=>?_⟩⟩;obtain⟨e1,e2⟩:=abn h2;have nk:(kvs.map (·.1)).Nodup:=by
      rw[e1,List.Nodup,List.pairwise_map];exact(FH c).imp λh z=>by have:=Sum.inl.inj z;omega
     rw[Q4 kvs [] nk];rcases e2 u with ⟨q',a,b,d⟩ |⟨a,b⟩
     ·exact .inl ⟨q',a,by rw[b];rfl,ae.new hp _ _ d⟩
     ·exact .inr ⟨a,by rw[b];rfl⟩
end
end My
namespace My
open PySem PySem.Spec PyProof.Rows L2
theorem abq{P:Program}{w:World}{K:ax}{mg mb:Str->Option Value}{k:Nat}{fa a:Addr}{fd:FuncData}{ps:List Str}{sp:Sp}{s₁:Shared}{vs:List Value}{ns out:List Int}{z:Int}{tk:Tok} (KX:K.In s₁.heap)(hns:s₁.heap.Ns mainGlobals mg)(hb:s₁.heap.Ns builtinsNs mb)(hbb:∀x:Str,x≠ "__name__" ->mb x=bootBuiltins x)(hlim:s₁.heap.NoLimit)(hg:s₁.gens= #[]) (ha:s₁.heap.get? a=some {cls:=.type "list",data:=.seq vs.toArray})(hi:IntsAre vs ns)(hl:ns.length<=100000)(hr:cA k callerA) (F:∀base:Heap,K.In base->base.Ns mainGlobals mg->aG P w K mg base aR k fa fd ps sp)(hbind:∀s:Shared,K.In s.heap->BindsTo s fd ⟨[.int z tk,.ref a],[]⟩ (ps.zip [.int z tk,.ref a])) (hsp:∀H:Hp,jL K H a ns->sp [.int z,.ref a] H (λv H'=>∃q,v=.ref q/\H' q=some (.lst (out.map V.int))) λ_ _ _=>False):codeAny (model P w) callerA (.call (.ref fa) ⟨[.int z tk,.ref a],[]⟩) (λr s'=>(∃(q:Addr)(its:List Value)(n:Nat),r=.ok (.ret (.ref q))/\s'.heap.get? q=some {cls:=.type "list",data:=.seq its.toArray n}/\Vals (out.map V.int) its)/\OldK s₁.heap s'.heap/\s'.os=s₁.os/\AllBare s'.gens) s₁:=by
 have rv:=ID hi;have lenV:=hi.length;have core:∀H:Hp,UO H->jL K H a ns->cw P w H s₁.heap->(∀b,H b≠none->b=a)->(H a≠none->K.lookup a=none)->
   codeAny (model P w) callerA (.call (.ref fa) ⟨[.int z tk,.ref a],[]⟩) (λr s'=>(∃(q:Addr)(its:List Value)(n:Nat),r=.ok (.ret (.ref q))/\s'.heap.get? q=some {cls:=.type "list",data:=.seq its.toArray n}/\Vals (out.map V.int) its)/\OldK s₁.heap s'.heap/\s'.os=s₁.os/\AllBare s'.gens) s₁:=by
  intro H hO hS hok hA hK;have base_of:∀{b:Addr}{o:Obj},s₁.heap.get? b=some o->H b=none->(kY s₁.heap H).get? b=some o:=λe n=>Sh e n
  have noA:∀{b:Addr}{o:Obj}{es:Array DictEntry}{ep:Nat},s₁.heap.get? b=some o->o.data=.dict es ep->H b=none:=λ{b o es ep} e d=>by
   cases q:H b with
   |none=>rfl
   |some u=>have e':b=a:=hA b (by rw[q];simp);subst e';rw[ha]at e;cases e;have d':Data.seq vs.toArray _=Data.dict es ep:=d;cases d'
  have nsK:∀{b:Addr}{m:Str->Option Value},s₁.heap.Ns b m->(kY s₁.heap H).Ns b m:=λ{b m} ⟨o,es,ep,e,d,r⟩=>⟨o,es,ep,base_of e (noA e d),d,r⟩
  have hKb:K.In (kY s₁.heap H):=λb o e=>base_of (KX b o e) (by
   cases q:H b with
   |none=>rfl
   |some u=>have e':b=a:=hA b (by rw[q];simp);subst e';rw[hK (by rw[q];simp)]at e;cases e)
  have hM:Mod K mg (kY s₁.heap H):=⟨hKb,nsK hns,⟨mb,nsK hb,hbb⟩,let ⟨mc,h1,h2⟩:=hlim;⟨mc,nsK h1,h2⟩⟩;have e0:nR P w K mg (kY s₁.heap H) callerA [] s₁ H:=⟨rfl,hM,λb o e=>Si e,nc (Sg _ _),trivial,λb hb=>absurd (show b∈([]:List Addr) from hb) (by simp),hok,.of_eq hg⟩;refine ng ((F _ hKb (nsK hns)).run callerA [] s₁ H ⟨[.int z tk,.ref a],[]⟩ [.int z tk,.ref a] [.int z,.ref a] _ _ hr e0 (hbind s₁ KX) (.cons ⟨tk,rfl⟩ (.cons rfl .nil)) (hsp H hS)) λr s' h=>?_
  cases r with
  |error e=>exact False.elim h
  |ok fl=>
   cases fl with
   |next=>exact False.elim h
   |brk=>exact False.elim h
   |cont=>exact False.elim h
   |ret u=>
    obtain⟨v,H',os,bare,un,Q6,r',q,eq,hq⟩:=h;subst eq;obtain rfl:u=Value.ref q:=r';obtain⟨_,its,n,D7,hget⟩:=Q6 q _ hq;refine⟨⟨q,its,n,rfl,hget,D7⟩,OldK.of_keep λb o e=>?_,os,bare⟩;cases q:H b with
    |none=>exact un.keep b o e q (by intro z;exact absurd (show b∈([]:List Addr) from z) (by simp)) (by simp)
    |some u=>
     rcases hO b with z |⟨ob,xs,z⟩
     ·rw[q]at z;cases z
     ·have z2:=un.jf b ob _ z;obtain⟨e1,_⟩:=hok b _ z;obtain⟨e2,_⟩:=Q6 b _ z2;rw[e]at e1;cases e1;exact e2
 cases hk:K.lookup a with
 |some o=>have e:=KX a o hk;rw[ha]at e;cases e;exact core (λ_=>none) (λ_=>.inl rfl) ⟨hl,.inr ⟨vs,hk,rv⟩⟩ (λb u z=>by have z':(none:Option HO)=some u:=z;cases z') (λb z=>absurd rfl z) λz=>absurd rfl z
 |none=>
  refine core (λb=>if b=a then some (.j9 {cls:=.type "list",data:=.seq vs.toArray} (.lst (ns.map V.int)))else none) (λb=>?_) ⟨hl,.inl (.inr ⟨{cls:=.type "list",data:=.seq vs.toArray},ai rfl⟩)⟩ (λb u z=>?_) (λb z=>?_) λ_=>hk
  ·by_cases hb:b=a
   ·exact .inr ⟨_,_,ai hb⟩
   ·exact .inl (ah hb)
  ·by_cases hb:b=a
   ·have z':=(ai hb).symm.trans z;cases z';subst hb;exact⟨ha,by rw[aK,bg];omega,vs,_,rv,ha⟩
   ·have z':=(ah hb).symm.trans z;cases z'
  ·by_cases hb:b=a
   ·exact hb
   ·exact absurd (ah hb) z
theorem Q7{R:PySem.W.WRecords}{cl:Str->Option Addr}{h:Heap}:∀{out:List Int}{its:List Value},Vals (out.map V.int) its->∃as,PySem.W.ReadsAllW R cl h its (out.map PySem.W.WData.int) as
 |[],_,.nil=>⟨_,.nil⟩
 |i::r,_,.cons ⟨t,e⟩ q=>by obtain⟨as,h'⟩:=Q7 (R:=R) (cl:=cl) (h:=h) q;subst e;exact⟨_,.cons (.int i t) h'⟩
end My
namespace My
open PySem PySem.Spec PyProof.Rows L2
def df(ks:List Int):Int:=reduceHash (Builtin.Tuple.tupleHashOf (ks.map hashInt))
theorem hash_eq(P:Program)(w:World)(ks:List Int):(tupleKind (bX P w)).hash (ks.map Sum.inl)=df ks:=by unfold df;show reduceHash (Builtin.Tuple.tupleHashOf ((ks.map Sum.inl).map (bX P w).hash))=_;rw[eQ];rfl
def iu(K:ax)(a:Addr)(ks:List Int):Prop:=∀(P:Program)(w:World)(h:Heap),K.In h->(tupleKind (bX P w)).is h (ks.map Sum.inl) a
theorem abr{K:ax}{a:Addr}{o:Obj}{n:Nat}{k:Int}{t:Tok}(l:K.lookup a=some o)(d:o.cls=.type "tuple" /\o.data=.seq #[.int k t] n):iu K a [k]:=λP w h X=>⟨o,_,n,X _ _ l,d.1,d.2,.cons (vf k t) .nil⟩
theorem abt{K:ax}{a:Addr}{o:Obj}{n:Nat}{k k':Int}{t t':Tok}(l:K.lookup a=some o)(d:o.cls=.type "tuple" /\o.data=.seq #[.int k t,.int k' t'] n):iu K a [k,k']:=λP w h X=>⟨o,_,n,X _ _ l,d.1,d.2,.cons (vf k t) (.cons (vf k' t') .nil)⟩
theorem abu{P:Program}{w:World}{K:ax}{t:Ad}{oO:Obj}{epO:Nat}{Q8:Int}{Q9:Int}{Q_:Int}{Ra:Int}{Rb:Int}{Rc:Int}{Rf:Int}{Rg:Int}{Rh:Int}{Ri:Int}{Rj:Int}{Rk:Int}(l_O:K.lookup t.oF=some oO)(d_O:oO.ExactDict/\oO.data=.dict #[⟨Q8,.ref t.wB,.ref t.og⟩,⟨Q9,.ref t.wC,.ref t.oh⟩,⟨Q_,.ref t.wD,.ref t.oj⟩,⟨Ra,.ref t.wF,.ref t.om⟩,⟨Rb,.ref t.wG,.ref t.oq⟩,⟨Rc,.ref t.wH,.ref t.ou⟩,⟨Rf,.ref t.wI,.ref t.ow⟩,⟨Rg,.ref t.wJ,.ref t.ox⟩,⟨Rh,.ref t.wK,.ref t.oy⟩,⟨Ri,.ref t.wL,.ref t.oz⟩,⟨Rj,.ref t.wM,.ref t.oA⟩,⟨Rk,.ref t.wN,.ref t.oC⟩] epO)(n_O:(t.oF==sysModules)=false) (abv:Q8=df [43])(abw:iu K t.wB [43])(abx:Q9=df [45])(aby:iu K t.wC [45])(abz:Q_=df [42])(abA:iu K t.wD [42])(abB:Ra=df [47])(abC:iu K t.wF [47])(abD:Rb=df [37])(abE:iu K t.wG [37])(abF:Rc=df [38])(abG:iu K t.wH [38])(abH:Rf=df [124])(abI:iu K t.wI [124])(abJ:Rg=df [94])(abK:iu K t.wJ [94])(abL:Rh=df [60,60])(abM:iu K t.wK [60,60])(abN:Ri=df [62,62])(abO:iu K t.wL [62,62])(abP:Rj=df [60])(abQ:iu K t.wM [60])(abR:Rk=df [61,61])(abS:iu K t.wN [61,61]):y2 P w K t.oF (oH t):=by
 refine⟨λh X=>⟨oO,_,epO,X _ _ l_O,d_O.1,d_O.2,?_,?_,?_⟩,n_O⟩
 ·subst abv abx abz abB abD abF abH abJ abL abN abP abR;simp only[oH,bt,pP,entryOfKey];rw[show(tupleKind (bX P w)).hash [Sum.inl 43]=df [43] from hash_eq P w [43],show(tupleKind (bX P w)).hash [Sum.inl 45]=df [45] from hash_eq P w [45],show(tupleKind (bX P w)).hash [Sum.inl 42]=df [42] from hash_eq P w [42],show(tupleKind (bX P w)).hash [Sum.inl 47]=df [47] from hash_eq P w [47],show(tupleKind (bX P w)).hash [Sum.inl 37]=df [37] from hash_eq P w [37],show(tupleKind (bX P w)).hash [Sum.inl 38]=df [38] from hash_eq P w [38],show(tupleKind (bX P w)).hash [Sum.inl 124]=df [124] from hash_eq P w [124],show(tupleKind (bX P w)).hash [Sum.inl 94]=df [94] from hash_eq P w [94],show(tupleKind (bX P w)).hash [Sum.inl 60,Sum.inl 60]=df [60,60] from hash_eq P w [60,60],show(tupleKind (bX P w)).hash [Sum.inl 62,Sum.inl 62]=df [62,62] from hash_eq P w [62,62],show(tupleKind (bX P w)).hash [Sum.inl 60]=df [60] from hash_eq P w [60],show(tupleKind (bX P w)).hash [Sum.inl 61,Sum.inl 61]=df [61,61] from hash_eq P w [61,61]]
 ·intro x hx;unfold oH at hx;simp only[a6,dB,dC]at hx;rcases hx with rfl |rfl |rfl |rfl |rfl |rfl |rfl |rfl |rfl |rfl |rfl |rfl
  ·exact abw P w h X
  ·exact aby P w h X
  ·exact abA P w h X
  ·exact abC P w h X
  ·exact abE P w h X
  ·exact abG P w h X
  ·exact abI P w h X
  ·exact abK P w h X
  ·exact abM P w h X
  ·exact abO P w h X
  ·exact abQ P w h X
  ·exact abS P w h X
 ·show([[Sum.inl 43],[Sum.inl 45],[Sum.inl 42],[Sum.inl 47],[Sum.inl 37],[Sum.inl 38],[Sum.inl 124],[Sum.inl 94],[Sum.inl 60,Sum.inl 60],[Sum.inl 62,Sum.inl 62],[Sum.inl 60],[Sum.inl 61,Sum.inl 61]]:List (List Key)).Nodup
  decide
theorem abT{K:ax}{C N fI:Addr}{nm q:Str}{bs sub:List Value}{sn:List Str}{ab:Bool}{col:Option Bool}{dd:Option Addr}{k0 k1 k2 k3 k5:Option Value}{oc:Value}{od:Option Addr}{es:Array DictEntry}{ep:Nat}{sl:Array (Option Value)} (c:K.lookup C=some (excClassObj nm q C N bs [.type "Exception",.type "BaseException",.type "object"] true sn sub ab col dd k0 k1 k2 k3 k5 "Exception.__new__"))(l:K.lookup N=some ⟨oc,od,.dict es ep,sl⟩) (al:(es.toList.all λe=>match e.key with | .str _ _=>true |_=>false)=true)(i:nsIn K N "__init__"=some (some (.ref fI)))(sa:nsIn K N "__setattr__"=some none)(ln:nsIn K N "line"=some none)(ga:nsIn K N "__getattribute__"=some none)(gt:nsIn K N "__getattr__"=some none) (fn:isFn K (.ref fI)=true)(kp:keepIn K (.ref C)=true):XC K C N fI:=⟨⟨_,_,_,_,_,_,_,_,_,_,_,_,_,c⟩,(by unfold PySem.W.nsOkIn;rw[l];show(es.all λe=>match e.key with | .str _ _=>true |_=>false)=true;rw[<-Array.all_toList];exact al),i,sa,ln,ga,gt,fn,kp⟩
theorem sq3{K:ax}{a:Addr}{o:Obj}{n:Nat}{x y z:Int}{t u v:Tok}(l:K.lookup a=some o)(d:o.cls=.type "tuple" /\o.data=.seq #[.int x t,.int y u,.int z v] n)(H:Hp):a8 K H a [.int x,.int y,.int z]:=.inr ⟨o,_,n,l,d.1,d.2,(by show 3<=sizeLine;decide),.cons ⟨_,rfl⟩ (.cons ⟨_,rfl⟩ (.cons ⟨_,rfl⟩ .nil))⟩
theorem sq6{K:ax}{a:Addr}{o:Obj}{n:Nat}{x y z x' y' z':Str}{t u v t' u' v':Tok}(l:K.lookup a=some o)(d:o.cls=.type "tuple" /\o.data=.seq #[.str x t,.str y u,.str z v,.str x' t',.str y' u',.str z' v'] n)(H:Hp):a8 K H a [.str x,.str y,.str z,.str x',.str y',.str z']:=.inr ⟨o,_,n,l,d.1,d.2,(by show 6<=sizeLine;decide),.cons ⟨_,rfl⟩ (.cons ⟨_,rfl⟩ (.cons ⟨_,rfl⟩ (.cons ⟨_,rfl⟩ (.cons ⟨_,rfl⟩ (.cons ⟨_,rfl⟩ .nil)))))⟩
theorem int_mk{K:ax}{h:Heap}{mg:Str->Option Value}{x:Str}{n:Int}{tk:Tok}(X:K.In h)(G:h.Ns mainGlobals mg)(e:nsIn K mainGlobals x=some (some (.int n tk))):∃tk,mg x=some (.int n tk):=⟨tk,PySem.W.mg_of X G e⟩
theorem abU{K:ax}{f a:Addr}{st:Stmt}{x q:Str}{oc kV doc pm cdv ct:Value}{od an:Option Addr}{osl:Array (Option Value)}(l:K.lookup f=some ⟨oc,od,.func (fnOf x q (iR st) (gK st) (aC st) (.ref a) kV doc pm an cdv ct),osl⟩)(c:codeIn K cdv q=true):∃(oc:Value)(od:Option Addr)(e_ doc' pm':Value)(an':Option Addr)(cdv' ct':Value)(osl:Array (Option Value)),fnOf x q (iR st) (gK st) (aC st) (.ref a) kV doc pm an cdv ct=fnOf x q (iR st) (gK st) (aC st) (.ref a) e_ doc' pm' an' cdv' ct'/\K.lookup f=some ⟨oc,od,.func (fnOf x q (iR st) (gK st) (aC st) (.ref a) kV doc pm an cdv ct),osl⟩/\codeIn K cdv' q=true:=⟨_,_,_,_,_,_,_,_,_,rfl,l,c⟩
theorem abV{K:ax}{a:Addr}{o:Obj}{n:Nat}{xs:Array Value}(l:K.lookup a=some o)(e:o.data=.seq xs n):∃(o:Obj)(n:Nat),K.lookup a=some o/\o.data=.seq xs n:=⟨o,n,l,e⟩
end My
namespace My
open PySem PySem.W PyProof.Rows L2
abbrev R0:=PySem.Challenge.rw_sameruns_s02_bt_better
theorem fin{w:World}{s₀ s₁:Shared}{mg mb:Str->Option Value}{K:ax}{t:Ad}{z:Int}{ns:List Int}{vals:List Value}(KX:K.In s₁.heap)(g:s₁.heap.Ns mainGlobals mg)(b:s₁.heap.Ns builtinsNs mb)(bb:∀x:Str,x≠ "__name__" ->mb x=bootBuiltins x)(nl:s₁.heap.NoLimit)(hg:s₁.gens= #[]) (T:Txt K mg t)(said:R0.wellSaid=true)(hw:Codec.withinAll R0.args (z,ns,())=true)(hwl:WellAll w.params s₁.heap vals [WData.int z,WData.list (ns.map WData.int)]):wpAny (model R0.prog w) callerA (call (Value.ref t.sU) vals) (λv s'=>GoodWG R0.claim (classAt s₀.heap) (ExcName.means s₀.heap) (Codec.encAll R0.args (z,ns,())) s₁ (Except.ok (Flow.ret v)) s') (λe s'=>GoodWG R0.claim (classAt s₀.heap) (ExcName.means s₀.heap) (Codec.encAll R0.args (z,ns,())) s₁ (Except.error e) s') s₁:=by
 cases hwl with
 |cons w1 w2=>
  cases w2 with
  |cons w3 w4=>
   cases w4;cases w1 with
   |int _ tk=>
    cases w3 with
    | @list a vs _ ho hall=>
     have hi:=Att.UN ns _ hall;have hw':(Codec.inInt (Int.negSucc 2147483647) (Int.ofNat 2147483647) z&&((Codec.inLen 0 65536 ns&&ns.all (Codec.inInt (Int.ofNat 0) (Int.ofNat 255)))&&true))=true:=hw;rw[Gb,fe,fe]at hw';obtain⟨_,hlen,abW⟩:=hw';have hl:ns.length<=65536:=(Codec.inNat_iff.mp hlen).2;have h0:∀x∈ns,0<=x:=λx hx=>(Codec.inInt_iff.mp (Gc.mp abW x hx)).1
     have en:(ns.map Int.toNat).map (λ(c:Nat)=>(c:Int))=ns:=by rw[eQ];exact(u7 λc hc=>by show((c.toNat:Nat):Int)=id c;have:=h0 c hc;simp;omega).trans (Gh ns)
     refine rC (ng (abq (k:=11) (out:=PySz43.bt_better z ns) KX g b bb nl hg ho hi (by omega) ⟨rfl,by decide,by decide⟩ (λbase _ _=>aaS T (abp T)) (λs kx=>WC T s [.int z tk,.ref a] kx rfl) λH hT=>⟨z,a,ns.map Int.toNat,rfl,by rw[en];exact hT,by rw[aK];exact hl,λq H' e=>⟨q,rfl,by rw[en]at e;exact e⟩⟩) λr s' hq=>?_);obtain⟨⟨q,its,n,rfl,hget,hv⟩,h2,h3,h4⟩:=hq;obtain⟨as',hr⟩:=Q7 (R:=[]) (cl:=classAt s₀.heap) (h:=s'.heap) hv;exact⟨.inl ⟨.ref q,.list ((PySz43.bt_better z ns).map .int),q::as',rfl,λ_=>rfl,.list hget rfl rfl (by rw[List.toList_toArray];exact hr),(OpenSpec.post_iff said hw _ _).mpr rfl,λh=>by cases h⟩,h2,h3,h4⟩
end My
open PySem PySem.W PyProof.Rows
structure PySem.W.Fast:Prop where (tw16119922283999557953 tw5519383014522297358 tw13005342959888693909 tw17508145151428542997 tw11431418269874740454 tw5283785458337472609 tw14500862658962363838 tw7510894229560672530 tw17638761989080032607 tw16411916238145523957 tw14474952575305758060 tw17893631335105287184 tw11212177422772368783 tw13403282686986491640 tw12424715584715451389 tw8417209838519690587 tw6262139145871011174 tw15165495017855792646 tw15989025092783528877 tw17069695850240929130 tw12454136414891375338 tw3341458472028326785 tw14319426065586309657 tw17047834277518288673 tw3588969226251550317 tw8960816076593989878 tw3175892322903943866 tw16131048752952520059 tw8275931833381766908 tw10088917030239904694 tw13314757676701518236 tw7679156105030701338 tw10846671732843057116 tw6826777467543196643 tw14417891935499673710 tw7031285766454086193 tw9875322118211510641 tw4727854524738448422 tw5094005510858047094 tw16693503293503349352 tw18244551207881448940 tw15469539320784878506 tw17342901537779136142 tw213842555616215752 tw12224807391094455558 tw8008755362774970940 tw17135117472222405629 tw11164694165826651413 tw682733347481312216 tw13291941340328794197 tw6355898052872592366 tw542337290954469776 tw10711112737161292347 tw2057283155156507365 tw13435801330010194551 tw17264639308138322242 tw16356763289760670407 tw7812108439065992771 tw4560375438828955510 tw11506724831876706201 tw5200771340381376045 tw6503839376286760460 tw16564413005599867173 tw438608421578845777 tw7984334548410895812 tw17837125335740881366 tw6955604394291976082 tw17972620193066804564 tw7662493310499772263 tw6383091068335832219 tw10500241796228413292 tw11167798310471409679 tw9868545447587059558 tw13144479921343740412 tw11550373688361979576 tw8280876289432724687 tw2075316451161156233 tw5753915444993352796 tw15827150788558904171 tw3228525739400181274 tw4752993395688145632 tw13513788263707794195 tw1231223392877885507 tw7504166678014032666 tw5932779376511861519 tw5939091379268492315 tw376859913372438354 tw2067484107104476541 tw6764282282888802332 tw16838720329952466049 tw3194567792710247182 tw12825647118868912076 tw4903772177527691698 tw12525728606855787158 tw13721356463437506398 tw14448621414000484010 tw8798792676489002925 tw17791373983617797131 tw17804395661092169864 tw402652443053042514 tw18024826121610930106 tw6417980369902430243 tw16442902562255868049 tw3045739148956922808 tw10206865204262999656 tw13521366532533358664 tw8915440994439391535 tw3151320030176522418 tw18013865924059800554 tw3329266449825572014 tw10474724485392805811 tw7241446794156090120 tw9891315303721494853 tw7866982527990730115 tw9324001825509555421 tw7892609541702590989 tw17407406934238778590 tw15196524963157197402 tw16725479811751945905 tw1339739437246277747 tw918443307732445239 tw2586659016835447468 tw3446892656692958317 tw2233609287185576218 tw3395916842378428538 tw3869022395004370811 tw8649603164065895680 tw14628919917444336002 tw5660683258992093676 tw10639468840524212720 tw7190281971758538647 tw17421096663742743964 tw17937086701500470121 tw8194570705310998030 tw15733906112300075353 tw580049440191088756 tw13970276931698686007 tw8820093154898256939 tw4480268748110934351 tw1057905555082257569 tw13439570145825323006 tw2472667153597769889 tw11035711473257478145 tw10841588555743365886 tw9993870222924352046 tw6151607366303100145 tw3316250429516071916 tw9049150544776371589 tw270025641744027023 tw12309114207191713749 tw11196028658906546471 tw5680252022535029884 tw6243298663244115738 tw12546505161192468301 tw1514888537131133986 tw5549140679955419445 tw15334169146807444983 tw8094108973544898987 tw17061287191193020199 tw12620207109636849568 tw6441554151751720860 tw18106056554263260476 tw2247052759482016398 tw16343411367872166781 tw10423508324620459374 tw5617485166810739240 tw40026356905076976 tw17747546814703884356 tw2078981500949911245 tw7426055888240326543 tw8055573756245925483 tw14248268688547217197 tw16842409333189718805 tw17951677581847960150 tw11290511503686400939 tw9478478221506120890 tw6869384247005322384 tw6185842323604484422 tw16534405716480476867 tw10017408124856021449 tw3829941464961335423 tw12185060761600702910 tw15416289976953539721 tw2615566815532283348 tw10687319527653128540 tw5248168331728692927 tw50746438143197203 tw17344941453060961408 tw15486697760659653271 tw246907071932876181 tw3743801700643094684 tw432222644855482166 tw8484155776146607086 tw16887696834722719861 tw12763950061986133452 tw14426218335827897555 tw11253099307221407638 tw12000114470648803119 tw15600135178126203251 tw17461825737874239410 tw2584656445477079798 tw15631306054334809685 tw15060747150710984611 tw1396938320767204370 tw3482529970012946333 tw2524310336560062053 tw16291475511872807136 tw8028729832488448453 tw2798831055490417053 tw95497526608021701 tw57539196189161643 tw9666135769370319208 tw521459842082387490 tw116703253378509381 tw14039088849433622891 tw14638581938051557943 tw1685632519410225996 tw14523395523391871735 tw5357647197330241916 tw3971062734052116333 tw11732041538094802073 tw1307821581054487908 tw15635436800899199417 tw3439374224886100746 tw3906677668317189981 tw14294726807771945272 tw8413221213871512480 tw17133230863146261872 tw2655620404649084454 tw15415089111824465233 tw13181970507474526325 tw4025996283738506052 tw11356109604570113132 tw10732046080900494132 tw5173707879764961456 tw2044153288977941238 tw12852055184711427262 tw2903077352231049103 tw440903731363280854 tw16133774202875467149:True)
set_option maxRecDepth 100000 in
set_option maxHeartbeats 0 in
theorem PySem.Challenge.cw_sameruns_s02_bt_better_holds : PySem.Challenge.rw_sameruns_s02_bt_better.Holds := by
 w_on;k_headS;(case hw=>exact⟨[.int 0,.list []],by decide+kernel,by decide+kernel⟩)
 k_fillS
 intro w s₀ s₁ mg mb G Y fa o pm cd doc dV kV ho hd hcd hD hmg hg args vals as hpre hlay hrd hwl hlo;have KX:=kIn_of Y;have T:∃t,My.Txt (L2.IE KX) mg t:=by
  dsimp only[L2.IE]
  refine'⟨My.Ad.mk ..,?T⟩
  case T=>
  constructor
  case sW |Kp |C2 |Kq |C3 |Ks |Kt |Ku |Kv |C4 |Kw |qE |Kx |Ky |Kz |KA |KC |qF |Vw |Vx |Vy |Vz |VA |VB |VC |VD |VE |VF |VG |VH |KD |KE |Di |KG |KH |KI |xj |KJ |KN |KO |eZ |KP |Dj |Dk |KQ |xp |KR |KS |KU |KW |KY |KZ |xy |K1 |K2 |K3 |K4 |K7 |K8 |K9 |K_ |La |Lb |Lc |Ld |Le |ic |DB |ku |Ll |DE |Lq |Lx=>
   refine' mg_of KX G.T.g ?q1
   case q1=>(try dsimp only);k_is
  case Lo |tm |DD |tw |Lp |DF |Lr |Ls |Lu |Lv |Lw |Ly |Lz |LB |LC |LD |LF |LG |LH |LJ=>
   refine' My.int_mk KX G.T.g ?q1
   case q1=>k_is
  case DH |xP |DI |LO |LP |qL |c_ |tz |LQ |tD |LR |xQ |LS=>
   refine' ns_none_of KX G.T.g ?q1
   case q1=>(try dsimp only);k_is
  case ie |DC |Lm=>
   refine'⟨?q1,?q2,?q3,?q4⟩
   case q1=>(try dsimp only);k_is
   case q2=>(try dsimp only);k_is
   case q3=>(try dsimp only);k_is
   case q4=>(try dsimp only);k_is
  case cS |fz |bB=>
   refine'⟨?q1,?q2,?q3,?q4⟩
   case q1=>(try dsimp only);k_is
   case q2=>(try dsimp only);k_is
   case q3=>(try dsimp only);k_is
   case q4=>(try dsimp only);k_is
  case Lf |Lg |Lh |Li |Lj |oK |Dz |Lk=>
   refine'⟨?q1,?q2,?q3⟩
   case q1=>(try dsimp only);k_is
   case q2=>(try dsimp only);k_is
   case q3=>(try dsimp only);k_is
  case bH |fO |cO |xN |mJ |fv |kr |lK |iV |qJ |lL |qK |xO=>dsimp only[L2.eE];k_is
  case xc=>
   refine' My.abT ?q1 ?q2 ?q3 ?q4 ?q5 ?q6 ?q7 ?q8 ?q9 ?FJ
   case q1=>(try dsimp only);k_is
   case q2=>(try dsimp only);k_is
   case q3=>rfl
   case q4=>(try dsimp only);k_is
   case q5=>(try dsimp only);k_is
   case q6=>(try dsimp only);k_is
   case q7=>(try dsimp only);k_is
   case q8=>(try dsimp only);k_is
   case q9=>(try dsimp only);k_is
   case FJ=>(try dsimp only);k_is
  case oJ |wO |sX |wQ |sY |wR |wU |wV |wW |sZ |wX |mG |wY |wZ |w6 |w8 |w9 |mH |C5 |C6 |C7 |C8 |C9 |C_ |Dc |Dd |De |Df |Dg |Dh |w_ |xb |s_ |xf |xg |xh |qG |xk |xl |xm |dX |xn |tf |tj |xo |qH |xq |xr |xt |xu |xw |xx |qI |xA |xB |xC |xD |xE |xF |xG |xH |xI |xJ |xK |xM |Dl |Dm |Dq |Dr |Ds |Dt |Du |Dv |Dw |Dx |Dy |DA=>
   refine' L2.UP ?q1 ?q2 ?q3
   case q1=>(try dsimp only);k_is
   case q2=>(try dsimp only);k_is
   case q3=>(try dsimp only);k_is
  case mI=>
   dsimp only
   refine' My.abU ?q1 ?q2
   case q1=>(try dsimp only);k_is
   case q2=>(try dsimp only);k_is
  case oM=>
   dsimp only
   refine' My.abV ?q1 ?q2
   case q1=>(try dsimp only);k_is
   case q2=>rfl
  case LK=>
   refine' My.sq3 ?q1 ?q2
   case q1=>(try dsimp only);k_is
   case q2=>exact⟨rfl,rfl⟩
  case DG=>
   refine' My.sq6 ?q1 ?q2
   case q1=>(try dsimp only);k_is
   case q2=>exact⟨rfl,rfl⟩
  case tab=>
   intro P w;refine' My.abu ?q1 ?q2 ?q3 ?p0 ?r0 ?p1 ?r1 ?p2 ?r2 ?p3 ?r3 ?p4 ?r4 ?p5 ?r5 ?p6 ?r6 ?p7 ?r7 ?p8 ?r8 ?p9 ?r9 ?p10 ?Ab ?p11 ?r11
   case q1=>(try dsimp only);k_is
   case q2=>exact⟨⟨rfl,rfl,rfl⟩,rfl⟩
   case q3 |p0 |p1 |p2 |p3 |p4 |p5 |p6 |p7 |p8 |p9 |p10 |p11=>decide+kernel
   case r0 |r1 |r2 |r3 |r4 |r5 |r6 |r7 |Ab=>
    refine' My.abr ?q1 ?q2
    case q1=>(try dsimp only);k_is
    case q2=>exact⟨rfl,rfl⟩
   case r8 |r9 |r11=>
    refine' My.abt ?q1 ?q2
    case q1=>(try dsimp only);k_is
    case q2=>exact⟨rfl,rfl⟩
  case LM=>
   refine'⟨?q1,?q2,?q3,?q4,?q5,?q6,?q7,?q8,?q9,?FJ,?q11,?q12⟩
   case q1=>(try dsimp only);k_is
   case q2=>(try dsimp only);k_is
   case q3=>(try dsimp only);k_is
   case q4=>(try dsimp only);k_is
   case q5=>(try dsimp only);k_is
   case q6=>(try dsimp only);k_is
   case q7=>(try dsimp only);k_is
   case q8=>(try dsimp only);k_is
   case q9=>(try dsimp only);k_is
   case FJ=>(try dsimp only);k_is
   case q11=>(try dsimp only);k_is
   case q12=>(try dsimp only);k_is
 obtain⟨t,T⟩:=T;have efa:fa=t.sU:=by
  have e:=hmg.symm.trans T.Le;injection e with e
  injection e
 subst efa;have said:PySem.Challenge.rw_sameruns_s02_bt_better.wellSaid=true:=by decide+kernel
 obtain⟨⟨z,ns,u⟩,hw,has,rfl⟩:=(OpenSpec.pre_iff said args).mp hpre;cases u;exact My.fin KX G.T.g G.T.b G.T.builtins G.T.nolimit hg T said hw hwl
