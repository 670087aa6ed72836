import PyProof.Rows.All
import Wide.All
import OpenK.AllK
import Wide.FinOn
import Lean
import PyProof.EqAt
import PyProof.EqKinds
import PyProof.TupleCall
import PyProof.NeKinds
import PyProof.NsDelKeeps
import PyProof.ExcArgs
import PyProof.ExcAttrAll.ValueError
import PyProof.Rows.SortRunsK
import PyProof.CompUse
import PyProof.AutoSeq1
import PyProof.Rows.Range3
import PyProof.ListRange
import PyProof.TupleOfSeq
import PyProof.CollectIter
import KE.KRevIter
import PyProof.DictFindH
import PyProof.Walk
import PyProof.DictWalks
import PySem.Challenge.RW_selfsight_k27_whole_one_person_more
set_option maxHeartbeats 4000000
set_option linter.all false
set_option maxRecDepth 100000
set_option Elab.async false
def AA:=@PySem.wpAny_bind
def AB:=@PySem.Heap.get?_push_of_some
def AC:=@List.length_map
def AD:=@if_pos
def AE:=@List.getElem?_eq_some_iff
def AF:=@if_neg
def AG:=@PySem.wpAny_pure
def AH:=@List.length_cons
def AI:=@Int.le_of_lt
def AJ:=@List.length_append
def AK:=@Nat.ne_of_lt
def AL:=@List.size_toArray
def AM:=@List.map_cons
def AN:=@PySem.Heap.lt_size
def AO:=@PySem.Heap.get?_push_size
def AQ:=@Nat.le_refl
def AR:=@List.getElem?_set_ne
def AS:=@Int.mul_le_mul_of_nonneg_right
def AU:=@List.getElem?_eq_getElem
def AV:=@List.mem_cons_of_mem
def AW:=@List.mem_cons
def AX:=@Int.mul_pos
def AY:=@List.getElem?_set_self
def AZ:=@List.length_singleton
def BA:=@Nat.le_trans
def BB:=@Nat.lt_of_lt_of_le
def BC:=@List.getElem?_append_left
def BD:=@decide_eq_true
def BE:=@List.getElem?_map
def BF:=@List.mem_append_right
def BG:=@Bool.and_eq_true
def BH:=@List.mem_cons_self
def BI:=@decide_eq_false
def BJ:=@Option.some.inj
def BK:=@Int.emod_lt_of_pos
def BL:=@List.getElem?_eq_none_iff
def BM:=@Int.lt_of_mul_lt_mul_right
def BN:=@PySem.PassesOwn.never
def BO:=@List.getD_eq_getElem?_getD
def BP:=@List.append_nil
def BQ:=@Int.emod_nonneg
def BR:=@PySem.wpAny_mono
def BS:=@of_decide_eq_true
def BU:=@Int.mul_lt_mul_of_pos_right
def BV:=@Int.mul_eq_zero
def BW:=@List.getElem?_append_right
def BX:=@Nat.le_of_ble_eq_true
def BY:=@List.length_range
def BZ:=@List.mem_of_getElem?
def CA:=@PySem.W.mg_none_of
def CB:=@Bool.false_ne_true
def CC:=@List.find?_cons
def CD:=@Int.eq_of_mul_eq_mul_right
def CG:=@PySem.sizeLine_eq
def CH:=@List.mem_map
def CI:=@Int.zero_mul
def CJ:=@decide_eq_true_iff
def CK:=@Int.mul_nonneg
def CL:=@Nat.zero_le
def CM:=@List.drop_eq_getElem_cons
def CN:=@Int.mul_comm
def CO:=@PySem.wpAny_holding
def CP:=@List.length_replicate
def CQ:=@List.getElem?_replicate
def CS:=@Bool.false_eq_true
def CT:=@beq_eq_false_iff_ne
def CU:=@List.mem_singleton
def CV:=@PySem.wpAny_field
def CW:=@Int.mul_le_mul
def CY:=@List.map_append
def CZ:=@List.length_set
def DA:=@Int.mul_ne_zero
def DB:=@PySem.wpAny_truthy_bool
def DC:=@PySem.wpAny_newObj_type
def DD:=@PySem.Heap.size_push
def DE:=@List.pairwise_cons
def DF:=@List.any_cons
def DG:=@Int.mul_assoc
def DH:=@Int.one_mul
def DI:=@Int.mul_le_mul_of_nonneg_left
def DJ:=@Nat.lt_succ_of_lt
def DK:=@List.mem_append
def DM:=@if_false
def DN:=@Array.length_toList
def DO:=@PyProof.Rows.callWith_type1
def DP:=@List.mem_filter
def DQ:=@PyProof.Rows.slot_tupleiter_next
def DR:=@PySem.mem_of_lookup
def DS:=@Nat.lt_succ_self
def DT:=@List.lookup_cons
def DU:=@List.filter_cons_of_pos
def DV:=@PySem.Paired.length
def DW:=@if_true
def DX:=@Nat.ne_of_gt
def DY:=@List.drop_eq_nil_of_le
def DZ:=@PySem.wpAny_seqItems
def EA:=@PySem.wpAny_call_entry
def EB:=@PySem.wpAny_callSpecial?_slot
def EC:=@Bool.eq_iff_iff
def ED:=@List.append_assoc
def EE:=@PySem.wpAny_setField_rec
def EF:=@PySem.wpAny_Call_Name_kw
def EG:=@PySem.Calls.spliced_cons
def EH:=@PySem.wpAny_passesOwn
def EI:=@Nat.mul_le_mul
def EJ:=@Nat.le_succ
def EK:=@Int.natAbs_mul
def EL:=@Ne.symm
def EM:=@PySem.wpAny_pyIter_list
def EN:=@Int.eq_of_mul_eq_mul_left
def EO:=@Nat.lt_irrefl
def ER:=@PySem.W.kia_one
def ES:=@Bool.or_eq_true
def ET:=@beq_iff_eq
def EU:=@Int.natAbs_natCast
def EV:=@Nat.add_sub_cancel_left
def EW:=@List.filter_cons_of_neg
def EX:=@Int.pos_of_mul_pos_left
def EY:=@Int.add_mul
def EZ:=@PySem.Heap.SameBut.update
def FA:=@List.mem_range
def FB:=@List.map_nil
def FC:=@Int.lt_or_le
def FD:=@Int.le_ediv_iff_mul_le
def FE:=@PySem.tupleKind_room_in1
def FF:=@PyProof.Rows.slot_tuple_getitem
def FG:=@List.getElem?_eq_none
def FH:=@Int.mul_ediv_add_emod
def FJ:=@PySem.W.mg_of
def FK:=@List.all_cons
def FM:=@PySem.Calls.callWith_builtin
def FN:=@List.nodup_cons
def FO:=@List.nil_append
def FP:=@List.length_nil
def FQ:=@PySem.wpAny_standAt
def FR:=@Int.le_of_mul_le_mul_right
def FS:=@Int.mul_neg_of_neg_of_pos
def FT:=@List.nodup_append
def FU:=@Int.le_refl
def FV:=@Bool.eq_false_iff
def FW:=@Option.isSome_iff_exists
def FX:=@PySem.F.plainAttrs_list
def FY:=@Nat.le_of_not_lt
def FZ:=@Nat.le_add_right
def GC:=@List.mem_flatMap
def GD:=@List.length_take
def GE:=@List.getElem?_cons_succ
def GF:=@List.cons_append
def GG:=@Option.map_eq_some_iff
def GH:=@Option.map_eq_none_iff
def GI:=@List.range_succ_eq_map
def GJ:=@PySem.atKey_none_of_get
def GK:=@Option.map_some
def GL:=@Int.ediv_nonneg
def GM:=@PySem.Calls.spliced_nil
def GN:=@PySem.wpAny_newList
def GO:=@PySem.F.slot_dict_get
def GP:=@List.length_filter_le
def GQ:=@Int.natAbs_dvd_natAbs
def GR:=@Nat.pow_lt_pow_right
def GS:=@List.drop_zero
def GT:=@List.Perm.refl
def GU:=@PySem.wpAny_rule
def GV:=@PySem.W.plainGet_of
def GW:=@List.filterMap_cons
def GX:=@Int.mul_ediv_cancel
def GY:=@PySem.Heap.get?_update_other
def GZ:=@PySem.wpAny_execs_nil
def HA:=@PySem.F.slot_zip_next
def HB:=@of_decide_eq_false
def HC:=@PySem.W.callWith_K
def HD:=@List.filter_append
def HE:=@PyProof.Rows.listUpdate_at
def HF:=@PyProof.Rows.entry_tupleiter_next
def HG:=@PySem.wpAny_updateSeq_pair
def HH:=@decide_eq_true_eq
def HI:=@PyProof.Rows.args_tupleiter_next
def HJ:=@Nat.le_succ_of_le
def HK:=@List.pairwise_map
def HL:=@Int.toNat_natCast
def HM:=@PySem.Calls.evalArgs_plain
def HN:=@beq_self_eq_true
def HP:=@List.length_drop
def HQ:=@List.any_eq_true
def HR:=@PySem.wpAny_onRaise
def HS:=@Nat.one_mul
def HU:=@Nat.add_mul
def HV:=@Int.sub_mul
def HW:=@PySem.F.slot_dict_setdefault
def HX:=@List.of_mem_zip
def HY:=@List.forIn_cons
def HZ:=@List.foldl_cons
def IA:=@List.filter_nil
def IB:=@Iff.rfl
def IC:=@PySem.codeAny_mono
def ID:=@Bool.false_and
def IE:=@Bool.and_assoc
def IF:=@Int.natAbs_ediv_le_natAbs
def IG:=@Int.mul_neg_of_pos_of_neg
def IH:=@PySem.F.type_list_append
def II:=@PySem.F.slot_list_append
def IJ:=@PySem.F.args_tuple_add_2
def IK:=@PyProof.noPylong_of_log2
def IL:=@Int.pos_of_mul_pos_right
def IM:=@Int.mul_ediv_cancel_left
def IP:=@Int.le_of_dvd
def IQ:=@Bool.or_false
def IR:=@PySem.F.plainAttrs_dict
def IS:=@PySem.F.entry_tuple_add
def IT:=@PySem.F.args_dict_get_3
def IU:=@Nat.exists_eq_add_of_le
def IV:=@List.length_eq_zero_iff
def IW:=@List.getElem?_cons_zero
def IX:=@Int.eq_ofNat_of_zero_le
def IY:=@PySem.wpAny_specialOf
def IZ:=@PySem.W.cellsFrom_some
def JA:=@PySem.F.slot_tuple_add
def JB:=@PySem.F.entry_dict_get
def JC:=@Nat.mul_comm
def JD:=@Nat.le_of_lt
def JE:=@List.take_of_length_le
def JF:=@List.sum_replicate_nat
def JG:=@List.any_map
def JH:=@List.all_map
def JI:=@Int.sub_self
def JJ:=@PyProof.Rows.assignInOrder_cons
def JK:=@PySem.W.methodCall_KW
def JL:=@List.dropLast_eq_take
def JM:=@Int.emod_add_mul_ediv
def JN:=@Int.ediv_lt_of_lt_mul
def JO:=@Array.getElem?_toList
def JP:=@PySem.wpAny_newTuple
def JQ:=@Nat.pow_pos
def JR:=@Nat.pow_le_pow_right
def JS:=@List.mem_append_left
def JT:=@List.length_dropLast
def JU:=@List.Pairwise.filter
def JV:=@PySem.Calls.Name_function_global
def JW:=@PyProof.Rows.listItems_at
def JX:=@Nat.pow_le_pow_left
def JY:=@List.take_succ_cons
def JZ:=@List.mem_map_of_mem
def KA:=@List.length_flatMap
def KB:=@List.getElem?_range
def KC:=@PySem.Calls.call_function_entry
def KD:=@PySem.wpAny_comprehension_free
def KF:=@Option.isSome_some
def KG:=@Option.isSome_none
def KH:=@List.mem_filterMap
def KI:=@List.find?_eq_none
def KJ:=@Int.natCast_nonneg
def KL:=@Int.mul_right_comm
def KM:=@Int.lt_or_eq_of_le
def KN:=@Int.lt_of_lt_of_le
def KO:=@Int.lt_add_one_iff
def KP:=@not_true_eq_false
def KQ:=@not_false_eq_true
def KR:=@bne_self_eq_false
def KS:=@Option.isSome_map
def KU:=@List.foldl_append
def KW:=@List.flatMap_cons
def KY:=@List.any_eq_false
def KZ:=@Int.mul_left_comm
def LA:=@Int.gcd_dvd_right
def LB:=@Int.emod_eq_of_lt
def LC:=@Eq.symm
def LD:=@PySem.wpAny_pyNext_list_item
def LF:=@PyProof.Rows.seqEpoch_at
def LG:=@PySem.concat_meets
def LH:=@PySem.codeAny_compStart_list
def LI:=@PySem.call_meetsIn
def LJ:=@Option.getD_some
def LK:=@Option.getD_none
def LL:=@List.zipIdx_cons
def LM:=@List.not_mem_nil
def LN:=@List.getElem_mem
def LO:=@List.getElem_map
def LP:=@List.all_eq_true
def LQ:=@PySem.wpAny_pyNext_list_end
def LR:=@PySem.wpAny_isTrue_Compare1
def LS:=@PyProof.Rows.get?_update_seq
def LU:=@Nat.min_eq_left
def LV:=@List.zipIdx_nil
def LW:=@List.range_succ
def LX:=@List.map_const'
def LY:=@Int.le_antisymm
def LZ:=@PySem.Heap.get?_update_self
def MA:=@PySem.wpAny_newFunctionEnv
def MB:=@PySem.wpAny_letGo
def MC:=@PySem.storedH_new
def MD:=@ne_eq
def ME:=@PySem.Paired.snoc
def MF:=@PySem.Obj.data_mapDictKeys
def MG:=@List.nodup_nil
def MH:=@List.forIn_nil
def MI:=@List.foldl_nil
local macro_rules
 |`(tactic|trivial)=>`(tactic|exact Or.inr (Or.inr rfl))
local macro_rules
 |`(tactic|trivial)=>`(tactic|exact Or.inr (Or.inl rfl))
local macro_rules
 |`(tactic|trivial)=>`(tactic|exact Or.inr rfl)
local macro_rules
 |`(tactic|trivial)=>`(tactic|exact Or.inl rfl)
namespace L2
open PySem PySem.Spec PyProof.Rows
abbrev Yx:=Sum Int Str
def Mu:Yx->Value->Bool
 |.inl k,v=>Value.isInt k v
 |.inr x,v=>Value.isStrOf x v
def wq (w:World):Yx->Int
 |.inl k=>hashInt k
 |.inr x=>hashStr w x
def Yy:∀{k:Yx}{v:Value},Mu k v=true->(∃i t,k=Sum.inl i/\v=Value.int i t)\/(∃x t,k=Sum.inr x/\v=Value.str x t)
 |.inl i,v,h=>by
  obtain⟨t,e⟩:=Value.isInt_shape (k:=i) (v:=v) h
  exact .inl ⟨i,t,rfl,e⟩
 |.inr x,v,h=>by
  obtain⟨t,e⟩:=Value.isStrOf_shape (x:=x) (v:=v) h
  exact .inr ⟨x,t,rfl,e⟩
def Zao (i:Int)(t:Tok):Mu (.inl i) (.int i t)=true:=by simp[Mu,Value.isInt]
def Zap (x:Str)(t:Tok):Mu (.inr x) (.str x t)=true:=by simp[Mu,Value.isStrOf]
def zV (a b:Int):decide ((Sum.inl a:Yx)=Sum.inl b)=(a==b):=by
 by_cases e:a=b
 .subst e;simp
 .have h:¬(Sum.inl a:Yx)=Sum.inl b:=λq=>e (Sum.inl.inj q)
  rw[BI h]
  exact(CT.mpr e).symm
def zU (a b:Str):decide ((Sum.inr a:Yx)=Sum.inr b)=decide (a=b):=by
 by_cases e:a=b
 .subst e;simp
 .have h:¬(Sum.inr a:Yx)=Sum.inr b:=λq=>e (Sum.inr.inj q)
  rw[BI h,BI e]
def zT (a:Int)(b:Str):decide ((Sum.inl a:Yx)=Sum.inr b)=false:=BI (λq=>nomatch q)
def zg (a:Str)(b:Int):decide ((Sum.inr a:Yx)=Sum.inl b)=false:=BI (λq=>nomatch q)
def Xl (prog:Program)(w:World):PySem.KeyKind prog w Yx where
 is:=Mu
 hash:=wq w
 inj:=λv a b ha hb=>by
  rcases Yy ha with⟨i,t,rfl,rfl⟩|⟨x,t,rfl,rfl⟩
  .rcases Yy hb with⟨j,u,rfl,e⟩|⟨y,u,rfl,e⟩
   .injection e with e1 _;rw[e1]
   .exact nomatch e
  .rcases Yy hb with⟨j,u,rfl,e⟩|⟨y,u,rfl,e⟩
   .exact nomatch e
   .injection e with e1 _;rw[e1]
 byValue:=λk v h=>by
  rcases Yy h with⟨i,t,rfl,rfl⟩|⟨x,t,rfl,rfl⟩<;>rfl
 pyHash:=λhv h=>by
  rcases Yy hv with⟨i,t,rfl,rfl⟩|⟨x,t,rfl,rfl⟩
  .exact wpAny_pyHash_int h
  .exact wpAny_pyHash_str h
 eqBool:=λhu hv h=>by
  rcases Yy hu with⟨i,t,rfl,rfl⟩|⟨x,t,rfl,rfl⟩
  .rcases Yy hv with⟨j,u,rfl,rfl⟩|⟨y,u,rfl,rfl⟩
   .rw[zV] at h;exact wpAny_eqBool_int h
   .rw[zT] at h;exact SeqAt.EqAt.int_str i t y u _ _ _ _ h
  .rcases Yy hv with⟨j,u,rfl,rfl⟩|⟨y,u,rfl,rfl⟩
   .rw[zg] at h;exact SeqAt.EqAt.str_int x t j u _ _ _ _ h
   .rw[zU] at h;exact wpAny_eqBool_str h
 «strs»:=λk x t v h=>by
  rcases Yy h with⟨i,u,rfl,e⟩|⟨y,u,rfl,e⟩
  .exact nomatch e
  .injection e with e1 _
   subst e1
   cases v<;>rfl
def Cy (prog:Program)(w:World)(i:Int)(t:Tok):(Xl prog w).is (.inl i) (.int i t)=true:=Zao i t
def Cz (prog:Program)(w:World)(x:Str)(t:Tok):(Xl prog w).is (.inr x) (.str x t)=true:=Zap x t
inductive V where
 |non|bl (b:Bool)|int (i:Int)|str (x:Str)|byt (b:Array UInt8)|flt (b:UInt64)|ref (a:Addr)|ty (n:String)
 deriving DecidableEq
def RelV:V->Value->Prop
 |.non,u=>u=Value.none
 |.bl b,u=>u=Value.bool b
 |.int i,u=>∃t,u=Value.int i t
 |.str x,u=>∃t,u=Value.str x t
 |.byt b,u=>∃t,u=Value.bytes b t
 |.flt b,u=>∃t,u=Value.float b t
 |.ref a,u=>u=Value.ref a
 |.ty n,u=>u=Value.type n
abbrev Vals:List V->List Value->Prop:=Paired RelV
theorem Vals.length {xs:List V}{us:List Value}(r:Vals xs us):xs.length=us.length:=DV r
theorem Vals.get:∀{xs:List V}{us:List Value}{i:Nat}{x:V},Vals xs us->xs[i]?=some x->∃u,us[i]?=some u/\RelV x u
 |_,_,_,_,.nil,e=>by simp at e
 |_,_,0,_,.cons r _,e=>by simp at e;subst e;exact⟨_,rfl,r⟩
 |_,_,i+1,x,.cons _ t,e=>by
  obtain⟨u,h1,h2⟩:=Vals.get (i:=i) (x:=x) t (by simpa using e)
  exact⟨u,by simpa using h1,h2⟩
theorem Vals.append:∀{xs ys:List V}{us ws:List Value},Vals xs us->Vals ys ws->Vals (xs++ys) (us++ws)
 |_,_,_,_,.nil,s=>s
 |_,_,_,_,.cons r t,s=>.cons r (Vals.append t s)
theorem Vals.take:∀{xs:List V}{us:List Value} (n:Nat),Vals xs us->Vals (xs.take n) (us.take n)
 |_,_,0,_=>.nil
 |_,_,_+1,.nil=>.nil
 |_,_,n+1,.cons r t=>.cons r (Vals.take n t)
theorem Vals.drop:∀{xs:List V}{us:List Value} (n:Nat),Vals xs us->Vals (xs.drop n) (us.drop n)
 |_,_,0,r=>r
 |_,_,_+1,.nil=>.nil
 |_,_,n+1,.cons _ t=>Vals.drop n t
def Vals.none_of:∀{xs:List V}{us:List Value}{i:Nat},Vals xs us->xs[i]?=none->us[i]?=none:=λ{xs us i} r e=>by
 have h1:=r.length
 have h2:xs.length<=i:=BL.mp e
 exact BL.mpr (by omega)
def RelO:Option V->Option Value->Prop
 |some v,some u=>RelV v u
 |none,none=>True
 |_,_=>False
def KV {κ:Type}:List (κ×V)->List (κ×Value)->Prop:=Paired fun(p:κ×V) (q:κ×Value)=>p.1=q.1/\RelV p.2 q.2
def kV:Yx->V
 |.inl i=>.int i
 |.inr x=>.str x
inductive HO where
 |lst (xs:List V)
 |tup (xs:List V)
 |dK (kvs:List (Yx×V))|dT (kvs:List (List Yx×V))
 |set (S:Int->Bool) (n:Nat)
 |ins (C dx:Addr) (fs:List (Str×V))
 |own (x:Addr)
 |xd (fs:List (Str×V))
 |met (f x:Addr)
 |rng (lo hi:Int)
 |frz (o:Obj) (u:HO)
 |tbl (l c:Value) (q:Str)
 |ext (φ:Heap->Prop)
abbrev Hp:=Addr->Option HO
def upd (H:Hp)(a:Addr)(o:HO):Hp:=λb=>if b=a then some o else H b
def Zq {H:Hp}{a:Addr}{o:HO}:upd H a o a=some o:=by unfold upd;rw[AD rfl]
def Zm {H:Hp}{a b:Addr}{o:HO}(h:b≠a):upd H a o b=H b:=by unfold upd;rw[AF h]
def pQ {H:Hp}{a b:Addr}{o u:HO}(h:H a=some o)(h':H b=some u)(d:o≠u):a≠b:=by
 intro e;subst e;rw[h] at h';exact d (BJ h')
def Z3 {H:Hp}{a b:Addr}{o:HO}(h:H a=some o)(h':H b=none):a≠b:=by
 intro e;subst e;rw[h] at h';cases h'
section
variable (P:Program) (w:World)
def ObjOk (H:Hp)(h:Heap)(a:Addr):HO->Prop
 |.lst xs=>xs.length<=sizeLine/\∃(its:List Value) (n:Nat),Vals xs its/\h.get? a=some {cls:=.type "list", data:=.seq its.toArray n}
 |.tup xs=>xs.length<=sizeLine/\∃its:List Value,Vals xs its/\IsTup h a its.toArray
 |.dK kvs=>kvs.length<=sizeLine/\(a==sysModules)=false/\∃vs,KV kvs vs/\h.DictOf (Xl P w) a vs
 |.dT kvs=>kvs.length<=sizeLine/\(a==sysModules)=false/\∃xs:List (List Yx×Addr×Value),
   Paired (fun(p:List Yx×V) (q:List Yx×Addr×Value)=>p.1=q.1/\H q.2.1=some (.tup (p.1.map kV))/\RelV p.2 q.2.2) kvs xs /\
   ∃o es ep,h.get? a=some o/\o.ExactDict/\o.data=.dict es ep/\es.toList=xs.map (entryOfKey (tupleKind (Xl P w)))/\(xs.map (·.1)).Nodup
 |.set S n=>h.SetOf (intKind P w) a S n
 |.ins C dx fs=>H dx=some (.own a)/\fs.length<=1000/\dx≠a/\h.get? a=some (PySem.W.instObj C dx) /\
   ∃mA,h.Ns1 dx mA/\(∀f,RelO (fs.lookup f) (mA f))/\PySem.Within mA (fs.map (·.1))
 |.own _=>∃o,h.get? a=some o
 |.xd fs=>∃mA,h.Ns1 a mA/\∀f,RelO (fs.lookup f) (mA f)
 |.rng lo hi=>∃t u v,h.get? a=some {cls:=.type "range", data:=.fields #[.int lo t,.int hi u,.int 1 v]}
 |.frz o u=>h.get? a=some o/\ObjOk H h a u
 |.tbl l c q=>∃ps:Array Value,h.get? a=some {cls:=.none,data:=.fields ps}/\(ps=#[]\/∃(b:Addr) (ob:Obj) (vs:Array Value) (t:Tok),ps=#[l,c,.ref b]/\H b=some (.frz ob (.own 0))/\ob.data=.fields vs/\vs[1]?=some (.str q t))
 |.met f x=>h.get? a=some (PySem.W.methodObj (.ref f) (.ref x))
 |.ext φ=>φ h/\(∃o,h.get? a=some o)/\∀h1 h2:Heap,φ h1->(∀o,h1.get? a=some o->h2.get? a=some o)->φ h2
def HOk (H:Hp)(h:Heap):Prop:=∀a o,H a=some o->ObjOk P w H h a o
end
section
variable {P:Program}{w:World}{H H':Hp}{h h':Heap}{a:Addr}{o:HO}
theorem ObjOk.lt (x:ObjOk P w H h a o):a<h.objs.size:=by
 cases o with
 |lst xs=>obtain⟨_,_,_,_,e⟩:=x;exact AN e
 |tup xs=>obtain⟨_,_,_,p⟩:=x;exact p.lt
 |dK kvs=>obtain⟨_,_,_,_,o,_,_,e,_⟩:=x;exact AN e
 |dT kvs=>obtain⟨_,_,_,_,o,_,_,e,_⟩:=x;exact AN e
 |set S n=>obtain⟨o,_,_,_,e,_⟩:=x;exact AN e
 |ins C dx fs=>obtain⟨_,_,_,e,_⟩:=x;exact AN e
 |own y=>obtain⟨_,e⟩:=x;exact AN e
 |xd fs=>obtain⟨_,⟨_,_,_,e,_⟩,_⟩:=x;exact AN e
 |rng lo hi=>obtain⟨_,_,_,e⟩:=x;exact AN e
 |frz ob u=>obtain⟨e,_⟩:=x;exact AN e
 |tbl l c q=>obtain⟨_,e,_⟩:=x;exact AN e
 |met f y=>exact AN (show h.get? a=some _ from x)
 |ext φ=>obtain⟨_,⟨_,e⟩,_⟩:=x;exact AN e
theorem Paired.mapP {α β:Type}{F G:α->β->Prop}:∀{l₁:List α}{l₂:List β},Paired F l₁ l₂->(∀a b,F a b->G a b)->Paired G l₁ l₂
 |_,_,.nil,_=>.nil
 |_,_,.cons r t,f=>.cons (f _ _ r) (Paired.mapP t f)
def ObjOk.stay (x:ObjOk P w H h a o)(k:∀b u,(b=a\/H b=some (.own a))->h.get? b=some u->h'.get? b=some u)(ho:∀b,H b=some (.own a)->H' b=some (.own a))(ht:∀b xs,H b=some (.tup xs)->H' b=some (.tup xs))(hz:∀b o u,H b=some (.frz o u)->H' b=some (.frz o u)):ObjOk P w H' h' a o:=by
 induction o with
 |lst xs=>obtain⟨z,its,n,r,e⟩:=x;exact⟨z,its,n,r,k _ _ (.inl rfl) e⟩
 |tup xs=>obtain⟨z,its,r,ob,e,c⟩:=x;exact⟨z,its,r,ob,k _ _ (.inl rfl) e,c⟩
 |dK kvs=>obtain⟨z,y,vs,r,ob,es,ep,e,c⟩:=x;exact⟨z,y,vs,r,ob,es,ep,k _ _ (.inl rfl) e,c⟩
 |dT kvs=>
  obtain⟨z,y,xs,r,ob,es,ep,e,c⟩:=x
  exact⟨z,y,xs,Paired.mapP r λp q z=>⟨z.1,ht _ _ z.2.1,z.2.2⟩,ob,es,ep,k _ _ (.inl rfl) e,c⟩
 |set S n=>obtain⟨ob,es,ep,t,e,c⟩:=x;exact⟨ob,es,ep,t,k _ _ (.inl rfl) e,c⟩
 |ins C dx fs=>
  obtain⟨d,z,ne,e,mA,⟨od,es,ep,e2,c⟩,r⟩:=x
  exact⟨ho _ d,z,ne,k _ _ (.inl rfl) e,mA,⟨od,es,ep,k _ _ (.inr d) e2,c⟩,r⟩
 |own y=>obtain⟨ob,e⟩:=x;exact⟨ob,k _ _ (.inl rfl) e⟩
 |xd fs=>obtain⟨mA,⟨od,es,ep,e,c⟩,r⟩:=x;exact⟨mA,⟨od,es,ep,k _ _ (.inl rfl) e,c⟩,r⟩
 |rng lo hi=>obtain⟨t,u,v,e⟩:=x;exact⟨t,u,v,k _ _ (.inl rfl) e⟩
 |frz ob u ih=>obtain⟨e,q⟩:=x;exact⟨k _ _ (.inl rfl) e,ih q⟩
 |tbl l c q=>
  obtain⟨ps,e,r⟩:=x
  refine⟨ps,k a _ (.inl rfl) e,?_⟩
  rcases r with r|⟨b,ob,vs,t,r1,r2,r3⟩
  .exact .inl r
  .exact .inr ⟨b,ob,vs,t,r1,hz _ _ _ r2,r3⟩
 |met f y=>
  have e:h.get? a=some (PySem.W.methodObj (.ref f) (.ref y)):=x
  show h'.get? a=some (PySem.W.methodObj (.ref f) (.ref y))
  exact k a _ (.inl rfl) e
 |ext φ=>obtain⟨p,⟨o,e⟩,st⟩:=x;exact⟨st _ _ p λo q=>k _ _ (.inl rfl) q,⟨o,k _ _ (.inl rfl) e⟩,st⟩
theorem HOk.lt (x:HOk P w H h)(e:H a=some o):a<h.objs.size:=(x a o e).lt
def HOk.fresh (x:HOk P w H h)(e:h.objs.size<=a):H a=none:=by
 cases q:H a with
 |none=>rfl
 |some u=>exact absurd (BB (x.lt q) e) (EO _)
def HOk.kept (x:HOk P w H h)(k:∀b u,h.get? b=some u->h'.get? b=some u):HOk P w H h':=λa o e=>
 (x a o e).stay (λb u _ q=>k b u q) (λ_ q=>q) (λ_ _ q=>q) λ_ _ _ q=>q
def HOk.laid (x:HOk P w H h)(k:∀b u,h.get? b=some u->h'.get? b=some u)(hp:h.objs.size<=a)(new:ObjOk P w (upd H a o) h' a o):HOk P w (upd H a o) h':=λb u e=>by
 have hn:=x.fresh hp
 by_cases hb:b=a
 .subst hb;rw[Zq] at e;cases e;exact new
 .rw[Zm hb] at e
  exact(x b u e).stay (λc v _ q=>k c v q) (λc q=>by rw[Zm (Z3 q hn)];exact q) (λc xs q=>by rw[Zm (Z3 q hn)];exact q) λc _ _ q=>by rw[Zm (Z3 q hn)];exact q
end
def Rd (H:Hp)(a:Addr)(u:HO):Prop:=H a=some u\/∃o,H a=some (.frz o u)
def Rd.ok {P:Program}{w:World}{H:Hp}{h:Heap}{a:Addr}{u:HO}(r:Rd H a u)(x:HOk P w H h):ObjOk P w H h a u:=by
 rcases r with r|⟨o,r⟩
 .exact x a u r
 .obtain⟨_,q⟩:=x a _ r
  exact q
def fR:Option HO->Prop
 |some (.lst _)=>True
 |some (.dK _)=>True
 |some (.dT _)=>True
 |some (.set _ _)=>True
 |some (.ins _ _ _)=>True
 |some (.ext _)=>True
 |_=>False
section
variable {P:Program}{w:World}{H:Hp}{h h':Heap}{x e:Addr}{o':HO}
def HOk.write (ok:HOk P w H h)(mu:fR (H x))(he:e=x\/H e=some (.own x))(k:∀b u,b≠e->h.get? b=some u->h'.get? b=some u)(cO:∃u,h'.get? e=some u)(new:ObjOk P w (upd H x o') h' x o'):HOk P w (upd H x o') h':=λb u q=>by
 have dX:∀c y,H c=some (.own y)->c≠x:=λc y r z=>by subst z;rw[r] at mu;exact mu
 have jI:∀c xs,H c=some (.tup xs)->c≠x:=λc xs r z=>by subst z;rw[r] at mu;exact mu
 have jJ:∀c o u,H c=some (.frz o u)->c≠x:=λc o u r z=>by subst z;rw[r] at mu;exact mu
 by_cases hb:b=x
 .subst hb;rw[Zq] at q;cases q;exact new
 .rw[Zm hb] at q
  by_cases hbe:b=e
  .have q':H b=some (.own x):=by
    rcases he with z|z
    .exact absurd (hbe.trans z) hb
    .rw[hbe];exact z
   rw[q] at q';cases q'
   obtain⟨v,hv⟩:=cO
   exact⟨v,by rw[hbe];exact hv⟩
  .refine(ok b u q).stay (λc v hc r=>k c v ?_ r) (λc r=>by rw[Zm (dX c b r)];exact r) (λc xs r=>by rw[Zm (jI c xs r)];exact r) λc o u r=>by rw[Zm (jJ c o u r)];exact r
   rcases hc with rfl|hc
   .exact hbe
   .rintro rfl
    rcases he with z|z
    .exact dX c b hc z
    .rw[hc] at z;cases z;exact hb rfl
end
structure Un (fs ex:List Addr) (H H':Hp) (h h':Heap):Prop where
 keep:∀b o,h.get? b=some o->H b=none->b ∉ fs->b ∉ ex->h'.get? b=some o
 slot:∀b o,h.get? b=some o->H b=none->b∈fs->b ∉ ex->∃sl,h'.get? b=some {o with slots:=sl}
 free:∀b o,h.get? b=some o->H b=none->b ∉ ex->H' b=none
 there:∀b o,h.get? b=some o->b ∉ ex->∃o',h'.get? b=some o'
 tups:∀b xs,H b=some (.tup xs)->H' b=some (.tup xs)
 frzs:∀b o u,H b=some (.frz o u)->H' b=some (.frz o u)
 tbls:∀b l c q,H b=some (.tbl l c q)->H' b=some (.tbl l c q)
section
variable {fs fs' ex cW:List Addr}{H H1 H2:Hp}{h h1 h2 h':Heap}{a x e:Addr}{o:HO}
def Un.any (u:Un fs ex H H1 h h1){b:Addr}{ob:Obj}(q:h.get? b=some ob)(n:H b=none)(hx:b ∉ ex):∃sl,h1.get? b=some {ob with slots:=sl}:=by
 by_cases hb:b∈fs
 .exact u.slot b ob q n hb hx
 .exact⟨ob.slots,u.keep b ob q n hb hx⟩
def Un.kept (k:∀b u,h.get? b=some u->h'.get? b=some u):Un fs ex H H h h':=
 ⟨λb ob q _ _ _=>k b ob q,λb ob q _ _ _=>⟨ob.slots,k b ob q⟩,λ_ _ _ n _=>n,λb ob q _=>⟨ob,k b ob q⟩,λ_ _ q=>q,λ_ _ _ q=>q,λ_ _ _ _ q=>q⟩
def Un.refl:Un fs ex H H h h:=Un.kept λ_ _ q=>q
def Un.laid (k:∀b u,h.get? b=some u->h'.get? b=some u)(hp:h.objs.size<=a)(hn:H a=none):Un fs ex H (upd H a o) h h' where
 keep:=λb u q _ _ _=>k b u q
 slot:=λb u q _ _ _=>⟨u.slots,k b u q⟩
 free:=λb u q n _=>by rw[Zm (AK (BB (AN q) hp))];exact n
 there:=λb u q _=>⟨u,k b u q⟩
 tups:=λb xs q=>by rw[Zm (Z3 q hn)];exact q
 frzs:=λb u xs q=>by rw[Zm (Z3 q hn)];exact q
 tbls:=λb l c r q=>by rw[Zm (Z3 q hn)];exact q
def Un.write (mu:fR (H x))(he:e=x\/H e=some (.own x))(k:∀b u,b≠e->h.get? b=some u->h'.get? b=some u)(cO:∃u,h'.get? e=some u):Un fs ex H (upd H x o) h h':=by
 have hx:∀b,H b=none->b≠x:=λb n z=>by subst z;rw[n] at mu;exact mu
 have hb:∀b,H b=none->b≠e:=λb n z=>by
  subst z
  rcases he with r|r
  .exact hx b n r
  .rw[n] at r;cases r
 have hm:∀b u,H b=some u->¬fR (some u)->b≠x:=λb u q nm z=>by subst z;rw[q] at mu;exact nm mu
 refine⟨λb u q n _ _=>k b u (hb b n) q,λb u q n _ _=>⟨u.slots,k b u (hb b n) q⟩,λb u q n _=>by rw[Zm (hx b n)];exact n,λb u q _=>?_,
  λb xs q=>by rw[Zm (hm b _ q λz=>z)];exact q,λb u xs q=>by rw[Zm (hm b _ q λz=>z)];exact q,λb l c r q=>by rw[Zm (hm b _ q λz=>z)];exact q⟩
 by_cases hbe:b=e
 .subst hbe;exact cO
 .exact⟨u,k b u hbe q⟩
end
def RZ (h:Heap)(H:Hp):List Addr:=(List.range h.objs.size).filter λa=>(H a).isSome
def B5 (h:Heap)(H:Hp):Heap:=PySem.W.hideAll h (RZ h H)
def Zaq (h:Heap)(H:Hp):(B5 h H).objs.size=h.objs.size:=PySem.W.hideAll_size _ _
def Zcp {h:Heap}{H:Hp}{b:Addr}{o:Obj}(e:h.get? b=some o)(n:H b=none):(B5 h H).get? b=some o:=
 PySem.W.hideAll_get _ e λhm=>by
  have q:(H b).isSome=true:=(DP.mp hm).2
  rw[n] at q;simp at q
def Zf6 {h:Heap}{H:Hp}{b:Addr}{o:Obj}(e:(B5 h H).get? b=some o):h.get? b=some o/\H b=none:=by
 have e':h.get? b=some o:=PySem.W.of_hideAll (RZ h H) e
 refine⟨e',?_⟩
 cases q:H b with
 |none=>rfl
 |some x=>
  have hm:b∈RZ h H:=DP.mpr ⟨FA.mpr (AN e'),by simp[q]⟩
  have z:(B5 h H).get? b=none:=PySem.W.hideAll_none (RZ h H) hm
  rw[z] at e;cases e
structure Mod (K:PySem.W.Frag) (mg:Str->Option Value) (base:Heap):Prop where
 kin:K.In base
 glob:base.Ns mainGlobals mg
 blt:∃mb,base.Ns builtinsNs mb/\∀x:Str,x ≠ "__name__"->mb x=bootBuiltins x
 nolimit:base.NoLimit
structure Cx where
 prog:Program
 w:World
 K:PySem.W.Frag
 mg:Str->Option Value
 base:Heap
 A:Around
 N:List Str
 s₀:Shared
 H₀:Hp
 env:Env
 outer:List Env
 stack:List Env
 ex:List Addr
 fn:Str->Bool
 calm:Bool
 pn:List (Addr×Obj)
 xe:Value->Shared->Prop
def Ig (l:List Env):List Addr:=l.filterMap (·.frame)
abbrev Cx.fs (X:Cx):List Addr:=Ig X.outer
def Mc (sc:Scope)(x:Str):Prop:=sc.names.lookup x=some .local\/sc.names.lookup x=some .cell\/sc.names.lookup x=some .free
def WN (sc:Scope)(x:Str):Prop:=sc.names.lookup x=some .local\/sc.names.lookup x=some .cell
def wo (env:Env)(h:Heap)(m:Str->Option Value)(x:Str)(u:Value):Prop:=
 (env.kindOf x=some .local/\m x=some u)\/((env.kindOf x=some .cell\/env.kindOf x=some .free)/\∃c,env.cells.lookup x=some c/\h.IsCell c (some u))
structure Cx.Ok (X:Cx):Prop where
 mod:Mod X.K X.mg X.base
 kind:X.env.scope.kind=.function
 glob:X.env.globals=mainGlobals
 blt:X.env.builtins=builtinsNs
 above:X.s₀.heap.objs.size<=X.env.locals
 inj:∀x y c,X.env.cells.lookup x=some c->X.env.cells.lookup y=some c->x=y
 has:∀x,(X.env.kindOf x=some .cell\/X.env.kindOf x=some .free)->∃c,X.env.cells.lookup x=some c
 cab:∀x c,X.fn x=true->X.env.cells.lookup x=some c->X.s₀.heap.objs.size<=c
 hd:X.calm=true->X.A.handled=none
 frames:X.A.frames=some X.stack
 stk:X.stack=X.outer\/(X.stack=X.env::X.outer/\X.env.frame=some X.env.locals)
 exf:∀b∈X.ex,b≠X.env.locals/\∀x c,X.env.cells.lookup x=some c->c≠b
 bs:∀b o,X.base.get? b=some o->X.s₀.heap.get? b=some o/\X.H₀ b=none
 bsz:X.base.objs.size<=X.s₀.heap.objs.size
 noex:∀b o,X.base.get? b=some o->b ∉ X.ex
 exfs:∀b∈X.ex,b ∉ X.fs
 funs:X.s₀.heap.FunFrames X.base X.outer
 frf:∀b∈X.fs,X.H₀ b=none
structure Inv (X:Cx) (pins:List (Addr×Obj)) (σ:List (Option V)) (H:Hp) (s:Shared):Prop where
 ok:X.Ok
 os:s.os=X.s₀.os
 bare:AllBare s.gens
 base:Un X.fs X.ex X.H₀ H X.s₀.heap s.heap
 loc:∃m,s.heap.Ns X.env.locals m/\∀(i:Nat) (x:Str) (v:V),X.N[i]?=some x->σ[i]?=some (some v)->Mc X.env.scope x->∃u,RelV v u/\wo X.env s.heap m x u
 cell:∀x c,X.env.cells.lookup x=some c->∃v,s.heap.IsCell c v
 free:H X.env.locals=none
 freeC:∀x c,X.env.cells.lookup x=some c->H c=none
 pin:∀p∈X.pn++pins,s.heap.get? p.1=some p.2/\H p.1=none/\p.1≠X.env.locals/\p.1 ∉ X.fs/\∀v,p.2.data≠.cell v
 hok:HOk X.prog X.w H s.heap
 len:σ.length=X.N.length
section
variable {X:Cx}{pins:List (Addr×Obj)}{σ:List (Option V)}{H H':Hp}{s:Shared}{h':Heap}
def Cx.Ok.nofr (ok:X.Ok){b:Addr}{o:Obj}(e:X.base.get? b=some o):b ∉ X.fs:=λhb=>by
 have:=(ok.funs.mem hb).1
 rw[e] at this;cases this
theorem Inv.bs (I:Inv X pins σ H s):∀b o,X.base.get? b=some o->s.heap.get? b=some o/\H b=none:=λb o e=>
 ⟨I.base.keep b o (I.ok.bs b o e).1 (I.ok.bs b o e).2 (I.ok.nofr e) (I.ok.noex b o e),I.base.free b o (I.ok.bs b o e).1 (I.ok.bs b o e).2 (I.ok.noex b o e)⟩
def Inv.bk (I:Inv X pins σ H s):∀b o,X.base.get? b=some o->s.heap.get? b=some o:=λb o e=>(I.bs b o e).1
theorem Inv.mod (I:Inv X pins σ H s):Mod X.K X.mg X.base:=I.ok.mod
def Inv.kIn (I:Inv X pins σ H s):X.K.In s.heap:=I.ok.mod.kin.keeps I.bk
theorem Inv.lt (I:Inv X pins σ H s):X.env.locals<s.heap.objs.size:=let ⟨_,hn,_⟩:=I.loc;hn.lt
def Inv.sz (I:Inv X pins σ H s):X.s₀.heap.objs.size<=s.heap.objs.size:=BA I.ok.above (JD I.lt)
def Inv.nofs (I:Inv X pins σ H s){a:Addr}(h:s.heap.objs.size<=a):a ∉ X.fs:=λhb=>by
 obtain⟨_,o,ho,_⟩:=I.ok.funs.mem hb
 exact absurd (BB (AN ho) (BA I.sz h)) (EO _)
def Inv.cne (I:Inv X pins σ H s):∀x c,X.env.cells.lookup x=some c->c≠X.env.locals:=λx c e z=>by
 obtain⟨v,o,ho,hd⟩:=I.cell x c e
 obtain⟨m,⟨o',es,ep,UU,eI,_⟩,_⟩:=I.loc
 rw[z,UU] at ho;cases ho;rw[eI] at hd;cases hd
theorem Inv.funs (I:Inv X pins σ H s):s.heap.FunFrames X.base X.outer:=by
 have all:∀(l:List Env),(∀b∈Ig l,b∈X.fs)->X.s₀.heap.FunFrames X.base l->s.heap.FunFrames X.base l:=by
  intro l
  induction l with
  |nil=>intro _ _;trivial
  |cons env r ih=>
   intro hs hl
   obtain⟨hk,⟨L,o,hf,hn,ho,hd⟩,hr⟩:=hl
   have hL:L∈X.fs:=hs L (by unfold Ig;rw[GW,hf];exact BH)
   obtain⟨sl,e⟩:=I.base.slot L o ho (I.ok.frf L hL) hL λz=>I.ok.exfs L z hL
   exact⟨hk,⟨L,_,hf,hn,e,hd⟩,ih (λb hb=>hs b (by unfold Ig;rw[GW,hf];exact AV _ hb)) hr⟩
 exact all X.outer (λ_ hb=>hb) I.ok.funs
theorem Inv.stack (I:Inv X pins σ H s):s.heap.FunFrames X.base X.stack:=by
 rcases I.ok.stk with e|⟨e,hf⟩
 .rw[e];exact I.funs
 .rw[e]
  obtain⟨m,hn,_⟩:=I.loc
  refine .cons (by rw[I.ok.kind];decide) hf hn ?_ I.funs
  exact Heap.get?_none_of_le (BA I.ok.bsz I.ok.above)
def Inv.stkSub (I:Inv X pins σ H s):∀b∈Ig X.stack,b∈X.env.locals::X.fs:=λb hb=>by
 rcases I.ok.stk with e|⟨e,hf⟩
 .rw[e] at hb;exact AV _ hb
 .rw[e] at hb
  unfold Ig at hb
  rw[GW,hf] at hb
  exact hb
def Inv.stkFree (I:Inv X pins σ H s):∀b∈Ig X.stack,H b=none:=λb hb=>by
 rcases AW.mp (I.stkSub b hb) with e|hb
 .rw[e];exact I.free
 .obtain⟨_,o,ho,_⟩:=I.ok.funs.mem hb
  exact I.base.free b o ho (I.ok.frf b hb) λz=>I.ok.exfs b z hb
def Inv.step {g':Array GenState}{t':Nat}{d':Drawn}{ch:List Addr}(I:Inv X pins σ H s)(YT:∀b∈ch,(b∈X.ex\/X.s₀.heap.objs.size<=b)/\b≠X.env.locals/\(∀x c,X.env.cells.lookup x=some c->c≠b)/\∀p∈X.pn++pins,p.1≠b)(keep:∀b o,b≠X.env.locals->b ∉ X.fs->b ∉ ch->s.heap.get? b=some o->H b=none->h'.get? b=some o)(slot:∀b o,b≠X.env.locals->b∈X.fs->b ∉ ch->s.heap.get? b=some o->H b=none->∃sl,h'.get? b=some {o with slots:=sl})(free:∀b o,b ∉ ch->s.heap.get? b=some o->H b=none->H' b=none)(there:∀b o,b ∉ ch->s.heap.get? b=some o->∃o',h'.get? b=some o')(tups:∀b xs,H b=some (.tup xs)->H' b=some (.tup xs))(frzs:∀b o u,H b=some (.frz o u)->H' b=some (.frz o u))(tbls:∀b l c q,H b=some (.tbl l c q)->H' b=some (.tbl l c q))(ns:∀m,s.heap.Ns X.env.locals m->h'.Ns X.env.locals m)(hok:HOk X.prog X.w H' h')(hg:AllBare g'):
  Inv X pins σ H' {s with heap:=h',gens:=g',drawn:=d',toks:=t'}:=by
 have mU:∀b o,X.s₀.heap.get? b=some o->b≠X.env.locals:=λb o e=>AK (BB (AN e) I.ok.above)
 have cG:∀b o,X.s₀.heap.get? b=some o->b ∉ X.ex->b ∉ ch:=λb o e hx hb=>by
  rcases(YT b hb).1 with z|z
  .exact hx z
  .exact absurd (BB (AN e) z) (EO _)
 have cellK:∀x c,X.env.cells.lookup x=some c->∀v,s.heap.IsCell c v->h'.IsCell c v:=λx c e v ⟨o,ho,hd⟩=>by
  have dZ:c ∉ ch:=λz=>(YT c z).2.2.1 x c e rfl
  by_cases hc:c∈X.fs
  .obtain⟨sl,q⟩:=slot c o (I.cne x c e) hc dZ ho (I.freeC x c e)
   exact⟨_,q,hd⟩
  .exact⟨o,keep c o (I.cne x c e) hc dZ ho (I.freeC x c e),hd⟩
 refine⟨I.ok,I.os,hg,⟨λb o e n hb hx=>?_,λb o e n hb hx=>?_,λb o e n hx=>?_,λb o e hx=>?_,λb xs e=>tups b xs (I.base.tups b xs e),λb o xs e=>frzs b o xs (I.base.frzs b o xs e),λb l c q e=>tbls b l c q (I.base.tbls b l c q e)⟩,?_,λx c e=>?_,?_,λx c e=>?_,λp hp=>?_,hok,I.len⟩
 .exact keep b o (mU b o e) hb (cG b o e hx) (I.base.keep b o e n hb hx) (I.base.free b o e n hx)
 .obtain⟨sl,e1⟩:=I.base.slot b o e n hb hx
  obtain⟨sF,e2⟩:=slot b _ (mU b o e) hb (cG b o e hx) e1 (I.base.free b o e n hx)
  exact⟨sF,e2⟩
 .obtain⟨o',e1⟩:=I.base.there b o e hx
  exact free b o' (cG b o e hx) e1 (I.base.free b o e n hx)
 .obtain⟨o',e1⟩:=I.base.there b o e hx
  exact there b o' (cG b o e hx) e1
 .obtain⟨m,hn,hl⟩:=I.loc
  refine⟨m,ns m hn,λi x v e1 e2 e3=>?_⟩
  obtain⟨u,r,l⟩:=hl i x v e1 e2 e3
  refine⟨u,r,?_⟩
  rcases l with l|⟨k,c,e,z⟩
  .exact .inl l
  .exact .inr ⟨k,c,e,cellK x c e _ z⟩
 .obtain⟨v,z⟩:=I.cell x c e
  exact⟨v,cellK x c e v z⟩
 .obtain⟨m,⟨o,_,_,ho,_⟩,_⟩:=I.loc
  exact free _ o (λz=>(YT _ z).2.1 rfl) ho I.free
 .obtain⟨v,o,ho,hd⟩:=I.cell x c e
  exact free c o (λz=>(YT c z).2.2.1 x c e rfl) ho (I.freeC x c e)
 .obtain⟨e,n,ne,nf,d⟩:=I.pin p hp
  have dZ:p.1 ∉ ch:=λz=>(YT p.1 z).2.2.2 p hp rfl
  exact⟨keep p.1 p.2 ne nf dZ e n,free p.1 p.2 dZ e n,ne,nf,d⟩
def Inv.un {t':Nat}(I:Inv X pins σ H s)(u:Un X.fs [] H H' s.heap h')(hok:HOk X.prog X.w H' h'):Inv X pins σ H' {s with heap:=h',toks:=t'}:=by
 obtain⟨m,⟨o,es,ep,ho,r⟩,_⟩:=id I.loc
 obtain⟨sl,hL⟩:=u.any ho I.free (by simp)
 exact I.step (g':=s.gens) (d':=s.drawn) (ch:=[]) (λ_ z=>nomatch z) (λb o _ hb _ e n=>u.keep b o e n hb (by simp)) (λb o _ hb _ e n=>u.slot b o e n hb (by simp)) (λb o _ e n=>u.free b o e n (by simp)) (λb o _ e=>u.there b o e (by simp)) u.tups u.frzs u.tbls (λm' hm=>by
  obtain⟨o',kJ,kM,UU,r'⟩:=hm
  rw[ho] at UU;cases UU
  exact⟨_,kJ,kM,hL,r'⟩) hok I.bare
def Inv.call {g':Array GenState}{t':Nat}{d':Drawn}{ch:List Addr}(I:Inv X pins σ H s)(u:Un (Ig X.stack) ch H H' s.heap h')(hok:HOk X.prog X.w H' h')(hg:AllBare g')(YT:∀b∈ch,(b∈X.ex\/X.s₀.heap.objs.size<=b)/\b≠X.env.locals/\(∀x c,X.env.cells.lookup x=some c->c≠b)/\∀p∈X.pn++pins,p.1≠b):
  Inv X pins σ H' {s with heap:=h',gens:=g',drawn:=d',toks:=t'}:=by
 obtain⟨m,⟨o,es,ep,ho,r⟩,_⟩:=id I.loc
 obtain⟨sl,hL⟩:=u.any ho I.free λz=>(YT _ z).2.1 rfl
 exact I.step (ch:=ch) YT (λb o hL hb hc e n=>u.keep b o e n (λz=>(AW.mp (I.stkSub b z)).elim hL hb) hc) (λb o _ _ hc e n=>u.any e n hc) (λb o hc e n=>u.free b o e n hc) (λb o hc e=>u.there b o e hc) u.tups u.frzs u.tbls (λm' hm=>by
  obtain⟨o',kJ,kM,UU,r'⟩:=hm
  rw[ho] at UU;cases UU
  exact⟨_,kJ,kM,hL,r'⟩) hok hg
def Inv.turned {t':Nat}{it:Addr}(I:Inv X pins σ H s)(k:∀b o,b≠it->s.heap.get? b=some o->h'.get? b=some o)(hn:H it=none)(hL:it≠X.env.locals)(h1:it∈X.ex\/X.s₀.heap.objs.size<=it)(h2:∀x c,X.env.cells.lookup x=some c->c≠it)(h3:∀p∈X.pn++pins,p.1≠it):Inv X pins σ H {s with heap:=h',toks:=t'}:=by
 have mT:∀b u,H b=some u->b≠it:=λb u e z=>by rw[z,hn] at e;cases e
 refine I.step (g':=s.gens) (d':=s.drawn) (ch:=[it]) (λb hb=>?_) (λb o _ _ hc e _=>k b o (λz=>hc (by simp[z])) e) (λb o _ _ hc e _=>⟨o.slots,k b o (λz=>hc (by simp[z])) e⟩) (λ_ _ _ _ n=>n)
  (λb o hc e=>⟨o,k b o (λz=>hc (by simp[z])) e⟩) (λ_ _ e=>e) (λ_ _ _ e=>e) (λ_ _ _ _ e=>e) (λm hm=>?_) (λb u e=>?_) I.bare
 .have e:b=it:=by simpa using hb
  subst e
  exact⟨h1,hL,h2,h3⟩
 .obtain⟨o,es,ep,ho,r⟩:=hm
  exact⟨o,es,ep,k _ o (EL hL) ho,r⟩
 .refine(I.hok b u e).stay (λc v hc q=>k c v ?_ q) (λ_ q=>q) (λ_ _ q=>q) λ_ _ _ q=>q
  rcases hc with z|z
  .rw[z];exact mT b u e
  .exact mT c _ z
def Inv.tok (I:Inv X pins σ H s)(t:Nat):Inv X pins σ H {s with toks:=t}:=I.un (h':=s.heap) (t':=t) Un.refl I.hok
theorem Inv.kept {t':Nat}(I:Inv X pins σ H s)(k:∀b u,s.heap.get? b=some u->h'.get? b=some u):Inv X pins σ H {s with heap:=h',toks:=t'}:=I.un (Un.kept k) (I.hok.kept k)
theorem Inv.laid {a:Addr}{o:HO}{t':Nat}(I:Inv X pins σ H s)(k:∀b u,s.heap.get? b=some u->h'.get? b=some u)(hp:s.heap.objs.size<=a)(new:ObjOk X.prog X.w (upd H a o) h' a o):
  Inv X pins σ (upd H a o) {s with heap:=h',toks:=t'}:=I.un (Un.laid k hp (I.hok.fresh hp)) (I.hok.laid k hp new)
theorem Inv.write {x e:Addr}{o:HO}{t':Nat}(I:Inv X pins σ H s)(mu:fR (H x))(he:e=x\/H e=some (.own x))(k:∀b u,b≠e->s.heap.get? b=some u->h'.get? b=some u)(cO:∃u,h'.get? e=some u)(new:ObjOk X.prog X.w (upd H x o) h' x o):Inv X pins σ (upd H x o) {s with heap:=h',toks:=t'}:=I.un (Un.write mu he k cO) (I.hok.write mu he k cO new)
def Inv.pins_of {aO:List (Addr×Obj)}(I:Inv X pins σ H s)(h:∀p∈aO,s.heap.get? p.1=some p.2/\H p.1=none/\p.1≠X.env.locals/\p.1 ∉ X.fs/\∀v,p.2.data≠.cell v):Inv X aO σ H s:=
 ⟨I.ok,I.os,I.bare,I.base,I.loc,I.cell,I.free,I.freeC,λp hp=>(DK.mp hp).elim (λz=>I.pin p (JS _ z)) (h p),I.hok,I.len⟩
def C2 {N:List Str}(hN:N.Nodup){i j:Nat}{x:Str}(a:N[i]?=some x)(b:N[j]?=some x):i=j:=by
 obtain⟨h1,e1⟩:=AE.mp a
 obtain⟨h2,e2⟩:=AE.mp b
 exact(List.getElem_inj hN).mp (e1.trans e2.symm)
def Mv {M:Model}{A:Around}{E:Value->Shared->Prop}{i:Nat}{x:Str}{v:V}{u:Value}{Q:Unit->Shared->Prop}(I:Inv X pins σ H s)(hN:X.N.Nodup)(hi:X.N[i]?=some x)(hx:WN X.env.scope x)(r:RelV v u)(h:∀s',Inv X pins (σ.set i (some v)) H s'->(∃a,Heap.SameBut a s.heap s'.heap/\(a=X.env.locals\/X.env.cells.lookup x=some a))->Q () s')(hf:X.fn x=true\/X.env.scope.names.lookup x=some .local:=by first|exact .inl rfl|exact .inr rfl|assumption):wpAny M A (storeName X.env x u) Q E s:=by
 obtain⟨m,hn,hl⟩:=id I.loc
 have j3:(X.env.scope.kind==.class||(X.env.scope.kind==.module&&X.env.locals != X.env.globals))=false:=by rw[I.ok.kind];rfl
 have mi:i<σ.length:=by rw[I.len];exact(AE.mp hi).1
 have cne:=I.cne
 have tracked:∀{a:Addr}{h':Heap},(∃o,s.heap.get? a=some o/\H a=none)->Heap.SameBut a s.heap h'->HOk X.prog X.w H h':=λ{a h'} ha hs b ob e=>by
  obtain⟨_,_,SX⟩:=ha
  refine(I.hok b ob e).stay (λc w' hc q=>(hs.2 c ?_).trans q) (λ_ q=>q) (λ_ _ q=>q) λ_ _ _ q=>q
  rintro rfl
  rcases hc with rfl|hc
  .rw[SX] at e;cases e
  .rw[SX] at hc;cases hc
 rcases hx with hk|hk
 .refine wpAny_storeName_local hk hn (λh' gK hs=>?_) j3
  obtain⟨oL,_,_,bG,_⟩:=id hn
  refine h _ ⟨I.ok,I.os,I.bare,⟨λb o e n hb hx=>?_,λb o e n hb hx=>?_,I.base.free,λb o e hx=>?_,I.base.tups,I.base.frzs,I.base.tbls⟩,⟨_,gK,λj y v' e1 e2 e3=>?_⟩,λy c e=>?_,I.free,I.freeC,λp hp=>?_,tracked ⟨oL,bG,I.free⟩ hs,by simpa using I.len⟩ ⟨_,hs,.inl rfl⟩
  .exact(hs.2 b (AK (BB (AN e) I.ok.above))).trans (I.base.keep b o e n hb hx)
  .obtain⟨sl,e1⟩:=I.base.slot b o e n hb hx
   exact⟨sl,(hs.2 b (AK (BB (AN e) I.ok.above))).trans e1⟩
  .obtain⟨o',e1⟩:=I.base.there b o e hx
   exact⟨o',(hs.2 b (AK (BB (AN e) I.ok.above))).trans e1⟩
  .by_cases hj:j=i
   .subst hj
    rw[hi] at e1;cases e1
    rw[AY mi] at e2
    cases e2
    exact⟨u,r,.inl ⟨hk,by simp⟩⟩
   .rw[AR (EL hj)] at e2
    obtain⟨u',r',q⟩:=hl j y v' e1 e2 e3
    refine⟨u',r',?_⟩
    rcases q with⟨k,e⟩|⟨k,c,e,z⟩
    .refine .inl ⟨k,?_⟩
     have:y≠x:=λe=>hj (C2 hN e1 (e▸hi))
     simp[this,e]
    .exact .inr ⟨k,c,e,z.sameBut hs (cne y c e)⟩
  .obtain⟨w',z⟩:=I.cell y c e
   exact⟨w',z.sameBut hs (cne y c e)⟩
  .obtain⟨e,n,ne,nf,d⟩:=I.pin p hp
   exact⟨(hs.2 p.1 ne).trans e,n,ne,nf,d⟩
 .have eD:X.fn x=true:=by
   rcases hf with z|z
   .exact z
   .rw[z] at hk;cases hk
  obtain⟨c,hc⟩:=I.ok.has x (.inl hk)
  obtain⟨w',z⟩:=I.cell x c hc
  refine wpAny_storeName_cell I.ok.kind hk hc z (λh' j8 hs=>?_)
  obtain⟨oc,me,jk⟩:=id z
  refine h {s with heap:=h'} ⟨I.ok,I.os,I.bare,⟨λb o e n hb hx=>?_,λb o e n hb hx=>?_,I.base.free,λb o e hx=>?_,I.base.tups,I.base.frzs,I.base.tbls⟩,⟨m,hn.sameBut hs (EL (cne x c hc)),λj y v' e1 e2 e3=>?_⟩,λy c' e=>?_,I.free,I.freeC,λp hp=>?_,tracked ⟨oc,me,I.freeC x c hc⟩ hs,by simpa using I.len⟩ ⟨c,hs,.inr hc⟩
  .exact(hs.2 b (AK (BB (AN e) (I.ok.cab x c eD hc)))).trans (I.base.keep b o e n hb hx)
  .obtain⟨sl,e1⟩:=I.base.slot b o e n hb hx
   exact⟨sl,(hs.2 b (AK (BB (AN e) (I.ok.cab x c eD hc)))).trans e1⟩
  .obtain⟨o',e1⟩:=I.base.there b o e hx
   exact⟨o',(hs.2 b (AK (BB (AN e) (I.ok.cab x c eD hc)))).trans e1⟩
  .by_cases hj:j=i
   .subst hj
    rw[hi] at e1;cases e1
    rw[AY mi] at e2
    cases e2
    exact⟨u,r,.inr ⟨.inl hk,c,hc,j8⟩⟩
   .rw[AR (EL hj)] at e2
    obtain⟨u',r',q⟩:=hl j y v' e1 e2 e3
    refine⟨u',r',?_⟩
    rcases q with q|⟨k,c',e,z'⟩
    .exact .inl q
    .refine .inr ⟨k,c',e,z'.sameBut hs ?_⟩
     rintro rfl
     exact hj (C2 hN e1 (I.ok.inj _ _ _ e hc▸hi))
  .by_cases gU:c'=c
   .subst gU;exact⟨_,j8⟩
   .obtain⟨w2,z2⟩:=I.cell y c' e
    exact⟨w2,z2.sameBut hs gU⟩
  .obtain⟨e,n,ne,nf,d⟩:=I.pin p hp
   refine⟨(hs.2 p.1 ?_).trans e,n,ne,nf,d⟩
   intro q
   rw[q,me] at e
   have q':oc=p.2:=BJ e
   exact d w' (by rw[<-q'];exact jk)
def Ny {M:Model}{A:Around}{E:Value->Shared->Prop}{i:Nat}{x:Str}{v:V}{u:Value}{Q:Unit->Shared->Prop}(I:Inv X pins σ H s)(hN:X.N.Nodup)(hi:X.N[i]?=some x)(hx:WN X.env.scope x)(r:RelV v u)(h:∀s',Inv X pins (σ.set i (some v)) H s'->Q () s')(hf:X.fn x=true\/X.env.scope.names.lookup x=some .local:=by first|exact .inl rfl|exact .inr rfl|assumption):wpAny M A (storeName X.env x u) Q E s:=
 Mv I hN hi hx r (λs' I' _=>h s' I') hf
def Inv.call' {s':Shared}{ch:List Addr}(I:Inv X pins σ H s)(ho:s'.os=s.os)(u:Un (Ig X.stack) ch H H' s.heap s'.heap)(hok:HOk X.prog X.w H' s'.heap)(hg:AllBare s'.gens)(YT:∀b∈ch,(b∈X.ex\/X.s₀.heap.objs.size<=b)/\b≠X.env.locals/\(∀x c,X.env.cells.lookup x=some c->c≠b)/\∀p∈X.pn++pins,p.1≠b):Inv X pins σ H' s':=by
 obtain⟨h',g',d',t',o'⟩:=s'
 have e:o'=s.os:=ho
 subst e
 exact I.call (g':=g') (t':=t') (d':=d') u hok hg YT
end
abbrev XK:=Value->Option Addr->Hp->Prop
abbrev St:=List (Option V)
abbrev VK:=V->Hp->Prop
abbrev TE:=St->Hp->VK->Prop
abbrev TT:=St->Hp->(Bool->Hp->Prop)->Prop
abbrev TA:=St->Hp->(List V->Hp->Prop)->Prop
structure Ends where
 nx:St->Hp->Prop
 rt:VK
 bk:St->Hp->Prop:=λ_ _=>False
 ct:St->Hp->Prop:=λ_ _=>False
abbrev TS:=Ends->St->Hp->Prop
def EP (X:Cx)(pins:List (Addr×Obj))(σ:St)(Q:VK)(u:Value)(s':Shared):Prop:=∃v H',Inv X pins σ H' s'/\RelV v u/\Q v H'
def TP (X:Cx)(pins:List (Addr×Obj))(σ:St)(Q:Bool->Hp->Prop)(b:Bool)(s':Shared):Prop:=∃H',Inv X pins σ H' s'/\Q b H'
def AP (X:Cx)(pins:List (Addr×Obj))(σ:St)(Q:List V->Hp->Prop)(us:List Value)(s':Shared):Prop:=∃vs H',Inv X pins σ H' s'/\Vals vs us/\Q vs H'
def SP (X:Cx)(pins:List (Addr×Obj))(D:Ends)(f:Flow)(s':Shared):Prop:=
 match f with
 |.next=>∃σ' H',Inv X pins σ' H' s'/\D.nx σ' H'
 |.brk=>∃σ' H',Inv X pins σ' H' s'/\D.bk σ' H'
 |.cont=>∃σ' H',Inv X pins σ' H' s'/\D.ct σ' H'
 |.ret u=>∃v σ' H',Inv X pins σ' H' s'/\RelV v u/\D.rt v H'
def PE (X:Cx)(e:Expr)(t:TE):Prop:=
 ∀(pins:List (Addr×Obj)) (s:Shared) (σ:St) (H:Hp) (Q:VK),Inv X pins σ H s->t σ H Q->wpAny (model X.prog X.w) X.A (eval e X.env) (EP X pins σ Q) X.xe s
def PT (X:Cx)(e:Expr)(t:TT):Prop:=
 ∀(pins:List (Addr×Obj)) (s:Shared) (σ:St) (H:Hp) (Q:Bool->Hp->Prop),Inv X pins σ H s->t σ H Q->wpAny (model X.prog X.w) X.A (isTrue e X.env (eval e X.env)) (TP X pins σ Q) X.xe s
def PW (X:Cx)(e:Expr)(t:TT):Prop:=
 ∀(whole:Sem Value) (pins:List (Addr×Obj)) (s:Shared) (σ:St) (H:Hp) (Q:Bool->Hp->Prop),Inv X pins σ H s->t σ H Q->wpAny (model X.prog X.w) X.A (isTrue e X.env whole) (TP X pins σ Q) X.xe s
def PW.pt {X:Cx}{e:Expr}{t:TT}(h:PW X e t):PT X e t:=h _
def PA (X:Cx)(es:List Expr)(t:TA):Prop:=
 ∀(pos:Pos) (pins:List (Addr×Obj)) (s:Shared) (σ:St) (H:Hp) (Q:List V->Hp->Prop),Inv X pins σ H s->t σ H Q->wpAny (model X.prog X.w) X.A (spliced (backTo pos (starEach es X.env))) (AP X pins σ Q) X.xe s
def PS (X:Cx)(st:Stmt)(t:TS):Prop:=
 ∀(pins:List (Addr×Obj)) (s:Shared) (σ:St) (H:Hp) (D:Ends),Inv X pins σ H s->t D σ H->wpAny (model X.prog X.w) X.A (exec st X.env) (SP X pins D) X.xe s
def PSs (X:Cx)(st:List Stmt)(t:TS):Prop:=
 ∀(pins:List (Addr×Obj)) (s:Shared) (σ:St) (H:Hp) (D:Ends),Inv X pins σ H s->t D σ H->wpAny (model X.prog X.w) X.A (execs st X.env) (SP X pins D) X.xe s
def Y8 {α:Type}{t:Sem α}{Q Q':α->Shared->Prop}{M:Model}{A:Around}{E:Value->Shared->Prop}{s:Shared}(h:wpAny M A t Q E s)(hQ:∀a s,Q a s->Q' a s):wpAny M A t Q' E s:=BR h hQ λ_ _ x=>x
section
variable {X:Cx}
def fm (i:Nat):TE:=λσ H Q=>∃v,σ[i]?=some (some v)/\Q v H
def tC (v:V):TE:=λ_ H Q=>Q v H
def Qe {i:Nat}{x:Str}{pos:Pos}(hN:X.N[i]?=some x)(hv:Mc X.env.scope x) (hd:(x==("__debug__":Str))=false:=by decide) (NL:(x==("__classdict__":Str))=false:=by decide):PE X (.Name x pos) (fm i):=by
 intro pins s σ H Q I h
 obtain⟨v,e,h⟩:=h
 obtain⟨m,hn,hl⟩:=I.loc
 obtain⟨u,r,l⟩:=hl i x v hN e hv
 have fin:EP X pins σ Q u s:=⟨v,H,I,r,h⟩
 rcases l with⟨hk,hm⟩|⟨hk,c,hc,PQ⟩
 .exact wpAny_Name (wpAny_loadName_local I.ok.kind hk hn hm fin) hd
 .rcases hk with hk|hk
  .exact wpAny_Name (wpAny_loadName_cell I.ok.kind hk hc PQ fin) hd
  .exact wpAny_Name (wpAny_loadName_free I.ok.kind hk hc PQ fin NL) hd
def zf {i j pos}:PE X (.Constant (.int i) j pos) (tC (.int i)):=λ_ _ _ H _ I h=>wpAny_Constant_int ⟨.int i,H,I.tok _,⟨_,rfl⟩,h⟩
def yM {b j pos}:PE X (.Constant (.bool b) j pos) (tC (.bl b)):=λ_ _ _ H _ I h=>Constant_bool ⟨.bl b,H,I,rfl,h⟩
def ze {j pos}:PE X (.Constant .none j pos) (tC .non):=λ_ _ _ H _ I h=>Constant_none ⟨.non,H,I,rfl,h⟩
def zd {x j pos}:PE X (.Constant (.str x) j pos) (tC (.str x)):=λ_ _ _ H _ I h=>Calls.Constant_str ⟨.str x,H,I.tok _,⟨_,rfl⟩,h⟩
def Gl (X:Cx)(x:Str):Prop:=X.env.kindOf x=some .globalImplicit
def B6 {E:Value->Shared->Prop}{pins:List (Addr×Obj)}{s:Shared}{σ:St}{H:Hp}{x:Str}{u:Value}{pos:Pos}{Q:Value->Shared->Prop}(I:Inv X pins σ H s)(hg:Gl X x)(hm:X.mg x=some u)(h:Q u s)
  (hd:(x==("__debug__":Str))=false:=by decide):wpAny (model X.prog X.w) X.A (eval (.Name x pos) X.env) Q E s:=
 JV I.ok.kind hg (Calls.loadGlobal_global (by rw[I.ok.glob];exact I.mod.glob.keeps I.bk) hm h) hd
def Gz {E:Value->Shared->Prop}{pins:List (Addr×Obj)}{s:Shared}{σ:St}{H:Hp}{x:Str}{u:Value}{pos:Pos}{Q:Value->Shared->Prop}(I:Inv X pins σ H s)(hg:Gl X x)(hm:X.mg x=none)(hv:bootBuiltins x=some u)(h:Q u s)
  (hn:x ≠ "__name__":=by decide) (hd:(x==("__debug__":Str))=false:=by decide):wpAny (model X.prog X.w) X.A (eval (.Name x pos) X.env) Q E s:=by
 obtain⟨mb,h1,h2⟩:=I.mod.blt
 exact JV I.ok.kind hg (Calls.loadGlobal_builtin (by rw[I.ok.glob];exact I.mod.glob.keeps I.bk) hm (by rw[I.ok.blt];exact h1.keeps I.bk) ((h2 x hn).trans hv) h) hd
def Zf7 {x:Str}{v:V}{u:Value}{pos:Pos}(hg:Gl X x)(hm:X.mg x=some u)(r:RelV v u) (hd:(x==("__debug__":Str))=false:=by decide):PE X (.Name x pos) (tC v):=
 λ_ _ _ H _ I h=>B6 I hg hm ⟨v,H,I,r,h⟩ hd
def Zf8 {x:Str}{v:V}{u:Value}{pos:Pos}(hg:Gl X x)(hm:X.mg x=none)(hv:bootBuiltins x=some u)(r:RelV v u) (hn:x ≠ "__name__":=by decide) (hd:(x==("__debug__":Str))=false:=by decide):PE X (.Name x pos) (tC v):=
 λ_ _ _ H _ I h=>Gz I hg hm hv ⟨v,H,I,r,h⟩ hn hd
variable {a b:Expr}{ta tb:TE}{pos:Pos}
def PC (X:Cx)(op:CmpOp)(a b:Expr)(t:TE):Prop:=
 ∀(pins:List (Addr×Obj)) (s:Shared) (σ:St) (H:Hp) (Q:VK),Inv X pins σ H s->t σ H Q ->
  wpAny (model X.prog X.w) X.A (eval a X.env) (λv s₁=>wpAny (model X.prog X.w) X.A (eval b X.env) (λu s₂=>wpAny (model X.prog X.w) X.A (compareOp op v u) (EP X pins σ Q) X.xe s₂) X.xe s₁) X.xe s
def tB (t:TE):TT:=λσ H Q=>t σ H λx H1=>∃c,x=.bl c/\Q c H1
def zb {op:CmpOp}{t:TE}(h:PC X op a b t)(h1:behindInMarks op b=false:=by first|exact dY _ (by decide) (by decide)|rfl):PT X (.Compare a [op] [b] pos) (tB t):=by
 intro pins s σ H Q I hw
 refine LR (Y8 (h pins s σ H _ I hw) λv s1 h1=>Y8 h1 λu s2 h2=>Y8 h2 λc s3 ⟨x,H1,I1,r1,q1⟩=>?_) h1
 obtain⟨d,rfl,q⟩:=q1
 cases r1
 exact DB ⟨H1,I1,q⟩
def za {e:Expr}{t:TE}(h:PE X e t)(he:∀whole,isTrue e X.env whole=(do let v <-whole;standAt e.pos;holding [v] (truthy v)):=by intro _;rfl):PT X e (tB t):=by
 intro pins s σ H Q I hw
 refine isTrue_plain (Y8 (h pins s σ H _ I hw) λv s1 ⟨x,H1,I1,r1,q1⟩=>?_) (he _)
 obtain⟨d,rfl,q⟩:=q1
 cases r1
 exact DB ⟨H1,I1,q⟩
variable {tA gD:TT}{rest:List Expr}
def wm (t u:TT):TT:=λσ H Q=>t σ H λc H1=>if c=true then u σ H1 Q else Q false H1
def vg (t u:TT):TT:=λσ H Q=>t σ H λc H1=>if c=true then Q true H1 else u σ H1 Q
def wj (t:TT):TT:=λσ H Q=>t σ H λc H1=>Q (!c) H1
def Zf9 (ha:PT X a tA):PW X (.BoolOp .And [a] pos) tA:=by
 intro wh pins s σ H Q I h
 refine isTrue_and (Y8 (ha pins s σ H Q I h) λc s1 e=>?_)
 cases c with
 |true=>exact isTrue_and_nil e
 |false=>exact e
def zZ (ha:PT X a tA):PW X (.BoolOp .Or [a] pos) tA:=by
 intro wh pins s σ H Q I h
 refine isTrue_or (Y8 (ha pins s σ H Q I h) λc s1 e=>?_)
 cases c with
 |false=>exact isTrue_or_nil e
 |true=>exact e
def zY (ha:PT X a tA)(hb:PW X (.BoolOp .And (b::rest) pos) gD):PW X (.BoolOp .And (a::b::rest) pos) (wm tA gD):=by
 intro wh pins s σ H Q I h
 refine isTrue_and (Y8 (ha pins s σ H _ I h) λc s1 ⟨H1,I1,q1⟩=>?_)
 cases c with
 |true=>exact hb wh pins s1 σ H1 Q I1 q1
 |false=>exact⟨H1,I1,q1⟩
def yL (ha:PT X a tA)(hb:PW X (.BoolOp .Or (b::rest) pos) gD):PW X (.BoolOp .Or (a::b::rest) pos) (vg tA gD):=by
 intro wh pins s σ H Q I h
 refine isTrue_or (Y8 (ha pins s σ H _ I h) λc s1 ⟨H1,I1,q1⟩=>?_)
 cases c with
 |true=>exact⟨H1,I1,q1⟩
 |false=>exact hb wh pins s1 σ H1 Q I1 q1
def zX (ha:PT X a tA):PT X (.UnaryOp .Not a pos) (wj tA):=by
 intro pins s σ H Q I h
 exact isTrue_not (ha pins s σ H (λc H1=>Q (!c) H1) I h)
def yK (ta tb:TE):TE:=λσ H Q=>ta σ H λx H1=>∃c,x=.bl c/\if c=true then tb σ H1 Q else Q (.bl false) H1
def yJ (ta:TE):TE:=λσ H Q=>ta σ H λx H1=>∃c,x=.bl c/\Q (.bl (!c)) H1
def zW {op}{t:TE}(h:PE X a t):PE X (.BoolOp op [a] pos) t:=λpins s σ H Q I hw=>BoolOp_one (h pins s σ H Q I hw)
def zJ (ha:PE X a ta)(hb:PE X (.BoolOp .And (b::rest) pos) tb):PE X (.BoolOp .And (a::b::rest) pos) (yK ta tb):=by
 intro pins s σ H Q I h
 refine BoolOp_and (Y8 (ha pins s σ H _ I h) λv s1 ⟨x,H1,I1,r1,q1⟩=>?_)
 obtain⟨c,rfl,q1⟩:=q1
 cases r1
 refine DB ?_
 cases c with
 |true=>exact hb pins s1 σ H1 Q I1 q1
 |false=>exact⟨.bl false,H1,I1,rfl,q1⟩
def zI (ha:PE X a ta):PE X (.UnaryOp .Not a pos) (yJ ta):=by
 intro pins s σ H Q I h
 refine UnaryOp_ (Y8 (ha pins s σ H _ I h) λv s1 ⟨x,H1,I1,r1,q1⟩=>?_)
 obtain⟨c,rfl,q1⟩:=q1
 cases r1
 exact not_of (DB ⟨.bl (!c),H1,I1,rfl,q1⟩)
def vf (t:TT)(ta tb:TE):TE:=λσ H Q=>t σ H λc H1=>if c=true then ta σ H1 Q else tb σ H1 Q
def C3 {c:Expr}(hc:PT X c tA)(ha:PE X a ta)(hb:PE X b tb):PE X (.IfExp c a b pos) (vf tA ta tb):=by
 intro pins s σ H Q I h
 refine wpAny_IfExp (Y8 (hc pins s σ H _ I h) λd s1 ⟨H1,I1,q1⟩=>?_)
 cases d with
 |true=>exact ha pins s1 σ H1 Q I1 q1
 |false=>exact hb pins s1 σ H1 Q I1 q1
end
def SqL (K:PySem.W.Frag)(H:Hp)(a:Addr)(xs:List V):Prop:=
 Rd H a (.lst xs) \/
  ∃(o:Obj) (its:Array Value) (n:Nat),K.lookup a=some o/\o.cls=.type "list"/\o.dict=none/\o.data=.seq its n/\its.size<=sizeLine/\Vals xs its.toList
def SqT (K:PySem.W.Frag)(H:Hp)(a:Addr)(xs:List V):Prop:=
 Rd H a (.tup xs) \/
  ∃(o:Obj) (its:Array Value) (n:Nat),K.lookup a=some o/\o.cls=.type "tuple"/\o.data=.seq its n/\its.size<=sizeLine/\Vals xs its.toList
def iX:Value->Option V
 |.none=>some .non
 |.bool b=>some (.bl b)
 |.int i _=>some (.int i)
 |.str x _=>some (.str x)
 |.bytes b _=>some (.byt b)
 |.float b _=>some (.flt b)
 |.ref a=>some (.ref a)
 |.type n=>some (.ty n)
 |_=>none
def RelV.abs {x:V}{u:Value}(r:RelV x u):iX u=some x:=by
 cases x with
 |non=>cases r;rfl
 |bl _=>cases r;rfl
 |int _=>obtain⟨t,rfl⟩:=r;rfl
 |str _=>obtain⟨t,rfl⟩:=r;rfl
 |byt _=>obtain⟨t,rfl⟩:=r;rfl
 |flt _=>obtain⟨t,rfl⟩:=r;rfl
 |ref _=>cases r;rfl
 |ty _=>cases r;rfl
theorem RelV.inj {x y:V}{u:Value}(r:RelV x u)(q:RelV y u):x=y:=BJ (r.abs.symm.trans q.abs)
theorem Vals.inj:∀{xs ys:List V}{us:List Value},Vals xs us->Vals ys us->xs=ys
 |_,_,_,.nil,.nil=>rfl
 |_,_,_,.cons r t,.cons r' t'=>by rw[r.inj r',Vals.inj t t']
section
variable {X:Cx}{pins:List (Addr×Obj)}{σ:St}{H:Hp}{s:Shared}{a:Addr}{xs ys:List V}
def SqL.of {K:PySem.W.Frag}(h:H a=some (.lst xs)):SqL K H a xs:=.inl (.inl h)
def SqT.of {K:PySem.W.Frag}(h:H a=some (.tup xs)):SqT K H a xs:=.inl (.inl h)
def Inv.list (I:Inv X pins σ H s)(h:SqL X.K H a xs):∃its:List Value,Vals xs its/\PlainL s.heap a its.toArray/\xs.length<=sizeLine:=by
 rcases h with h|⟨o,its,n,hk,hc,hd,hs,hz,r⟩
 .obtain⟨z,its,n,r,e⟩:=h.ok I.hok
  exact⟨its,r,⟨_,n,e,rfl,rfl,rfl⟩,z⟩
 .refine⟨its.toList,r,⟨o,n,I.kIn a o hk,hc,hd,by simpa using hs⟩,?_⟩
  have e:=r.length
  simp only[DN] at e
  omega
def Inv.tuple (I:Inv X pins σ H s)(h:SqT X.K H a xs):∃its:List Value,Vals xs its/\IsTup s.heap a its.toArray/\xs.length<=sizeLine:=by
 rcases h with h|⟨o,its,n,hk,hc,hs,hz,r⟩
 .obtain⟨z,its,r,p⟩:=h.ok I.hok
  exact⟨its,r,p,z⟩
 .refine⟨its.toList,r,⟨o,I.kIn a o hk,hc,n,by simpa using hs⟩,?_⟩
  have e:=r.length
  simp only[DN] at e
  omega
def Inv.list_inj (I:Inv X pins σ H s)(h:SqL X.K H a xs)(h':SqL X.K H a ys):xs=ys:=by
 obtain⟨its,r,⟨o,n,e,_,_,d⟩,_⟩:=I.list h
 obtain⟨its',r',⟨o',n',e',_,_,d'⟩,_⟩:=I.list h'
 rw[e] at e';cases e'
 rw[d] at d'
 injection d' with d1 _
 have:its=its':=by simpa using congrArg Array.toList d1
 subst this
 exact r.inj r'
def Inv.tuple_inj (I:Inv X pins σ H s)(h:SqT X.K H a xs)(h':SqT X.K H a ys):xs=ys:=by
 obtain⟨its,r,⟨o,e,_,n,d⟩,_⟩:=I.tuple h
 obtain⟨its',r',⟨o',e',_,n',d'⟩,_⟩:=I.tuple h'
 rw[e] at e';cases e'
 rw[d] at d'
 injection d' with d1 _
 have:its=its':=by simpa using congrArg Array.toList d1
 subst this
 exact r.inj r'
end
abbrev Cx.wish (X:Cx)(E:Value->Shared->Prop):Cx:={X with xe:=E}
abbrev Cx.nox (X:Cx):Cx:=X.wish λ_ _=>False
theorem Cx.Ok.wish {X:Cx}(ok:X.Ok)(E:Value->Shared->Prop):(X.wish E).Ok:=
 ⟨ok.mod,ok.kind,ok.glob,ok.blt,ok.above,ok.inj,ok.has,ok.cab,ok.hd,ok.frames,ok.stk,ok.exf,ok.bs,ok.bsz,ok.noex,ok.exfs,ok.funs,ok.frf⟩
def Cx.Ok.unwish {X:Cx}{E:Value->Shared->Prop}(ok:(X.wish E).Ok):X.Ok:=
 ⟨ok.mod,ok.kind,ok.glob,ok.blt,ok.above,ok.inj,ok.has,ok.cab,ok.hd,ok.frames,ok.stk,ok.exf,ok.bs,ok.bsz,ok.noex,ok.exfs,ok.funs,ok.frf⟩
section
variable {X:Cx}{pins:List (Addr×Obj)}{σ:St}{H:Hp}{s:Shared}{E:Value->Shared->Prop}
theorem Inv.wish (I:Inv X pins σ H s)(E:Value->Shared->Prop):Inv (X.wish E) pins σ H s:=⟨I.ok.wish E,I.os,I.bare,I.base,I.loc,I.cell,I.free,I.freeC,I.pin,I.hok,I.len⟩
theorem Inv.unwish (I:Inv (X.wish E) pins σ H s):Inv X pins σ H s:=⟨I.ok.unwish,I.os,I.bare,I.base,I.loc,I.cell,I.free,I.freeC,I.pin,I.hok,I.len⟩
theorem SP.unwish {D:Ends}{f:Flow}{s':Shared}(h:SP (X.wish E) pins D f s'):SP X pins D f s':=by
 cases f with
 |next=>obtain⟨σ',H',I,q⟩:=h;exact⟨σ',H',I.unwish,q⟩
 |brk=>obtain⟨σ',H',I,q⟩:=h;exact⟨σ',H',I.unwish,q⟩
 |cont=>obtain⟨σ',H',I,q⟩:=h;exact⟨σ',H',I.unwish,q⟩
 |ret u=>obtain⟨v,σ',H',I,r,q⟩:=h;exact⟨v,σ',H',I.unwish,r,q⟩
theorem PSs.nox {st:List Stmt}{t:TS}(h:PSs X.nox st t):PSs X st t:=λpins s σ H D I hw=>
 BR (h pins s σ H D (I.wish _) hw) (λ_ _ q=>q.unwish) λ_ _ z=>False.elim z
end
section
variable {X:Cx}{st:Stmt}{rest:List Stmt}{t u:TS}{e:Expr}{te:TE}{pos:Pos}
def yH:TS:=λD σ H=>D.nx σ H
def wg (t u:TS):TS:=λD σ H=>t {D with nx:=u D} σ H
def Sz:PSs X [] yH:=λ_ _ σ H _ I h=>GZ ⟨σ,H,I,h⟩
def Qg (h1:PS X st t)(h2:PSs X rest u):PSs X (st::rest) (wg t u):=by
 intro pins s σ H D I h
 refine wpAny_execs_cons (Y8 (h1 pins s σ H {D with nx:=u D} I h) λf s1 q=>?_)
 cases f with
 |next=>
  obtain⟨σ',H',I',q⟩:=q
  exact h2 pins s1 σ' H' D I' q
 |ret v=>exact q
 |brk=>exact q
 |cont=>exact q
def Xu (h1:PS X st t):PSs X [st] t:=by
 intro pins s σ H D I h
 refine wpAny_execs_cons (Y8 (h1 pins s σ H D I h) λf s1 q=>?_)
 cases f with
 |next=>exact GZ q
 |ret v=>exact q
 |brk=>exact q
 |cont=>exact q
def Inv.quiet {pins:List (Addr×Obj)}{σ:St}{H:Hp}{s:Shared}(I:Inv X pins σ H s):interactive X.env=false:=by simp[interactive,I.ok.kind]
def pP (te:TE):TS:=λD σ H=>te σ H λ_ H1=>D.nx σ H1
def Nz (he:PE X e te)(hs:swapsWith e none pos.line X.env=pure false:=by rfl):PS X (.Expr e pos) (pP te):=by
 intro pins s σ H D I h
 exact wpAny_Expr_any (Y8 (he pins s σ H _ I h) λv s1 ⟨x,H1,I1,r1,q1⟩=>⟨σ,H1,I1,q1⟩) I.quiet hs
def we (te:TE):TS:=λD σ H=>te σ H D.rt
def G8 (he:PE X e te):PS X (.Return (some e) pos) (we te):=by
 intro pins s σ H D I h
 exact wpAny_Return_some (Y8 (he pins s σ H _ I h) λv s1 ⟨x,H1,I1,r1,q1⟩=>⟨x,σ,H1,I1,r1,q1⟩)
def wc (c:TT)(t u:TS):TS:=λD σ H=>c σ H λb H1=>if b=true then t D σ H1 else u D σ H1
def Ih {c:Expr}{a b:List Stmt}{tc:TT}(hc:PT X c tc)(ha:PSs X a t)(hb:PSs X b u):PS X (.If c a b pos) (wc tc t u):=by
 intro pins s σ H D I h
 refine wpAny_If (Y8 (hc pins s σ H _ I h) λd s1 ⟨H1,I1,q1⟩=>?_)
 cases d with
 |true=>exact ha pins s1 σ H1 D I1 q1
 |false=>exact hb pins s1 σ H1 D I1 q1
end
abbrev TG:=V->St->Hp->(St->Hp->Prop)->Prop
abbrev af:=List V->St->Hp->(St->Hp->Prop)->Prop
def PG (X:Cx)(target:Expr)(t:TG):Prop:=
 ∀(pins:List (Addr×Obj)) (s:Shared) (σ:St) (H:Hp) (v:V) (u:Value) (Q:St->Hp->Prop),Inv X pins σ H s->RelV v u->t v σ H Q ->
  wpAny (model X.prog X.w) X.A (assign target X.env u) (λ_ s'=>∃σ' H',Inv X pins σ' H' s'/\Q σ' H') X.xe s
def fQ (X:Cx)(ts:List Expr)(t:af):Prop:=
 ∀(pins:List (Addr×Obj)) (s:Shared) (σ:St) (H:Hp) (vs:List V) (us:List Value) (Q:St->Hp->Prop),Inv X pins σ H s->Vals vs us->t vs σ H Q ->
  wpAny (model X.prog X.w) X.A (assignInOrder ((assignEach ts X.env).map (·.2)) us) (λ_ s'=>∃σ' H',Inv X pins σ' H' s'/\Q σ' H') X.xe s
section
variable {X:Cx}{pos:Pos}
def Ii (i:Nat):TG:=λv σ H Q=>Q (σ.set i (some v)) H
def S0 {i:Nat}{x:Str}(hN:X.N.Nodup)(hi:X.N[i]?=some x)(hx:WN X.env.scope x)(hf:X.fn x=true\/X.env.scope.names.lookup x=some .local:=by first|exact .inl rfl|exact .inr rfl|assumption):PG X (.Name x pos) (Ii i):=by
 intro pins s σ H v u Q I r h
 exact wpAny_assign_Name (Ny I hN hi hx r (λs' I'=>⟨_,H,I',h⟩) hf)
def oX:af:=λvs σ H Q=>vs=[]/\Q σ H
def lj (t:TG)(u:af):af:=λvs σ H Q=>∃v r,vs=v::r/\t v σ H λσ' H'=>u r σ' H' Q
def Ij:fQ X [] oX:=by
 intro pins s σ H vs us Q I r h
 obtain⟨e,h⟩:=h
 subst e
 cases r
 exact assignInOrder_nil ⟨σ,H,I,h⟩
def Te {e:Expr}{es:List Expr}{t:TG}{u:af}(h1:PG X e t)(h2:fQ X es u)(hs:(assignEach (e::es) X.env).map (·.2)=assign e X.env::(assignEach es X.env).map (·.2):=by rfl):fQ X (e::es) (lj t u):=by
 intro pins s σ H vs us Q I r h
 obtain⟨v,vr,e1,h⟩:=h
 subst e1
 cases r with
 |cons r rr=>
  rw[hs]
  refine JJ (Y8 (h1 pins s σ H _ _ _ I r h) λ_ s1 ⟨σ1,H1,I1,q1⟩=>?_)
  exact h2 pins s1 σ1 H1 _ _ Q I1 rr q1
def oW (te:TE)(g:TG):TS:=λD σ H=>te σ H λx H1=>g x σ H1 D.nx
def zH {tg e:Expr}{te:TE}{g:TG}(he:PE X e te)(hg:PG X tg g)(hs:swapsWithSole [tg] e pos.line X.env=pure false:=by rfl)(hw:swappedStores [tg] e X.env=pure none:=by rfl)(h1:(assignEach [tg] X.env).map (·.2)=[assign tg X.env]:=by rfl):PS X (.Assign [tg] e pos) (oW te g):=by
 intro pins s σ H D I h
 refine wpAny_Assign_stores (Y8 (he pins s σ H _ I h) λv s1 ⟨x,H1,I1,r1,q1⟩=>?_) hs hw
 rw[h1]
 exact Y8 (hg pins s1 σ H1 x v _ I1 r1 q1) λ_ s2 q=>q
def K3 {i:Nat}{x:Str}{e:Expr}{te:TE}{pos':Pos}(hN:X.N.Nodup)(hi:X.N[i]?=some x)(hx:WN X.env.scope x)(he:PE X e te)(hs:swapsWith e (some (.Name x pos')) pos.line X.env=pure false:=by rfl)(hf:X.fn x=true\/X.env.scope.names.lookup x=some .local:=by first|exact .inl rfl|exact .inr rfl|assumption):
  PS X (.Assign [.Name x pos'] e pos) (oW te (Ii i)):=by
 intro pins s σ H D I h
 refine wpAny_Assign_Name (Y8 (he pins s σ H _ I h) λv s1 ⟨y,H1,I1,r1,q1⟩=>?_) hs
 exact Ny I1 hN hi hx r1 (λs2 I2=>⟨_,H1,I2,q1⟩) hf
def wa (i j:Nat)(ta:TA):TS:=λD σ H=>ta σ H λvs H1=>∃v w,vs=[v,w]/\D.nx ((σ.set i (some v)).set j (some w)) H1
def zG {i j:Nat}{x y:Str}{a b:Expr}{ta:TA}{px py pt:Pos}{kt k2 WO}(hc:X.calm=true)(hN:X.N.Nodup)(hi:X.N[i]?=some x)(hj:X.N[j]?=some y)(cM:i≠j)(hx:X.env.scope.names.lookup x=some .local)(hy:X.env.scope.names.lookup y=some .local)(ha:PA X [a,b] ta)(hw:swappedStores [.Tuple [.Name x px,.Name y py] kt pt] (.Tuple [a,b] k2 WO) X.env=pure (some [x,y]))(hs:swapsWithSole [.Tuple [.Name x px,.Name y py] kt pt] (.Tuple [a,b] k2 WO) pos.line X.env=pure false:=by rfl):
  PS X (.Assign [.Tuple [.Name x px,.Name y py] kt pt] (.Tuple [a,b] k2 WO) pos) (wa i j ta):=by
 intro pins s σ H D I h
 rw[exec_Assign_arm]
 refine AA (FQ ?_)
 rw[hs]
 refine AA (AG ?_)
 rw[AF (by decide)]
 refine AA (Tuple_ (Y8 (ha _ pins s σ H _ I h) λus s1 ⟨vs,H1,I1,r1,q1⟩=>?_))
 obtain⟨v,w,e1,q1⟩:=q1
 subst e1
 obtain⟨u1,u2,rfl,rv,QW⟩:∃u1 u2,us=[u1,u2]/\RelV v u1/\RelV w u2:=by
  cases r1 with
  |cons p q=>
   cases q with
   |cons p' q'=>
    cases q'
    exact⟨_,_,rfl,p,p'⟩
 refine DC ?_ (by show 2<=sizeLine;decide)
 have I2:Inv X pins σ H1 {s1 with heap:=s1.heap.push {cls:=.type "tuple", data:=.seq [u1,u2].toArray}}:=I1.kept (t':=s1.toks) λb o e=>AB _ e
 rw[hw]
 refine AA (AG ?_)
 show wpAny (model X.prog X.w) X.A (do rule "assign.swapped-stores"; let items <-unpackItems (.ref s1.heap.objs.size) 2 none;assignInOrder [λv=>bindName X.env y v,λv=>bindName X.env x v] items.reverse;pure Flow.next) _ _ _
 refine AA (GU (AA (unpackItems_tuple (items:=#[u1,u2]) (I.ok.hd hc) (IsTup.new s1.heap _) λh' cH=>?_)))
 have I3:=I2.kept (h':=h') (t':=s1.toks) λb o e=>cH b o (AK (AN e)) e
 show wpAny _ _ (assignInOrder [λv=>bindName X.env y v,λv=>bindName X.env x v] [u2,u1]>>=λ_=>pure Flow.next) _ _ _
 refine AA (JJ (wpAny_bindName (Ny I3 hN hj (.inl hy) QW (λs2 I4=>?_) (.inr hy))))
 refine JJ (wpAny_bindName (Ny I4 hN hi (.inl hx) rv (λs3 I5=>assignInOrder_nil (AG ?_)) (.inr hx)))
 rw[List.set_comm _ _ (EL cM)] at I5
 exact⟨_,H1,I5,q1⟩
end
section
variable {X:Cx}{pos:Pos}
def zF (c:TT)(tb:TS):TS:=λD σ H=>∃W:Nat->St->Hp->Prop,(∃m,W m σ H)/\∀m σ H,W m σ H ->
 c σ H λb H1=>if b=true then ∃N:St->Hp->Prop,(∀σ' H',N σ' H'->∃m',m'<m/\W m' σ' H')/\tb {D with nx:=N,ct:=N,bk:=D.nx} σ H1 else D.nx σ H1
def C4 {c:Expr}{body:List Stmt}{tc:TT}{tb:TS}(hp:PassesOwn (model X.prog X.w) X.A X.env X.xe)(hc:PT X c tc)(hb:PSs X body tb):PS X (.While c body [] pos) (zF tc tb):=by
 intro pins s σ H D I h
 obtain⟨W,⟨m0,w0⟩,turn⟩:=h
 refine wpAny_While (codeAny_whileLoop (λn s'=>∃σ' H',Inv X pins σ' H' s'/\W n σ' H') ?_ m0 ⟨σ,H,I,w0⟩)
 rintro n s1 ⟨σ1,H1,I1,w1⟩
 refine EH hp (Y8 (hc pins s1 σ1 H1 _ I1 (turn n σ1 H1 w1)) λb s2 ⟨H2,I2,q2⟩=>?_)
 cases b with
 |true=>
  obtain⟨N,hN,q2⟩:=q2
  rw[AD rfl]
  refine EH hp (Y8 (hb pins s2 σ1 H2 _ I2 q2) λf s3 q3=>?_)
  cases f with
  |next=>
   obtain⟨σ3,H3,I3,n3⟩:=q3
   obtain⟨m',hm,w3⟩:=hN σ3 H3 n3
   exact⟨m',hm,σ3,H3,I3,w3⟩
  |cont=>
   obtain⟨σ3,H3,I3,n3⟩:=q3
   obtain⟨m',hm,w3⟩:=hN σ3 H3 n3
   exact⟨m',hm,σ3,H3,I3,w3⟩
  |brk=>exact q3
  |ret v=>exact q3
 |false=>
  rw[AF CB]
  exact GZ ⟨σ1,H2,I2,q2⟩
end
structure It where
 go:Nat->Hp->Prop
 yld:Nat->Hp->V->Hp->Prop
 stop:Nat->Hp->Prop
def Sm (X:Cx)(pins:List (Addr×Obj))(H:Hp)(b:Addr):Prop:=
 H b=none/\b≠X.env.locals/\b ∉ X.fs/\(b∈X.ex\/X.s₀.heap.objs.size<=b)/\(∀x c,X.env.cells.lookup x=some c->c≠b)/\∀p∈X.pn++pins,p.1≠b
def Inv.fpOk {X:Cx}{pins:List (Addr×Obj)}{σ:St}{H H':Hp}{s:Shared}{b:Addr}(I:Inv X pins σ H s)(hb:s.heap.objs.size<=b)(hn:H' b=none):Sm X pins H' b:=by
 refine⟨hn,DX (BB I.lt hb),I.nofs hb,.inr (BA I.sz hb),λx c e z=>?_,λp hp z=>?_⟩
 .obtain⟨v,q⟩:=I.cell x c e
  exact absurd (BB q.lt (by rw[z];exact hb)) (EO _)
 .exact absurd (BB (AN (I.pin p hp).1) (by rw[z];exact hb)) (EO _)
structure Turn (P:Program) (w:World) (K:PySem.W.Frag) (tg:Expr) (J:It) (fp:List Addr) (it:Addr) (tn:Nat->Heap->Prop):Prop where
 mem:it∈fp
 obj:∀i h,tn i h->∀b∈fp,∃o,h.get? b=some o/\∀v,o.data≠.cell v
 keep:∀i h h',tn i h->(∀b∈fp,∀o,h.get? b=some o->h'.get? b=some o)->tn i h'
 item:∀(X:Cx),X.prog=P->X.w=w->X.K=K->X.calm=true->∀(i:Nat) (pins:List (Addr×Obj)) (s:Shared) (σ:St) (H:Hp) (E:Value->Shared->Prop),Inv X pins σ H s->(∀b∈fp,Sm X pins H b)->tn i s.heap->J.go i H ->
  wpAny (model P w) X.A (pyNext (.ref it)) (λr s1=>∃u,r=some u /\
   wpAny (model P w) X.A (letOwnedTupleGo tg (.ref it) u) (λ_ s2=>∃x H',Inv X pins σ H' s2/\RelV x u/\J.yld i H x H'/\tn (i+1) s2.heap/\∀b∈fp,H' b=none) E s1) E s
 done:∀(X:Cx),X.prog=P->X.w=w->X.K=K->X.calm=true->∀(i:Nat) (pins:List (Addr×Obj)) (s:Shared) (σ:St) (H:Hp) (E:Value->Shared->Prop),Inv X pins σ H s->(∀b∈fp,Sm X pins H b)->tn i s.heap->J.stop i H ->
  wpAny (model P w) X.A (pyNext (.ref it)) (λr s1=>r=none/\Inv X pins σ H s1) E s
 self:∀(A:Around) (i:Nat) (s:Shared) (Q:Value->Shared->Prop) (E:Value->Shared->Prop),tn i s.heap->Q (.ref it) s->wpAny (model P w) A (pyIter (.ref it)) Q E s
abbrev TI:=St->Hp->(It->Hp->Prop)->Prop
def n8 (X:Cx)(pins:List (Addr×Obj))(σ:St)(tg:Expr)(R:It->Hp->Prop)(gH:Value)(s2:Shared):Prop:=
 ∃(it:Addr) (fp:List Addr) (tn:Nat->Heap->Prop) (J:It) (H':Hp),gH=.ref it/\Inv X pins σ H' s2/\Turn X.prog X.w X.K tg J fp it tn/\tn 0 s2.heap/\(∀b∈fp,Sm X pins H' b)/\R J H'
def PI (X:Cx)(tg iter:Expr)(wi:TI):Prop:=
 ∀(pins:List (Addr×Obj)) (s:Shared) (σ:St) (H:Hp) (R:It->Hp->Prop),Inv X pins σ H s->wi σ H R ->
  wpAny (model X.prog X.w) X.A (eval iter X.env) (λv s1=>wpAny (model X.prog X.w) X.A (pyIter v) (n8 X pins σ tg R) X.xe s1) X.xe s
def lh {M:Model}{A:Around}{E:Value->Shared->Prop}{s:Shared}{tg:Expr}{it:Addr}{u:Value}{o:Obj}{n:String}{vs:Array Value}{Q:Unit->Shared->Prop}(ho:s.heap.get? it=some o)(hc:o.cls=.type n)(hd:o.data=.fields vs)
  (hn:["enumerate","zip","dict_itemiterator","dict_reverseitemiterator","odict_iterator","itertools.zip_longest","itertools.pairwise"].contains n=false) (hQ:Q () s):wpAny M A (letOwnedTupleGo tg (.ref it) u) Q E s:=by
 unfold letOwnedTupleGo
 cases tg<;>first
  |exact AG hQ
  |(cases u<;>first
    |exact AG hQ
    |(refine AA (wpAny_load ho ?_)
      rw[hc,hd]
      show wpAny M A (if(["enumerate","zip","dict_itemiterator","dict_reverseitemiterator","odict_iterator","itertools.zip_longest","itertools.pairwise"].contains n&&vs[0]?==some (rawInt _))=true then _ else _) Q E s
      rw[AF (by intro h;rw[hn,ID] at h;cases h)]
      exact AG hQ))
def iD (K:PySem.W.Frag)(a:Addr):It:=
 ⟨λi H=>∃xs x,SqL K H a xs/\xs[i]?=some x,λi H x H'=>H'=H/\∀xs,SqL K H a xs->xs[i]?=some x,λi H=>∃xs,SqL K H a xs/\xs.length<=i⟩
def cx (K:PySem.W.Frag)(a:Addr):It:=
 ⟨λi H=>∃xs x,SqT K H a xs/\xs[i]?=some x,λi H x H'=>H'=H/\∀xs,SqT K H a xs->xs[i]?=some x,λi H=>∃xs,SqT K H a xs/\xs.length<=i⟩
def iC (lo:Int)(n:Nat):It:=⟨λi _=>i<n,λi H x H'=>H'=H/\x=.int (lo+i),λi _=>n<=i⟩
def Mw {P:Program}{w:World}{K:PySem.W.Frag}{tg:Expr}(a it:Addr):Turn P w K tg (iD K a) [it] it (λi h=>h.IsListIter it a i) where
 mem:=by simp
 obj:=λi h st b hb=>by
  have e:b=it:=by simpa using hb
  subst e
  obtain⟨o,e,c,d⟩:=st
  exact⟨o,e,λv z=>by rw[d] at z;cases z⟩
 keep:=λi h h' st k=>st.at λo e=>k it (by simp) o e
 item:=by
  intro X hP hw hK hc i pins s σ H E I hf st hg
  subst hP hw hK
  obtain⟨xs,x,hq,hx⟩:=hg
  obtain⟨its,rv,p,hz⟩:=I.list hq
  obtain⟨u,hu,ru⟩:=rv.get hx
  obtain⟨f0,f1,f2,f3,f4,f5⟩:=hf it (by simp)
  refine LD st p.isList (x:=u) (by simpa using hu) λh' UO sb=>?_
  have I1:Inv X pins σ H {s with heap:=h'}:=I.turned (t':=s.toks) (λb o hb e=>(sb.2 b hb).trans e) f0 f1 f3 f4 f5
  obtain⟨o,e,c,d⟩:=id UO
  exact⟨u,rfl,lh (s:={s with heap:=h'}) e c d (by decide) ⟨x,H,I1,ru,⟨rfl,λys hy=>by rw[I.list_inj hy hq];exact hx⟩,UO,λb hb=>(hf b hb).1⟩⟩
 done:=by
  intro X hP hw hK hc i pins s σ H E I hf st hg
  subst hP hw hK
  obtain⟨xs,hq,hx⟩:=hg
  obtain⟨its,rv,p,hz⟩:=I.list hq
  obtain⟨f0,f1,f2,f3,f4,f5⟩:=hf it (by simp)
  have hl:=rv.length
  exact LQ (I.ok.hd hc) st p.isList (by simp;omega) λh' eb=>⟨rfl,I.turned (t':=s.toks) (λb o hb e=>eb b o hb e) f0 f1 f3 f4 f5⟩
 self:=λ_ _ _ _ _ st h=>wpAny_pyIter_listiter st h
def Tf {P:Program}{w:World}{K:PySem.W.Frag}{tg:Expr}(a it:Addr):Turn P w K tg (cx K a) [it] it (λi h=>h.IsTupleIter it a i) where
 mem:=by simp
 obj:=λi h st b hb=>by
  have e:b=it:=by simpa using hb
  subst e
  obtain⟨o,e,c,d⟩:=st
  exact⟨o,e,λv z=>by rw[d] at z;cases z⟩
 keep:=λi h h' st k=>st.at λo e=>k it (by simp) o e
 item:=by
  intro X hP hw hK hc i pins s σ H E I hf st hg
  subst hP hw hK
  obtain⟨xs,x,hq,hx⟩:=hg
  obtain⟨its,rv,p,hz⟩:=I.tuple hq
  obtain⟨u,hu,ru⟩:=rv.get hx
  obtain⟨f0,f1,f2,f3,f4,f5⟩:=hf it (by simp)
  refine wpAny_pyNext_tuple_item st (show s.heap.IsTuple a its.toArray from p) (x:=u) (by simpa using hu) λh' UO sb=>?_
  have I1:Inv X pins σ H {s with heap:=h'}:=I.turned (t':=s.toks) (λb o hb e=>(sb.2 b hb).trans e) f0 f1 f3 f4 f5
  obtain⟨o,e,c,d⟩:=id UO
  exact⟨u,rfl,lh (s:={s with heap:=h'}) e c d (by decide) ⟨x,H,I1,ru,⟨rfl,λys hy=>by rw[I.tuple_inj hy hq];exact hx⟩,UO,λb hb=>(hf b hb).1⟩⟩
 done:=by
  intro X hP hw hK hc i pins s σ H E I hf st hg
  subst hP hw hK
  obtain⟨xs,hq,hx⟩:=hg
  obtain⟨its,rv,p,hz⟩:=I.tuple hq
  obtain⟨f0,f1,f2,f3,f4,f5⟩:=hf it (by simp)
  have hl:=rv.length
  exact wpAny_pyNext_tuple_end (I.ok.hd hc) st (show s.heap.IsTuple a its.toArray from p) (by simp;omega) λh' eb=>⟨rfl,I.turned (t':=s.toks) (λb o hb e=>eb b o hb e) f0 f1 f3 f4 f5⟩
 self:=λ_ _ _ _ _ st h=>wpAny_pyIter_tupleiter st h
def Fj {P:Program}{w:World}{K:PySem.W.Frag}{tg:Expr}(it:Addr)(lo:Int)(n:Nat):Turn P w K tg (iC lo n) [it] it (λi h=>IsRangeIter h it (lo+(i:Nat)*1) ((n:Int)-(i:Nat)) 1) where
 mem:=by simp
 obj:=λi h st b hb=>by
  have e:b=it:=by simpa using hb
  subst e
  exact⟨_,st,λv z=>by
   have z':Data.fields _=Data.cell v:=z
   cases z'⟩
 keep:=λi h h' st k=>k it (by simp) _ st
 item:=by
  intro X hP hw hK hc i pins s σ H E I hf st hg
  subst hP hw hK
  obtain⟨f0,f1,f2,f3,f4,f5⟩:=hf it (by simp)
  have W:=Walks.range (prog:=X.prog) (w:=X.w) (I.ok.hd hc) it lo 1 n
  refine W.item i s _ _ hg st λv h' tk hv UO kk=>?_
  obtain⟨t,rfl⟩:=hv
  have I1:Inv X pins σ H {s with heap:=h',toks:=tk}:=I.turned (λb o hb e=>kk b o (by simpa using hb) e) f0 f1 f3 f4 f5
  refine⟨_,rfl,lh (s:={s with heap:=h',toks:=tk}) (n:="range_iterator") UO rfl rfl (by decide) ⟨.int (lo+i),H,I1,⟨t,?_⟩,⟨rfl,rfl⟩,UO,λb hb=>(hf b hb).1⟩⟩
  rw[Int.mul_one]
 done:=by
  intro X hP hw hK hc i pins s σ H E I hf st hg
  subst hP hw hK
  obtain⟨f0,f1,f2,f3,f4,f5⟩:=hf it (by simp)
  exact wpAny_pyNext_range_end (I.ok.hd hc) st (by have:n<=i:=hg;omega) λh' eb=>⟨rfl,I.turned (t':=s.toks) (λb o hb e=>eb b o hb e) f0 f1 f3 f4 f5⟩
 self:=λ_ _ _ _ _ st h=>wpAny_pyIter_rangeiter st h
section
variable {X:Cx}{tg:Expr}
def yG (K:PySem.W.Frag)(tl:TE):TI:=λσ H R=>tl σ H λx H1=>∃a,x=.ref a/\(∃xs,SqL K H1 a xs)/\R (iD K a) H1
def wZ (K:PySem.W.Frag)(tl:TE):TI:=λσ H R=>tl σ H λx H1=>∃a,x=.ref a/\(∃xs,SqT K H1 a xs)/\R (cx K a) H1
def Zgb {l:Expr}{tl:TE}(hl:PE X l tl):PI X tg l (yG X.K tl):=by
 intro pins s σ H R I h
 refine Y8 (hl pins s σ H _ I h) λv s1 ⟨x,H1,I1,r1,q1⟩=>?_
 obtain⟨a,e,⟨xs,hq⟩,q⟩:=q1
 subst e
 cases r1
 obtain⟨its,rv,p,hz⟩:=I1.list hq
 refine EM p.isList ?_
 refine⟨s1.heap.objs.size,[s1.heap.objs.size],_,_,H1,rfl,I1.kept (t':=s1.toks) λb o e=>AB _ e,Mw a _,⟨_,AO _ rfl,rfl,rfl⟩,λb hb=>?_,q⟩
 have e:b=s1.heap.objs.size:=by simpa using hb
 subst e
 exact I1.fpOk (AQ _) (I1.hok.fresh (AQ _))
def zE {l:Expr}{tl:TE}(hl:PE X l tl):PI X tg l (wZ X.K tl):=by
 intro pins s σ H R I h
 refine Y8 (hl pins s σ H _ I h) λv s1 ⟨x,H1,I1,r1,q1⟩=>?_
 obtain⟨a,e,⟨xs,hq⟩,q⟩:=q1
 subst e
 cases r1
 obtain⟨its,rv,p,hz⟩:=I1.tuple hq
 refine wpAny_pyIter_tuple (show s1.heap.IsTuple a its.toArray from p) ?_
 refine⟨s1.heap.objs.size,[s1.heap.objs.size],_,_,H1,rfl,I1.kept (t':=s1.toks) λb o e=>AB _ e,Tf a _,⟨_,AO _ rfl,rfl,rfl⟩,λb hb=>?_,q⟩
 have e:b=s1.heap.objs.size:=by simpa using hb
 subst e
 exact I1.fpOk (AQ _) (I1.hok.fresh (AQ _))
def Zct {pins:List (Addr×Obj)}{σ:St}{H:Hp}{s:Shared}{R:It->Hp->Prop}{E:Value->Shared->Prop}{lo hi:Int}{t u v:Tok}{tk:Nat}(I:Inv X pins σ H s)(h1:-(2 ^ 62)<=lo)(h2:lo<2 ^ 62)(h3:-(2 ^ 62)<=hi)(h4:hi<2 ^ 62)(q:R (iC lo (hi-lo).toNat) H):wpAny (model X.prog X.w) X.A (pyIter (.ref s.heap.objs.size)) (n8 X pins σ tg R) E {s with heap:=s.heap.push {cls:=.type "range", data:=.fields #[.int lo t,.int hi u,.int 1 v]},toks:=tk}:=by
 refine wpAny_pyIter_range (IsRange.new ..) (small_one h1 h2 h3 h4) ?_
 have I1:Inv X pins σ H {s with heap:=s.heap.push {cls:=.type "range", data:=.fields #[.int lo t,.int hi u,.int 1 v]},toks:=tk}:=I.kept λb o e=>AB _ e
 refine⟨(s.heap.push {cls:=.type "range", data:=.fields #[.int lo t,.int hi u,.int 1 v]}).objs.size,[(s.heap.push {cls:=.type "range", data:=.fields #[.int lo t,.int hi u,.int 1 v]}).objs.size],_,_,H,rfl,
  I1.kept (t':=tk) λb o e=>AB _ e,Fj _ lo (hi-lo).toNat,?_,λb hb=>?_,q⟩
 .have e1:lo+((0:Nat):Int)*1=lo:=by simp
  have e2:(((hi-lo).toNat:Nat):Int)-((0:Nat):Int)=Builtin.Range.rangeSize lo hi 1:=by rw[rangeSize_one];split<;>omega
  show IsRangeIter _ _ (lo+((0:Nat):Int)*1) ((((hi-lo).toNat:Nat):Int)-((0:Nat):Int)) 1
  rw[e1,e2]
  exact AO _ rfl
 .have e:b=(s.heap.push {cls:=.type "range", data:=.fields #[.int lo t,.int hi u,.int 1 v]}).objs.size:=by simpa using hb
  subst e
  exact I1.fpOk (AQ _) (I1.hok.fresh (AQ _))
def xb (ta:TA):TI:=λσ H R=>ta σ H λvs H1=>∃j:Int,vs=[.int j]/\-(2 ^ 62)<=j/\j<2 ^ 62/\R (iC 0 j.toNat) H1
def Zar {a:Expr}{ta:TA}{p pos:Pos} (hg:Gl X "range") (hm:X.mg "range"=none) (ha:PA X [a] ta) (hs:starEach [a] X.env=[(false,eval a X.env)]:=by rfl):PI X tg (.Call (.Name "range" p) [a] [] pos) (xb ta):=by
 intro pins s σ H R I h
 refine Call_ (Gz I hg hm boot_range (DO (Y8 (ha pos pins s σ H _ I h) λus s1 ⟨vs,H1,I1,r1,q1⟩=>?_) hs rfl))
 obtain⟨j,e,q1,q2,q⟩:=q1
 subst e
 cases r1 with
 |cons r rr=>
  cases rr
  obtain⟨t,rfl⟩:=r
  exact call_range_1 (Zct I1 (by omega) (by omega) q1 q2 (by simpa using q))
def wY (wi:TI)(g:TG)(tb:TS):TS:=λD σ H=>wi σ H λJ H1=>∃W:Nat->Nat->St->Hp->Prop,(∃m,W 0 m σ H1)/\∀i m σ H,W i m σ H ->
 (J.stop i H/\D.nx σ H)\/(J.go i H/\∃N:St->Hp->Prop,(∀σ' H',N σ' H'->∃m',m'<m/\W (i+1) m' σ' H')/\∀x H',J.yld i H x H'->g x σ H' λσ2 H2=>tb {D with nx:=N,ct:=N,bk:=D.nx} σ2 H2)
def B7 (fp:List Addr)(h:Heap):List (Addr×Obj):=fp.filterMap λb=>(h.get? b).map λo=>(b,o)
def X0 {fp:List Addr}{h:Heap}{b:Addr}{o:Obj}(hb:b∈fp)(e:h.get? b=some o):(b,o)∈B7 fp h:=KH.mpr ⟨b,hb,by rw[e];rfl⟩
def Zas {fp:List Addr}{h:Heap}{p:Addr×Obj}(hp:p∈B7 fp h):p.1∈fp/\h.get? p.1=some p.2:=by
 obtain⟨b,hb,e⟩:=KH.mp hp
 cases q:h.get? b with
 |none=>rw[q] at e;cases e
 |some o=>
  rw[q] at e
  have e':(b,o)=p:=BJ e
  subst e'
  exact⟨hb,q⟩
def Inv.pinned {pins:List (Addr×Obj)}{σ:St}{H:Hp}{s:Shared}{fp:List Addr}(I:Inv X pins σ H s)(hf:∀b∈fp,Sm X pins H b)(ho:∀b∈fp,∃o,s.heap.get? b=some o/\∀v,o.data≠.cell v):Inv X (pins++B7 fp s.heap) σ H s:=
 I.pins_of λp hp=>(DK.mp hp).elim (λz=>I.pin p (BF _ z)) λz=>by
  obtain⟨hb,e⟩:=Zas z
  obtain⟨f0,f1,f2,_⟩:=hf p.1 hb
  obtain⟨o,e',d⟩:=ho p.1 hb
  rw[e] at e';cases e'
  exact⟨e,f0,f1,f2,d⟩
def Inv.unpinned {pins pl:List (Addr×Obj)}{σ:St}{H:Hp}{s:Shared}(I:Inv X (pins++pl) σ H s):Inv X pins σ H s:=I.pins_of λp hp=>I.pin p (BF _ (JS _ hp))
def Tg {iter:Expr}{body:List Stmt}{wi:TI}{g:TG}{tb:TS}{pos:Pos}(hp:PassesOwn (model X.prog X.w) X.A X.env X.xe)(hc:X.calm=true)(hi:PI X tg iter wi)(hg:PG X tg g)(hb:PSs X body tb)(hs:∀x,foldedSetIterable iter X.env x=pure x:=by intro _;rfl):PS X (.For tg iter body [] pos) (wY wi g tb):=by
 intro pins s σ H D I h
 refine wpAny_For (Y8 (hi pins s σ H _ I h) λv s1 h1=>Y8 h1 λgH s2 h2=>?_) hs
 obtain⟨it,fp,tn,J,H2,e,I2,T,VZ,f2,W,⟨m0,w0⟩,turn⟩:=h2
 subst e
 have ak:∀{H':Hp},(∀b∈fp,H' b=none)->∀b∈fp,Sm X pins H' b:=λhn b hb=>⟨hn b hb,(f2 b hb).2⟩
 refine codeAny_forLoop_any (λn s'=>∃i σ' H',Inv X pins σ' H' s'/\tn i s'.heap/\(∀b∈fp,H' b=none)/\W i n σ' H') ?_ m0 ⟨0,σ,H2,I2,VZ,λb hb=>(f2 b hb).1,w0⟩
 rintro n s3 ⟨i,σ3,H3,I3,mI,nG,w3⟩
 rcases turn i n σ3 H3 w3 with⟨stop,qn⟩|⟨go,N,hN,step⟩
 .refine EH hp (Y8 (T.done X rfl rfl rfl hc i pins s3 σ3 H3 X.xe I3 (ak nG) mI stop) λr s4 ⟨hr,I4⟩=>?_)
  subst hr
  exact GZ ⟨σ3,H3,I4,qn⟩
 .refine EH hp (Y8 (T.item X rfl rfl rfl hc i pins s3 σ3 H3 X.xe I3 (ak nG) mI go) λr s4 ⟨u,hr,h4⟩=>?_)
  subst hr
  refine EH hp (Y8 h4 λ_ s5 ⟨x,H5,I5,r5,y5,VR,eO⟩=>?_)
  have I5':=I5.pinned (ak eO) (T.obj _ _ VR)
  refine EH hp (Y8 (hg _ s5 σ3 H5 x u _ I5' r5 (step x H5 y5)) λ_ s6 ⟨σ6,H6,I6,q6⟩=>?_)
  refine EH hp (Y8 (hb _ s6 σ6 H6 _ I6 q6) λf s7 q7=>?_)
  have again:∀{σ7:St}{H7:Hp},Inv X (pins++B7 fp s5.heap) σ7 H7 s7->N σ7 H7->∃m,m<n/\∃i σ' H',Inv X pins σ' H' s7/\tn i s7.heap/\(∀b∈fp,H' b=none)/\W i m σ' H':=λ{σ7 H7} I7 n7=>by
   obtain⟨m',hm,w7⟩:=hN σ7 H7 n7
   refine⟨m',hm,i+1,σ7,H7,I7.unpinned,T.keep _ _ _ VR λb hb o e=>(I7.pin (b,o) (BF _ (BF _ (X0 hb e)))).1,λb hb=>?_,w7⟩
   obtain⟨o,e,d⟩:=T.obj _ _ VR b hb
   exact(I7.pin (b,o) (BF _ (BF _ (X0 hb e)))).2.1
  cases f with
  |next=>obtain⟨σ7,H7,I7,n7⟩:=q7;exact again I7 n7
  |cont=>obtain⟨σ7,H7,I7,n7⟩:=q7;exact again I7 n7
  |brk=>obtain⟨σ7,H7,I7,q7⟩:=q7;exact⟨σ7,H7,I7.unpinned,q7⟩
  |ret v=>obtain⟨x7,σ7,H7,I7,r7,q7⟩:=q7;exact⟨x7,σ7,H7,I7.unpinned,r7,q7⟩
end
abbrev R2:=V->V->Hp->VK->Prop
def OpR (X:Cx)(f:Value->Value->Sem Value)(r:R2):Prop:=
 ∀(pins:List (Addr×Obj)) (s:Shared) (σ:St) (H:Hp) (x y:V) (v u:Value) (Q:VK),Inv X pins σ H s->RelV x v->RelV y u->r x y H Q ->
  wpAny (model X.prog X.w) X.A (f v u) (EP X pins σ Q) X.xe s
def hX (X:Cx)(f:Value->Sem Value)(r:V->Hp->VK->Prop):Prop:=
 ∀(pins:List (Addr×Obj)) (s:Shared) (σ:St) (H:Hp) (x:V) (v:Value) (Q:VK),Inv X pins σ H s->RelV x v->r x H Q ->
  wpAny (model X.prog X.w) X.A (f v) (EP X pins σ Q) X.xe s
def CallR (X:Cx)(f:Value)(r:List V->Hp->VK->Prop):Prop:=
 ∀(pins:List (Addr×Obj)) (s:Shared) (σ:St) (H:Hp) (xs:List V) (us:List Value) (Q:VK),Inv X pins σ H s->Vals xs us->r xs H Q ->
  wpAny (model X.prog X.w) X.A (call f us) (EP X pins σ Q) X.xe s
def cw (r:R2)(ta tb:TE):TE:=λσ H Q=>ta σ H λx H1=>tb σ H1 λy H2=>r x y H2 Q
def ve (r:V->Hp->VK->Prop)(ta:TE):TE:=λσ H Q=>ta σ H λx H1=>r x H1 Q
def rI (C:Int->Int->Prop)(g:Int->Int->V):R2:=λx y H Q=>∃i j,x=.int i/\y=.int j/\C i j/\Q (g i j) H
def aJ (g:Int->Int->V):R2:=λx y H Q=>∃i j,x=.int i/\y=.int j/\Q (g i j) H
def rU (g:Int->V):V->Hp->VK->Prop:=λx H Q=>∃i,x=.int i/\Q (g i) H
section
variable {X:Cx}{a b c:Expr}{ta tb tc:TE}{pos:Pos}
def lL (ha:PE X a ta)(hb:PE X b tb){pins:List (Addr×Obj)}{s:Shared}{σ:St}{H:Hp}{R:V->V->Hp->Prop}(I:Inv X pins σ H s)(h:ta σ H λx H1=>tb σ H1 λy H2=>R x y H2){Q:Value->Shared->Prop}{f:Value->Value->Sem Value}(hf:∀v u s2 x y H2,Inv X pins σ H2 s2->RelV x v->RelV y u->R x y H2->wpAny (model X.prog X.w) X.A (f v u) Q X.xe s2):
  wpAny (model X.prog X.w) X.A (eval a X.env) (λv s₁=>wpAny (model X.prog X.w) X.A (eval b X.env) (λu s₂=>wpAny (model X.prog X.w) X.A (f v u) Q X.xe s₂) X.xe s₁) X.xe s:=by
 refine Y8 (ha pins s σ H _ I h) λv s1 ⟨x,H1,I1,r1,q1⟩=>?_
 refine Y8 (hb pins s1 σ H1 _ I1 q1) λu s2 ⟨y,H2,I2,r2,q2⟩=>?_
 exact hf v u s2 x y H2 I2 r1 r2 q2
def lZ {op:Operator}{r:R2}(ho:OpR X (binaryOp op) r)(ha:PE X a ta)(hb:PE X b tb):PE X (.BinOp a op b pos) (cw r ta tb):=by
 intro pins s σ H Q I h
 exact wpAny_BinOp (lL ha hb I h λv u s2 x y H2 I2 rx ry q=>ho pins s2 σ H2 x y v u Q I2 rx ry q)
def pO {op:UnaryOp}{r:V->Hp->VK->Prop}(ho:hX X (unaryOp op) r)(ha:PE X a ta):PE X (.UnaryOp op a pos) (ve r ta):=by
 intro pins s σ H Q I h
 exact UnaryOp_ (Y8 (ha pins s σ H _ I h) λv s1 ⟨x,H1,I1,r1,q1⟩=>ho pins s1 σ H1 x v Q I1 r1 q1)
def hV {f:Value->Value->Sem Value}{C:Int->Int->Prop}{g:Int->Int->Int}(rule:∀(i j:Int) (t u:Tok) (s:Shared) (Q:Value->Shared->Prop) (E:Value->Shared->Prop),C i j->Q (.int (g i j) s.toks) {s with toks:=s.toks+1}->wpAny (model X.prog X.w) X.A (f (.int i t) (.int j u)) Q E s):
  OpR X f (rI C λi j=>.int (g i j)):=by
 intro pins s σ H x y v u Q I rx ry h
 obtain⟨i,j,rfl,rfl,hc,q⟩:=h
 obtain⟨t,rfl⟩:=rx
 obtain⟨t',rfl⟩:=ry
 exact rule i j t t' s _ _ hc ⟨.int (g i j),H,I.tok _,⟨_,rfl⟩,q⟩
def oU {f:Value->Value->Sem Value}{g:Int->Int->Int}(rule:∀(i j:Int) (t u:Tok) (s:Shared) (Q:Value->Shared->Prop) (E:Value->Shared->Prop),Q (.int (g i j) s.toks) {s with toks:=s.toks+1}->wpAny (model X.prog X.w) X.A (f (.int i t) (.int j u)) Q E s):
  OpR X f (aJ λi j=>.int (g i j)):=by
 intro pins s σ H x y v u Q I rx ry h
 obtain⟨i,j,rfl,rfl,q⟩:=h
 obtain⟨t,rfl⟩:=rx
 obtain⟨t',rfl⟩:=ry
 exact rule i j t t' s _ _ ⟨.int (g i j),H,I.tok _,⟨_,rfl⟩,q⟩
def iW {f:Value->Value->Sem Value}{g:Int->Int->Bool}(rule:∀(i j:Int) (t u:Tok) (s:Shared) (Q:Value->Shared->Prop) (E:Value->Shared->Prop),Q (.bool (g i j)) s->wpAny (model X.prog X.w) X.A (f (.int i t) (.int j u)) Q E s):
  OpR X f (aJ λi j=>.bl (g i j)):=by
 intro pins s σ H x y v u Q I rx ry h
 obtain⟨i,j,rfl,rfl,q⟩:=h
 obtain⟨t,rfl⟩:=rx
 obtain⟨t',rfl⟩:=ry
 exact rule i j t t' s _ _ ⟨.bl (g i j),H,I,rfl,q⟩
def wX (i j:Int):Prop:=0<=j/\j<=1000000/\i.natAbs<2 ^ 64
def op_add:OpR X (binaryOp .Add) (aJ λi j=>.int (i+j)):=oU λ_ _ _ _ _ _ _ q=>add_int q
def zD:OpR X (binaryOp .Sub) (aJ λi j=>.int (i-j)):=oU λ_ _ _ _ _ _ _ q=>sub_int q
def Zge:OpR X (binaryOp .Mod) (rI (λ_ j=>j≠0) λi j=>.int (i.fmod j)):=hV λ_ _ _ _ _ _ _ hc q=>mod_int' hc q
def zC:OpR X (binaryOp .Pow) (rI wX λi j=>.int (i ^ j.toNat)):=hV λ_ _ _ _ _ _ _ hc q=>pow_int_small hc.1 hc.2.1 hc.2.2 q
def vd {f:Value->Sem Value}{g:Int->Int}(rule:∀(i:Int) (t:Tok) (s:Shared) (Q:Value->Shared->Prop) (E:Value->Shared->Prop),Q (.int (g i) s.toks) {s with toks:=s.toks+1}->wpAny (model X.prog X.w) X.A (f (.int i t)) Q E s):
  hX X f (rU λi=>.int (g i)):=by
 intro pins s σ H x v Q I rx h
 obtain⟨i,rfl,q⟩:=h
 obtain⟨t,rfl⟩:=rx
 exact rule i t s _ _ ⟨.int (g i),H,I.tok _,⟨_,rfl⟩,q⟩
def zB:hX X (unaryOp .USub) (rU λi=>.int (-i)):=vd λ_ _ _ _ _ q=>neg_int q
end
section
variable {X:Cx}{a b c:Expr}{ta tb tc:TE}{pos:Pos}
def rH {pins:List (Addr×Obj)}{σ:St}{H:Hp}{s:Shared}{Q:VK}{k k':Bool}(I:Inv X pins σ H s)(q:Q (.bl k) H)(e:k=k'):EP X pins σ Q (.bool k') s:=by
 subst e
 exact⟨.bl k,H,I,rfl,q⟩
def xa:OpR X (compareOp .Lt) (aJ λi j=>.bl (decide (i<j))):=iW λ_ _ _ _ _ _ _ q=>lt_int q
def xZ:OpR X (compareOp .LtE) (aJ λi j=>.bl (decide (i<=j))):=iW λ_ _ _ _ _ _ _ q=>le_int q
def xY:OpR X (compareOp .Gt) (aJ λi j=>.bl (decide (j<i))):=iW λ_ _ _ _ _ _ _ q=>gt_int q
def xX:OpR X (compareOp .GtE) (aJ λi j=>.bl (decide (j<=i))):=iW λ_ _ _ _ _ _ _ q=>ge_int q
def zA:OpR X (compareOp .Is) (λx y H Q=>y=.non/\Q (.bl (decide (x=.non))) H):=by
 intro pins s σ H x y v u Q I rx ry h
 obtain⟨rfl,q⟩:=h
 cases ry
 refine is_none_gen (rH I q ?_)
 cases x<;>first
  |(cases rx;rfl)
  |(obtain⟨t,rfl⟩:=rx;rfl)
def Zgf:OpR X (compareOp .IsNot) (λx y H Q=>y=.non/\Q (.bl (!decide (x=.non))) H):=by
 intro pins s σ H x y v u Q I rx ry h
 obtain⟨rfl,q⟩:=h
 cases ry
 refine isnot_none_gen (rH I q ?_)
 cases x<;>first
  |(cases rx;rfl)
  |(obtain⟨t,rfl⟩:=rx;rfl)
def OpR.or {f:Value->Value->Sem Value}{r r':R2}(h:OpR X f r)(h':OpR X f r'):OpR X f (λx y H Q=>r x y H Q\/r' x y H Q):=by
 intro pins s σ H x y v u Q I rx ry q
 rcases q with q|q
 .exact h pins s σ H x y v u Q I rx ry q
 .exact h' pins s σ H x y v u Q I rx ry q
def Z4 (b:Expr){op:CmpOp}(h:op≠.In:=by decide)(h2:op≠.NotIn:=by decide):behindInMarks op b=false:=by
 have e1:(op==CmpOp.In)=false:=by cases op<;>first|rfl|exact absurd rfl h
 have e2:(op==CmpOp.NotIn)=false:=by cases op<;>first|rfl|exact absurd rfl h2
 cases b<;>simp[behindInMarks,e1,e2]
def Zgg {op:CmpOp}{r:R2}(ho:OpR X (compareOp op) r)(ha:PE X a ta)(hb:PE X b tb)(hm:behindInMarks op b=false):PE X (.Compare a [op] [b] pos) (cw r ta tb):=by
 intro pins s σ H Q I h
 exact wpAny_Compare1 (lL ha hb I h λv u s2 x y H2 I2 rx ry q=>ho pins s2 σ H2 x y v u Q I2 rx ry q) hm
def pN (t:TE):TT:=λσ H Q=>t σ H λx H'=>∃k,x=.bl k/\Q k H'
def B8 {op:CmpOp}{r:R2}(ho:OpR X (compareOp op) r)(ha:PE X a ta)(hb:PE X b tb)(hm:behindInMarks op b=false):PT X (.Compare a [op] [b] pos) (pN (cw r ta tb)):=by
 intro pins s σ H Q I h
 refine LR (Y8 (ha pins s σ H _ I h) λv s1 ⟨x,H1,I1,r1,q1⟩=>Y8 (hb pins s1 σ H1 _ I1 q1) λu s2 ⟨y,H2,I2,r2,q2⟩=>
  Y8 (ho pins s2 σ H2 x y v u _ I2 r1 r2 q2) λc s3 ⟨z,H3,I3,r3,k,e,q3⟩=>?_) hm
 subst e
 cases r3
 exact DB ⟨H3,I3,q3⟩
def rG (r r':R2)(ta tb tc:TE):TE:=λσ H Q=>ta σ H λx H1=>tb σ H1 λy H2=>r x y H2 λz H3=>∃k,z=.bl k /\
 (if k=true then tc σ H3 λw' H4=>r' y w' H4 Q else Q (.bl false) H3)
def Zcx {op aq:CmpOp}{r r':R2}(ho:OpR X (compareOp op) r)(UU:OpR X (compareOp aq) r')(ha:PE X a ta)(hb:PE X b tb)(hc:PE X c tc)(hm:lastMarks [op,aq] [b,c]=false:=by with_unfolding_all rfl):PT X (.Compare a [op,aq] [b,c] pos) (pN (rG r r' ta tb tc)):=by
 intro pins s σ H Q I h
 refine isTrue_chain (Y8 (ha pins s σ H _ I h) λv s1 ⟨x,H1,I1,r1,q1⟩=>test_link (Y8 (hb pins s1 σ H1 _ I1 q1) λu s2 ⟨y,H2,I2,r2,q2⟩=>
  Y8 (ho pins s2 σ H2 x y v u _ I2 r1 r2 q2) λd s3 ⟨z,H3,I3,r3,k,e,q3⟩=>?_)) hm
 subst e
 cases r3
 refine DB ?_
 cases k with
 |false=>
  obtain⟨k',e',q'⟩:=q3
  cases e'
  exact ite_ff ⟨H3,I3,q'⟩
 |true=>
  refine ite_tt (test_last (Y8 (hc pins s3 σ H3 _ I3 q3) λw' s4 ⟨z',H4,I4,r4,q4⟩=>Y8 (UU pins s4 σ H4 y z' u w' _ I4 r2 r4 q4) λd' s5 ⟨z2,H5,I5,r5,k2,e2,q5⟩=>?_))
  subst e2
  cases r5
  exact DB ⟨H5,I5,q5⟩
def Ti:(sizeLine:Nat)<2 ^ 63:=by rw[CG];decide
def Fk:OpR X (binaryOp .Add) (λx y H Q=>∃i j,x=.str i/\y=.str j/\i.length+j.length<=sizeLine/\Q (.str (i++j)) H):=by
 intro pins s σ H x y v u Q I rx ry h
 obtain⟨i,j,rfl,rfl,hz,q⟩:=h
 obtain⟨t,rfl⟩:=rx
 obtain⟨t',rfl⟩:=ry
 exact add_str (λt' tk=>⟨.str (i++j),H,I.tok _,⟨_,rfl⟩,q⟩) hz
def Wp {x:V}{us:List Value}(r:Vals [x] us):∃u,us=[u]/\RelV x u:=by
 cases r with
 |cons r1 r2=>cases r2;exact⟨_,rfl,r1⟩
def Tj {x y:V}{us:List Value}(r:Vals [x,y] us):∃u w',us=[u,w']/\RelV x u/\RelV y w':=by
 cases r with
 |cons r1 r2=>
  cases r2 with
  |cons r3 r4=>cases r4;exact⟨_,_,rfl,r1,r3⟩
def Zcy:CallR X (.builtin "abs") (λxs H Q=>∃i,xs=[.int i]/\Q (.int (if i<0 then -i else i)) H):=by
 intro pins s σ H xs us Q I r h
 obtain⟨i,rfl,q⟩:=h
 obtain⟨u,rfl,t,rfl⟩:=Wp r
 exact call_abs_int λu tk=>⟨.int (if i<0 then -i else i),H,I.tok _,⟨_,rfl⟩,q⟩
def Zat (hc:X.calm=true):CallR X (.builtin "max") (λxs H Q=>∃i j,xs=[.int i,.int j]/\Q (.int (if j > i then j else i)) H):=by
 intro pins s σ H xs us Q I r h
 obtain⟨i,j,rfl,q⟩:=h
 obtain⟨u,w',rfl,⟨t,rfl⟩,⟨t',rfl⟩⟩:=Tj r
 refine max_two_ints (I.ok.hd hc) λh' tk k=>⟨_,H,I.kept k,?_,q⟩
 by_cases hj:j > i
 .rw[AD hj,AD hj];exact⟨_,rfl⟩
 .rw[AF hj,AF hj];exact⟨_,rfl⟩
def Zau:CallR X (.type "int") (λxs H Q=>(∃i,xs=[.int i]/\Q (.int i) H)\/∃k,xs=[.bl k]/\Q (.int (if k then 1 else 0)) H):=by
 intro pins s σ H xs us Q I r h
 rcases h with⟨i,rfl,q⟩|⟨k,rfl,q⟩
 .obtain⟨u,rfl,t,rfl⟩:=Wp r
  exact call_int_int ⟨.int i,H,I,⟨_,rfl⟩,q⟩
 .obtain⟨u,rfl,r1⟩:=Wp r
  cases r1
  exact call_int_bool ⟨.int (if k then 1 else 0),H,I.tok _,⟨_,rfl⟩,q⟩
end
structure ObjM (h:Heap) (x dx C:Addr) (mA:Str->Option Value):Prop where
 obj:h.get? x=some (PySem.W.instObj C dx)
 ns:h.Ns1 dx mA
 ne:dx≠x
def Zav {h:Heap}{dx:Addr}{mA:Str->Option Value}(n:h.Ns1 dx mA):∃od,h.get? dx=some od/\∀name,PySem.W.lookIn name od=some (mA name):=by
 obtain⟨o,es,ep,ho,hd,hk,_,hm⟩:=n
 refine⟨o,ho,λname=>?_⟩
 have e:=hm name
 unfold nsFind findBy at e
 rw[<-Array.find?_toList] at e
 unfold PySem.W.lookIn
 rw[hd]
 dsimp only
 split
 .rename_i y q
  rw[q] at e
  exact congrArg some e
 .rename_i q
  rw[q] at e
  have a:es.toList.any (·.refKey)=false:=by
   rw[KY]
   intro y hy
   obtain⟨z,t,UW⟩:=hk y (Array.mem_toList_iff.mp hy)
   simp[DictEntry.refKey,UW]
  have a':¬es.toList.any (·.refKey)=true:=by rw[a];exact CB
  rw[AF a']
  exact congrArg some e
def ObjM.look {h:Heap}{x dx C:Addr}{mA:Str->Option Value}(I:ObjM h x dx C mA):∃od,PySem.W.InstAt h x (PySem.W.instObj C dx) C (some od)/\∀name,PySem.W.lookIn name od=some (mA name):=
 let ⟨od,ho,hl⟩:=Zav I.ns
 ⟨od,⟨I.obj,rfl,rfl,ho⟩,hl⟩
section
variable {prog:Program}{w:World}{A:Around}{E:Value->Shared->Prop}{s:Shared}{K:PySem.W.Frag}{x dx C f:Addr}{mA:Str->Option Value}{name:Str}{v:Value}
def Zgh {expr:Bool}{Q:Value->Shared->Prop}(X:K.In s.heap)(I:ObjM s.heap x dx C mA)(hg:PySem.W.plainGet K C name=true)(hh:PySem.W.hasDictIn K C=true)(ha:PySem.W.findIn K (.ref C) name=some none)(hv:mA name=some v)(jX:PySem.W.handedIn v=true)(h:Q v {s with toks:=s.toks+1}):
  wpAny (model prog w) A (getAttr (.ref x) name expr) Q E s:=by
 obtain⟨od,J,hl⟩:=I.look
 exact PySem.W.get_value X J (GV hg).1 (PySem.W.findObj_own hh ha rfl (by rw[hl,hv])) jX h
def Zcz {pl:Sem Bool}{Q:Value×List Value->Shared->Prop}(X:K.In s.heap)(I:ObjM s.heap x dx C mA)(hg:PySem.W.plainGet K C name=true)(hf:PySem.W.findIn K (.ref C) name=some (some (.ref f)))(ht:PySem.W.isFn K (.ref f)=true)(hv:mA name=none)(h:Q (.ref f,[.ref x]) s):
  wpAny (model prog w) A (getMethod (.ref x) name pl) Q E s:=by
 obtain⟨od,J,hl⟩:=I.look
 exact PySem.W.method_fn X J (GV hg).1 (GV hg).2 hf (ET.mp ht) (by show(PySem.W.lookIn name od).map (·.isSome)=some false;rw[hl,hv];rfl) h
def Zgi {ns:List Str}{Q:Unit->Shared->Prop}(X:K.In s.heap)(I:ObjM s.heap x dx C mA)
  (hs:PySem.W.findIn K (.ref C) "__setattr__"=some (some (.builtin "object.__setattr__"))) (hp:PySem.W.plainOver K C=true) (ht:PySem.W.takerIn K C name=some none) (hh:PySem.W.hasDictIn K C=true)
  (hw:PySem.Within mA ns) (hsz:ns.length<=sizeLine)
  (h:∀h',ObjM h' x dx C (λy=>if y=name then some v else mA y)->Heap.SameBut dx s.heap h'->Q () {s with heap:=h',toks:=s.toks+2}):
  wpAny (model prog w) A (setAttr (.ref x) name v) Q E s:=by
 obtain⟨od,J,hl⟩:=I.look
 refine PySem.W.set_plain X J hs (PySem.W.osa_open (s:={s with toks:=s.toks+1}) (r:=none) X J hp ht λb=>?_)
 obtain⟨cd,hc,eI⟩:=PySem.W.any_some hh
 have hx:s.heap.get? x=some ⟨.ref C,some dx,.plain,#[]⟩:=I.obj
 refine AA (AG (AA (AA (wpAny_loadPart hx (AA (PySem.W.Looks.here (s:={s with toks:=s.toks+1}) (PySem.W.looks_clsIn X hc) ?_))))))
 rw[eI]
 refine AG (a:=some dx) (AA (AG (AA ?_)))
 refine wpAny_nsSet1 (s:={s with toks:=s.toks+1}) I.ns λh' hn2 hs2=>?_
 obtain⟨oD,esD,epD,uP,uj,uo⟩:=hn2.count (PySem.Within.cons name v hw)
 refine AA (wpAny_lookBehind uP (by rw[uj];exact pastItsLine_dict (BA uo (by rw[AH];omega))) ?_)
 exact AG (h _ ⟨(hs2.2 _ (EL I.ne)).trans I.obj,hn2,I.ne⟩ hs2)
def Zc0 {R:Result->Shared->Prop}{vs:List Value}{kw:List (Str×Value)}(X:K.In s.heap)(hm:PySem.W.makesIn K C=true)
  (hi:PySem.W.findIn K (.ref C) "__init__"=some (some (.ref f))) (hf:PySem.W.typeIn K (.ref f)=some (.type "function"))
  (h:codeAny (model prog w) (A.under (.builtin "type.__call__" ⟨.ref C::vs,kw⟩)) (.call (.ref f) ⟨.ref (s.heap.objs.size+1)::vs,kw⟩) (PySem.W.InitBack (s.heap.objs.size+1) R)
   {s with heap:=(s.heap.push PySem.W.emptyDict).push (PySem.W.instObj C s.heap.objs.size)}):
  codeAny (model prog w) A (.call (.ref C) ⟨vs,kw⟩) R s:=by
 obtain⟨hh,g,d,t,os⟩:=s
 exact PySem.W.make_core (PySem.W.makes_of X hm) (PySem.W.looks_findIn X hi) (λself=>PySem.W.bind_fn X self hf) (.inl rfl) h
end
def Yv (f:Str)(v:V):List (Str×V)->List (Str×V)
 |[]=>[(f,v)]
 |(g,x)::r=>if g=f then(g,v)::r else(g,x)::Yv f v r
theorem Qt (f g:Str)(v:V):∀fs:List (Str×V),(Yv f v fs).lookup g=if g=f then some v else fs.lookup g
 |[]=>by
  show List.lookup g [(f,v)]=_
  by_cases h:g=f
  .have hb:(g==f)=true:=ET.mpr h
   simp only[List.lookup,hb,AD h]
  .have hb:(g==f)=false:=CT.mpr h
   simp only[List.lookup,hb,AF h]
 |(k,x)::r=>by
  have ih:=Qt f g v r
  rw[show Yv f v ((k,x)::r)=(if k=f then(k,v)::r else(k,x)::Yv f v r) from rfl]
  by_cases hk:k=f
  .rw[AD hk]
   by_cases h:g=k
   .have hb:(g==k)=true:=ET.mpr h
    simp only[List.lookup,hb,AD (h.trans hk)]
   .have hb:(g==k)=false:=CT.mpr h
    simp only[List.lookup,hb,AF (λe:g=f=>h (e.trans hk.symm))]
  .rw[AF hk]
   by_cases h:g=k
   .have hb:(g==k)=true:=ET.mpr h
    simp only[List.lookup,hb,AF (λe:g=f=>hk (h.symm.trans e))]
   .have hb:(g==k)=false:=CT.mpr h
    simp only[List.lookup,hb]
    exact ih
theorem P8 (f:Str)(v:V):∀fs:List (Str×V),f∈(Yv f v fs).map (·.1)/\∀g,g∈fs.map (·.1)->g∈(Yv f v fs).map (·.1)
 |[]=>⟨by simp[Yv],λg h=>by simp at h⟩
 |(k,x)::r=>by
  obtain⟨i1,i2⟩:=P8 f v r
  rw[show Yv f v ((k,x)::r)=(if k=f then(k,v)::r else(k,x)::Yv f v r) from rfl]
  by_cases hk:k=f
  .rw[AD hk]
   subst hk
   exact⟨by simp,λg h=>by simpa using h⟩
  .rw[AF hk]
   refine⟨?_,λg h=>?_⟩
   .rw[AM]
    exact AV _ i1
   .rw[AM] at h ⊢
    rcases AW.mp h with e|e
    .exact AW.mpr (.inl e)
    .exact AV _ (i2 g e)
theorem R7 (f:Str)(v:V):∀fs:List (Str×V),(Yv f v fs).length<=fs.length+1
 |[]=>by simp[Yv]
 |(k,x)::r=>by
  have ih:=R7 f v r
  rw[show Yv f v ((k,x)::r)=(if k=f then(k,v)::r else(k,x)::Yv f v r) from rfl]
  by_cases hk:k=f
  .rw[AD hk,AH,AH];omega
  .rw[AF hk,AH,AH];omega
def RelO.some_of {v:V}{o:Option Value}(r:RelO (some v) o):∃u,o=some u/\RelV v u:=by
 cases o with
 |none=>exact(show False from r).elim
 |some u=>exact⟨u,rfl,r⟩
def RelO.none_of {o:Option Value}(r:RelO none o):o=none:=by
 cases o with
 |none=>rfl
 |some u=>exact(show False from r).elim
def Zaw {v:V}{u:Value}(r:RelV v u):PySem.W.handedIn u=true:=by
 cases v with
 |non=>cases (show u=Value.none from r);rfl
 |bl b=>cases (show u=Value.bool b from r);rfl
 |int i=>obtain⟨t,e⟩:=(show ∃t,u=Value.int i t from r);cases e;rfl
 |str x=>obtain⟨t,e⟩:=(show ∃t,u=Value.str x t from r);cases e;rfl
 |byt b=>obtain⟨t,e⟩:=(show ∃t,u=Value.bytes b t from r);cases e;rfl
 |flt b=>obtain⟨t,e⟩:=(show ∃t,u=Value.float b t from r);cases e;rfl
 |ref a=>cases (show u=Value.ref a from r);rfl
 |ty n=>cases (show u=Value.type n from r);rfl
section
variable {P:Program}{w:World}{H H':Hp}{h h':Heap}{a C dx:Addr}{fs fs':List (Str×V)}
def B9 (hok:HOk P w H h)(e:H a=some (.ins C dx fs)):∃mA,ObjM h a dx C mA/\(∀f,RelO (fs.lookup f) (mA f))/\PySem.Within mA (fs.map (·.1))/\fs.length<=1000/\H dx=some (.own a):=by
 obtain⟨d,z,ne,ob,mA,n,r,q⟩:=(show ObjOk P w H h a (.ins C dx fs) from hok a _ e)
 exact⟨mA,⟨ob,n,ne⟩,r,q,z,d⟩
end
structure Cls (K:PySem.W.Frag) (C:Addr):Prop where
 pg:PySem.W.plainGet K C Str.empty=true
 hd:PySem.W.hasDictIn K C=true
 po:PySem.W.plainOver K C=true
 sa:PySem.W.findIn K (.ref C) "__setattr__"=some (some (.builtin "object.__setattr__"))
def Cls.get {K:PySem.W.Frag}{C:Addr}(c:Cls K C)(f:Str):PySem.W.plainGet K C f=true:=c.pg
def NoAttr (K:PySem.W.Frag)(C:Addr)(f:Str):Prop:=PySem.W.findIn K (.ref C) f=some none
def NoAttr.taker {K:PySem.W.Frag}{C:Addr}{f:Str}(n:NoAttr K C f):PySem.W.takerIn K C f=some none:=by
 unfold PySem.W.takerIn
 rw[show PySem.W.findIn K (.ref C) f=some none from n]
 rfl
structure OD (K:PySem.W.Frag) (C:Addr) (m:Str) (f:Addr):Prop where
 at_:PySem.W.findIn K (.ref C) m=some (some (.ref f))
 fn:PySem.W.isFn K (.ref f)=true
 kp:PySem.W.keepIn K (.ref f)=true
section
variable {X:Cx}{pins:List (Addr×Obj)}{σ:St}{H:Hp}{s:Shared}{a C dx:Addr}{fs:List (Str×V)}{f:Str}{v:V}{A:Around}{E:Value->Shared->Prop}
def Tl {b:Bool}{Q:Value->Shared->Prop}(I:Inv X pins σ H s)(e:H a=some (.ins C dx fs))(c:Cls X.K C)(n:NoAttr X.K C f)(l:fs.lookup f=some v)(h:∀u s',Inv X pins σ H s'->RelV v u->Q u s'):wpAny (model X.prog X.w) A (getAttr (.ref a) f b) Q E s:=by
 obtain⟨mA,O,r,_,_,_⟩:=B9 I.hok e
 obtain⟨u,hu,ru⟩:=RelO.some_of (v:=v) (o:=mA f) (by rw[<-l];exact r f)
 exact Zgh I.kIn O (c.get f) c.hd n hu (Zaw ru) (h u _ (I.tok _) ru)
def Tm {m:Str}{g:Addr}{pl:Sem Bool}{Q:Value×List Value->Shared->Prop}(I:Inv X pins σ H s)(e:H a=some (.ins C dx fs))(c:Cls X.K C)(k:OD X.K C m g)(l:fs.lookup m=none)(h:Q (.ref g,[.ref a]) s):wpAny (model X.prog X.w) A (getMethod (.ref a) m pl) Q E s:=by
 obtain⟨mA,O,r,_,_,_⟩:=B9 I.hok e
 have hn:mA m=none:=RelO.none_of (by rw[<-l];exact r m)
 exact Zcz I.kIn O (c.get m) k.at_ k.fn hn h
def Tn {y:V}{u:Value}{Q:Unit->Shared->Prop}(I:Inv X pins σ H s)(e:H a=some (.ins C dx fs))(c:Cls X.K C)(n:NoAttr X.K C f)(hl:fs.length<1000)(ry:RelV y u)(h:∀s',Inv X pins σ (upd H a (.ins C dx (Yv f y fs))) s'->Q () s'):wpAny (model X.prog X.w) A (setAttr (.ref a) f u) Q E s:=by
 obtain⟨mA,O,r,wi,_,ho⟩:=B9 I.hok e
 have hz:(fs.map (·.1)).length<=sizeLine:=by rw[AC,CG];omega
 refine Zgi I.kIn O c.sa c.po n.taker c.hd wi hz λh' O' sb=>h _ ?_
 have hd:∃o,h'.get? dx=some o:=let ⟨o,_,_,e',_⟩:=O'.ns;⟨o,e'⟩
 refine I.write (x:=a) (e:=dx) (by rw[e];exact True.intro) (.inr ho) (λb q hb z=>(sb.2 b hb).trans z) hd ?_
 refine⟨by rw[Zm O.ne];exact ho,?_,O.ne,O'.obj,_,O'.ns,λg=>?_,λg hg=>?_⟩
 .have:=R7 f y fs;omega
 .show RelO ((Yv f y fs).lookup g) (if g=f then some u else mA g)
  rw[Qt]
  by_cases q:g=f
  .rw[AD q,AD q];exact ry
  .rw[AF q,AF q];exact r g
 .by_cases q:g=f
  .rw[q];exact(P8 f y fs).1
  .refine(P8 f y fs).2 g (wi g λz=>hg ?_)
   show(if g=f then some u else mA g)=none
   rw[AF q];exact z
def Inv.made (I:Inv X pins σ H s):Inv X pins σ (upd (upd H s.heap.objs.size (.own (s.heap.objs.size+1))) (s.heap.objs.size+1) (.ins C s.heap.objs.size []))
  {s with heap:=(s.heap.push PySem.W.emptyDict).push (PySem.W.instObj C s.heap.objs.size)}:=by
 have e1:(s.heap.push PySem.W.emptyDict).get? s.heap.objs.size=some PySem.W.emptyDict:=AO s.heap rfl
 have e2:((s.heap.push PySem.W.emptyDict).push (PySem.W.instObj C s.heap.objs.size)).get? (s.heap.objs.size+1)=some (PySem.W.instObj C s.heap.objs.size):=by
  have:=AO (s.heap.push PySem.W.emptyDict) (o:=PySem.W.instObj C s.heap.objs.size) rfl
  rwa[DD] at this
 have e3:(s.heap.push PySem.W.emptyDict).Ns s.heap.objs.size (λ_=>none):=⟨PySem.W.emptyDict,#[],_,e1,rfl,(λe he=>absurd he (by simp)),λ_=>rfl⟩
 have I1:=I.laid (a:=s.heap.objs.size) (o:=.own (s.heap.objs.size+1)) (h':=s.heap.push PySem.W.emptyDict) (t':=s.toks) (λb u q=>AB _ q) (AQ _) ⟨_,e1⟩
 refine I1.laid (a:=s.heap.objs.size+1) (o:=.ins C s.heap.objs.size []) (t':=s.toks) (λb u q=>AB _ q) (Nat.le_of_eq (DD _ _)) ?_
 have ne:s.heap.objs.size≠s.heap.objs.size+1:=AK (DS _)
 refine⟨by rw[Zm ne,Zq],CL _,ne,e2,λ_=>none,(Heap.Ns1.of_empty e3).at λo q=>AB _ q,λ_=>True.intro,λy hy=>absurd rfl hy⟩
def Zgj {prog:Program}{w:World}{env:Env}{e:Expr}{f:Str}{pos:Pos}{s:Shared}{Q:Value->Shared->Prop}(hb:attributeBase e f env (eval e env)=eval e env)(h:wpAny (model prog w) A (eval e env) (λo s₁=>wpAny (model prog w) A (getAttr o f true) Q E s₁) E s):wpAny (model prog w) A (eval (.Attribute e f pos) env) Q E s:=
 Attribute_any_ h (by rw[arm_eval_Attribute,hb])
end
def wW (K:PySem.W.Frag)(ta:TE)(f:Str):TE:=λσ H Q=>ta σ H λx H1=>∃a C dx fs v,x=.ref a/\H1 a=some (.ins C dx fs)/\Cls K C/\NoAttr K C f/\fs.lookup f=some v/\Q v H1
def wV (K:PySem.W.Frag)(ta tv:TE)(f:Str):TS:=λD σ H=>tv σ H λy H1=>ta σ H1 λx H2=>∃a C dx fs,x=.ref a/\H2 a=some (.ins C dx fs)/\Cls K C/\NoAttr K C f/\fs.length<1000 /\
 D.nx σ (upd H2 a (.ins C dx (Yv f y fs)))
def oT (X:Cx)(op:Operator)(rd:V->V->Hp->VK->Prop):Prop:=
 ∀(pins:List (Addr×Obj)) (s:Shared) (σ:St) (H:Hp) (x y:V) (u v:Value) (Q:VK),Inv X pins σ H s->RelV x u->RelV y v->rd x y H Q->wpAny (model X.prog X.w) X.A (inplaceOp op u v) (EP X pins σ Q) X.xe s
def Zgk (K:PySem.W.Frag)(ta tv:TE)(rd:V->V->Hp->VK->Prop)(f:Str):TS:=λD σ H=>ta σ H λx H1=>∃a C dx fs v,x=.ref a/\H1 a=some (.ins C dx fs)/\Cls K C/\NoAttr K C f/\fs.lookup f=some v /\
 tv σ H1 λy H2=>rd v y H2 λz H3=>∃XZ fs',H3 a=some (.ins C XZ fs')/\fs'.length<1000/\D.nx σ (upd H3 a (.ins C XZ (Yv f z fs')))
section
variable {X:Cx}{o e value:Expr}{f:Str}{pos pos' ZG:Pos}{ta tv:TE}
def Wq (he:PE X e ta)(hb:attributeBase e f X.env (eval e X.env)=eval e X.env):PE X (.Attribute e f pos) (wW X.K ta f):=by
 intro pins s σ H Q I h
 refine Zgj hb (Y8 (he pins s σ H _ I h) λu s1 ⟨x,H1,I1,rx,a,C,dx,fs,v,ex,ea,c,n,l,q⟩=>?_)
 subst ex
 obtain rfl:u=Value.ref a:=rx
 exact Tl I1 ea c n l λu' s2 I2 ru=>⟨v,H1,I2,ru,q⟩
def Aa (ha:PE X o ta)(hv:PE X value tv)(hs:swapsWith value (some (.Attribute o f pos')) pos.line X.env=pure false):PS X (.Assign [.Attribute o f pos'] value pos) (wV X.K ta tv f):=by
 intro pins s σ H D I h
 refine plainObj_wpAny_Assign_Attribute (Y8 (hv pins s σ H _ I h) λu s1 ⟨y,H1,I1,ry,q⟩=>Y8 (ha pins s1 σ H1 _ I1 q) λov s2 ⟨x,H2,I2,rx,a,C,dx,fs,ex,ea,c,n,l,q2⟩=>?_) hs
 subst ex
 obtain rfl:ov=Value.ref a:=rx
 exact Tn I2 ea c n l ry λs3 I3=>⟨σ,_,I3,q2⟩
def Zax {op:Operator}{rd:V->V->Hp->VK->Prop}(ha:PE X o ta)(hv:PE X value tv)(uN:oT X op rd):PS X (.AugAssign (.Attribute o f ZG) op value pos) (Zgk X.K ta tv rd f):=by
 intro pins s σ H D I h
 refine wpAny_AugAssign_AttributeAny (Y8 (ha pins s σ H _ I h) λov s1 ⟨x,H1,I1,rx,a,C,dx,fs,v,ex,ea,c,n,l,q⟩=>?_)
 subst ex
 obtain rfl:ov=Value.ref a:=rx
 refine Tl I1 ea c n l λu s2 I2 ru=>Y8 (hv pins s2 σ H1 _ I2 q) λw3 s3 ⟨y,H2,I3,ry,q3⟩=>Y8 (uN pins s3 σ H2 v y u w3 _ I3 ru ry q3) λw4 s4 ⟨z,H3,I4,rz,XZ,fs',vJ,l',q4⟩=>?_
 exact Tn I4 vJ c n l' rz λs5 I5=>⟨σ,_,I5,q4⟩
def wU:V->V->Hp->VK->Prop:=λx y H Q=>∃i j,x=.int i/\y=.int j/\Q (.int (i+j)) H
def y7:oT X .Add wU:=by
 rintro pins s σ H x y u v Q I rx ry ⟨i,j,rfl,rfl,q⟩
 obtain⟨t,rfl⟩:=(show ∃t,u=Value.int i t from rx)
 obtain⟨t',rfl⟩:=(show ∃t',v=Value.int j t' from ry)
 exact PyProof.Rows.iadd_int ⟨.int (i+j),H,I.tok _,⟨_,rfl⟩,q⟩
end
structure Room (k:Nat) (A:Around):Prop where
 hd:A.handled=none
 dp:A.depth+3*k+5<recursionLimit
 un:A.units+16*k+200<cLine
def Room.mono {j k:Nat}{A:Around}(r:Room k A)(h:j<=k):Room j A:=⟨r.hd,by have:=r.dp;omega,by have:=r.un;omega⟩
def Room.m {j k:Nat}{A:Around}(r:Room k A)(h:j<=k:=by decide):Room j A:=r.mono h
theorem Room.deeper {k:Nat}{A:Around}(r:Room (k+1) A)(env:Env):Room k (A.deeper env):=
 ⟨r.hd,by have:=r.dp;show A.depth+1+3*k+5<_;omega,by have:=r.un;show A.units+3+16*k+200<_;omega⟩
def Fl {A:Around}{C:Addr}{us:List Value}{kw:List (Str×Value)}:(A.under (.builtin "type.__call__" ⟨.ref C::us,kw⟩)).depth=A.depth+1:=by
 first|rfl|simp[Around.under,Code.weight,Code.isCreation,Code.isGuard,Code.isCaller,Code.frames,Code.isFrame,guardIds]
def Fm {A:Around}{C:Addr}{us:List Value}{kw:List (Str×Value)}:(A.under (.builtin "type.__call__" ⟨.ref C::us,kw⟩)).units=A.units+1:=by
 first|rfl|simp[Around.under,Code.cUnits,Code.frames,Code.isFrame]
def Room.make {k:Nat}{A:Around}(r:Room (k+1) A)(C:Addr)(us:List Value)(kw:List (Str×Value)):Room k (A.under (.builtin "type.__call__" ⟨.ref C::us,kw⟩)):=
 ⟨r.hd,by have:=r.dp;rw[Fl];omega,by have:=r.un;rw[Fm];omega⟩
theorem Room.depth {k:Nat}{A:Around}(r:Room k A):A.depth<recursionLimit:=by have:=r.dp;omega
theorem Room.units {k:Nat}{A:Around}(r:Room k A):A.units+64<cLine:=by have:=r.un;omega
def lK:TA:=λ_ H Q=>Q [] H
def Ik (ta:TE)(tr:TA):TA:=λσ H Q=>ta σ H λx H1=>tr σ H1 λxs H2=>Q (x::xs) H2
section
variable {X:Cx}{e:Expr}{es:List Expr}{te:TE}{t:TA}{pos:Pos}
def Ji:PA X [] lK:=λ_ _ _ _ H Q I h=>GM ⟨[],H,I,.nil,h⟩
def Qm (ha:PE X e te)(hr:PA X es t)(hs:starEach (e::es) X.env=(false,eval e X.env)::starEach es X.env:=by rfl):PA X (e::es) (Ik te t):=by
 intro pos pins s σ H Q I h
 rw[hs]
 show wpAny _ _ (spliced ((false,eval e X.env)::backTo pos (starEach es X.env))) _ _ s
 refine EG (Y8 (ha pins s σ H _ I h) λu s1 ⟨x,H1,I1,r1,q1⟩=>?_)
 exact Y8 (hr pos pins s1 σ H1 _ I1 q1) λus s2 ⟨xs,H2,I2,r2,q2⟩=>⟨x::xs,H2,I2,.cons r1 r2,q2⟩
def wR (t:TA):TE:=λσ H Q=>t σ H λxs H1=>xs.length<=sizeLine/\∀p,H1 p=none->Q (.ref p) (upd H1 p (.tup xs))
def wQ (t:TA):TE:=λσ H Q=>t σ H λxs H1=>xs.length<=sizeLine/\∀p,H1 p=none->Q (.ref p) (upd H1 p (.lst xs))
def Ab {x1}(h:PA X es t):PE X (.Tuple es x1 pos) (wR t):=by
 intro pins s σ H Q I hq
 refine wpAny_Tuple_spliced (Y8 (h pos pins s σ H _ I hq) λus s1 ⟨xs,H1,I1,r,z,q⟩=>⟨by rw[<-r.length];exact z,?_⟩)
 have hf:H1 s1.heap.objs.size=none:=I1.hok.fresh (AQ _)
 refine⟨.ref s1.heap.objs.size,upd H1 s1.heap.objs.size (.tup xs),I1.laid (t':=s1.toks) (λb u e=>AB _ e) (AQ _) ?_,rfl,q _ hf⟩
 exact⟨z,us,r,⟨_,AO _ rfl,rfl,_,rfl⟩⟩
def Fn (h:PA X es t):PE X (.List es pos) (wQ t):=by
 intro pins s σ H Q I hq
 refine wpAny_List_spliced (Y8 (h pos pins s σ H _ I hq) λus s1 ⟨xs,H1,I1,r,z,q⟩=>⟨by rw[<-r.length];exact z,?_⟩)
 have hf:H1 s1.heap.objs.size=none:=I1.hok.fresh (AQ _)
 refine⟨.ref s1.heap.objs.size,upd H1 s1.heap.objs.size (.lst xs),I1.laid (t':=s1.toks) (λb u e=>AB _ e) (AQ _) ?_,rfl,q _ hf⟩
 exact⟨z,us,0,r,AO _ rfl⟩
end
abbrev Sp:=List V->Hp->VK->XK->Prop
abbrev YX:=List Env->Hp->Shared->XK->Value->Shared->Prop
structure Env0 (P:Program) (w:World) (K:PySem.W.Frag) (mg:Str->Option Value) (base:Heap) (A:Around) (outer:List Env) (s:Shared) (H:Hp):Prop where
 frames:A.frames=some outer
 mod:Mod K mg base
 bs:∀b o,base.get? b=some o->s.heap.get? b=some o/\H b=none
 bsz:base.objs.size<=s.heap.objs.size
 funs:s.heap.FunFrames base outer
 frf:∀b∈Ig outer,H b=none
 hok:HOk P w H s.heap
 bare:AllBare s.gens
def CE (outer:List Env)(P:Program)(w:World)(H:Hp)(s:Shared)(Q:VK)(u:Value)(s':Shared):Prop:=
 ∃v H',s'.os=s.os/\AllBare s'.gens/\Un (Ig outer) [] H H' s.heap s'.heap/\HOk P w H' s'.heap/\RelV v u/\Q v H'
def CR (CX:YX)(outer:List Env)(P:Program)(w:World)(H:Hp)(s:Shared)(Q:VK)(E:XK)(r:Result)(s':Shared):Prop:=
 match r with
 |.ok (.ret u)=>CE outer P w H s Q u s'
 |.ok _=>False
 |.error e=>CX outer H s E e s'
structure MM (P:Program) (w:World) (K:PySem.W.Frag) (mg:Str->Option Value) (base:Heap) (CX:YX) (k:Nat) (f:Addr) (fd:FuncData) (ps:List Str) (sp:Sp):Prop where
 len:∀vs H Q E,sp vs H Q E->vs.length=ps.length
 run:∀(A:Around) (outer:List Env) (s:Shared) (H:Hp) (args:Args) (us:List Value) (vs:List V) (Q:VK) (E:XK),Room k A->Env0 P w K mg base A outer s H->BindsTo s fd args (ps.zip us)->Vals vs us->sp vs H Q E ->
  codeAny (model P w) A (.call (.ref f) args) (CR CX outer P w H s Q E) s
def Env0.make {P:Program}{w:World}{K:PySem.W.Frag}{mg:Str->Option Value}{base:Heap}{A:Around}{outer:List Env}{s:Shared}{H:Hp}(e:Env0 P w K mg base A outer s H)(C:Addr)(us:List Value)(kw:List (Str×Value)):
  Env0 P w K mg base (A.under (.builtin "type.__call__" ⟨.ref C::us,kw⟩)) outer s H:=⟨by first|exact e.frames|(simpa[Around.under,Code.envs,Code.isFrame,pushEnvs] using e.frames),e.mod,e.bs,e.bsz,e.funs,e.frf,e.hok,e.bare⟩
section
variable {X:Cx}{pins:List (Addr×Obj)}{σ:St}{H:Hp}{s s':Shared}
def Inv.env0 (I:Inv X pins σ H s):Env0 X.prog X.w X.K X.mg X.base X.A X.stack s H:=
 ⟨I.ok.frames,I.ok.mod,I.bs,BA I.ok.bsz I.sz,I.stack,I.stkFree,I.hok,I.bare⟩
def Inv.after {Q:VK}{u:Value}(I:Inv X pins σ H s)(h:CE X.stack X.prog X.w H s Q u s'):EP X pins σ Q u s':=by
 obtain⟨v,H',os,bare,un,hok,r,q⟩:=h
 obtain⟨hh,g,d,t,tJ⟩:=s'
 obtain rfl:tJ=s.os:=os
 exact⟨v,H',I.call (h':=hh) (g':=g) (d':=d) (t':=t) (ch:=[]) un hok bare (λb z=>absurd z (by simp)),r,q⟩
end
def pM (sp:Sp)(dvs:List V)(E:XK)(t:TA):TE:=λσ H Q=>t σ H λvs H1=>sp (vs++dvs) H1 Q E
def lu (C:Addr)(m:Str)(sp:Sp)(dvs:List V)(E:XK)(ta:TE)(t:TA):TE:=λσ H Q=>ta σ H λx H1=>∃a dx fs,x=.ref a/\H1 a=some (.ins C dx fs)/\fs.lookup m=none /\
 t σ H1 λvs H2=>sp (x::(vs++dvs)) H2 Q E
def pL (C:Addr)(sp:Sp)(dvs:List V)(E:XK)(t:TA):TE:=λσ H Q=>t σ H λvs H1=>∀x dx,H1 x=none->H1 dx=none->dx≠x ->
 sp (.ref x::(vs++dvs)) (upd (upd H1 dx (.own x)) x (.ins C dx [])) (λv H2=>v=.non/\Q (.ref x) H2) E
def Binds (K:PySem.W.Frag)(fd:FuncData)(ps:List Str)(ds:List Value):Prop:=
 ∀(s:Shared) (us:List Value),K.In s.heap->(us++ds).length=ps.length->BindsTo s fd ⟨us,[]⟩ (ps.zip (us++ds))
def Binds.all {K:PySem.W.Frag}{fd:FuncData}{ps:List Str}(h:∀us:List Value,us.length=ps.length->bindArgs fd ⟨us,[]⟩=pure (ps.zip us)):Binds K fd ps []:=λs us _ hl=>by
 rw[BP] at hl ⊢
 exact .of_eq (h us hl)
def G9 (CX:YX)(X:Cx)(E:XK):Prop:=∀(pins:List (Addr×Obj)) (σ:St) (H:Hp) (s:Shared) (e:Value) (s':Shared),Inv X pins σ H s->CX X.stack H s E e s'->X.xe e s'
section
variable {X:Cx}{CX:YX}{k:Nat}{f C:Addr}{fd:FuncData}{ps:List Str}{sp:Sp}{dvs:List V}{ds:List Value}{E:XK}{x m:Str}{p pos apos:Pos}{e o:Expr}{es:List Expr}{ta:TE}{t:TA}
def Fo {pins:List (Addr×Obj)}{σ:St}{H:Hp}{s:Shared}{Q:VK}{us:List Value}{vs:List V}(F:MM X.prog X.w X.K X.mg X.base CX k f fd ps sp)(hr:Room k X.A)(hb:Binds X.K fd ps ds)(hd:Vals dvs ds)(hx:G9 CX X E)(I:Inv X pins σ H s)(r:Vals vs us)(h:sp (vs++dvs) H Q E):wpAny (model X.prog X.w) X.A (call (.ref f) us) (EP X pins σ Q) X.xe s:=by
 have r2:Vals (vs++dvs) (us++ds):=r.append hd
 have hl:(us++ds).length=ps.length:=by rw[<-r2.length];exact F.len _ _ _ _ h
 refine wpAny_call (IC (F.run X.A X.stack s H ⟨us,[]⟩ (us++ds) (vs++dvs) Q E hr I.env0 (hb s us I.kIn hl) r2 h) λr s' hq=>?_)
 cases r with
 |error e=>exact hx pins σ H s e s' I hq
 |ok fl=>
  cases fl with
  |ret u=>exact I.after hq
  |next=>exact False.elim hq
  |brk=>exact False.elim hq
  |cont=>exact False.elim hq
def Ka (F:MM X.prog X.w X.K X.mg X.base CX k f fd ps sp)(hr:Room k X.A)(hg:Gl X x)(hm:X.mg x=some (.ref f))(hk:PySem.W.keepIn X.K (.ref f)=true)(hb:Binds X.K fd ps ds)(hd:Vals dvs ds)(hx:G9 CX X E)(ha:PA X (e::es) t) (QA:(x==("__debug__":Str))=false:=by decide) (he:starEach (e::es) X.env=(false,eval e X.env)::starEach es X.env:=by rfl) (ND:(backTo pos (starEach es X.env)).any (·.1)=false:=by rfl):
  PE X (.Call (.Name x p) (e::es) [] pos) (pM sp dvs E t):=by
 intro pins s σ H Q I h
 refine EF (B6 I hg hm ?_ QA)
 refine HC (h₀:=X.base) I.ok.mod.kin hk (Y8 (ha pos pins s σ H _ I h) λus s1 ⟨vs,H1,I1,r,q⟩=>⟨I1.kIn,?_⟩) he ND
 exact Fo F hr hb hd hx I1 r q
def Ac {pl:Sem Bool}(he:PE X o ta)(c:Cls X.K C)(hm:OD X.K C m f)(F:MM X.prog X.w X.K X.mg X.base CX k f fd ps sp)(hr:Room k X.A)(hb:Binds X.K fd ps ds)(hd:Vals dvs ds)(hx:G9 CX X E)(ha:PA X (e::es) t)(P7:starEach (e::es) X.env=(false,eval e X.env)::starEach es X.env:=by rfl)(ND:(backTo pos (starEach es X.env)).any (·.1)=false:=by rfl)(ht:eval (.Call (.Attribute o m apos) (e::es) [] pos) X.env=(do
   let ov <-eval o X.env
   standAt apos.atName
   let (f,first) <-holding [ov] (getMethod ov m pl)
   callWith pos f first (backTo pos (starEach (e::es) X.env)) (backToKw pos (keywordEach [] X.env))):=by rfl):
  PE X (.Call (.Attribute o m apos) (e::es) [] pos) (lu C m sp dvs E ta t):=by
 intro pins s σ H Q I h
 refine JK (pl:=pl) (Y8 (he pins s σ H _ I h) λu s1 ⟨x,H1,I1,rx,a,dx,fs,ex,ea,l,q⟩=>?_) ht
 subst ex
 obtain rfl:u=Value.ref a:=rx
 refine Tm I1 ea c hm l ?_
 refine HC (first:=[.ref a]) (h₀:=X.base) I.ok.mod.kin hm.kp (Y8 (ha pos pins s1 σ H1 _ I1 q) λus s2 ⟨vs,H2,I2,r,q2⟩=>⟨I2.kIn,?_⟩) P7 ND
 exact Fo (us:=.ref a::us) (vs:=.ref a::vs) F hr hb hd hx I2 (.cons rfl r) q2
def C5 {pl:Sem Bool}(he:PE X o ta)(c:Cls X.K C)(hm:OD X.K C m f)(F:MM X.prog X.w X.K X.mg X.base CX k f fd ps sp)(hr:Room k X.A)(hb:Binds X.K fd ps ds)(hd:Vals dvs ds)(hx:G9 CX X E)(ht:eval (.Call (.Attribute o m apos) [] [] pos) X.env=(do
   let ov <-eval o X.env
   standAt apos.atName
   let (f,first) <-holding [ov] (getMethod ov m pl)
   callWith pos f first (backTo pos (starEach [] X.env)) (backToKw pos (keywordEach [] X.env))):=by rfl):
  PE X (.Call (.Attribute o m apos) [] [] pos) (lu C m sp dvs E ta lK):=by
 intro pins s σ H Q I h
 refine JK (pl:=pl) (Y8 (he pins s σ H _ I h) λu s1 ⟨x,H1,I1,rx,a,dx,fs,ex,ea,l,q⟩=>?_) ht
 subst ex
 obtain rfl:u=Value.ref a:=rx
 refine Tm I1 ea c hm l ?_
 exact PySem.W.callWith_K0 (first:=[.ref a]) I1.kIn hm.kp (Fo (us:=[.ref a]) (vs:=[.ref a]) F hr hb hd hx I1 (.cons rfl .nil) q)
structure Mk (K:PySem.W.Frag) (C f:Addr):Prop where
 makes:PySem.W.makesIn K C=true
 init:PySem.W.findIn K (.ref C) "__init__"=some (some (.ref f))
 fn:PySem.W.isFn K (.ref f)=true
 kp:PySem.W.keepIn K (.ref C)=true
def Zc2 {pins:List (Addr×Obj)}{σ:St}{H:Hp}{s:Shared}{Q:VK}{us:List Value}{vs:List V}(M:Mk X.K C f)(F:MM X.prog X.w X.K X.mg X.base CX k f fd ps sp)(hr:Room (k+1) X.A)(hb:Binds X.K fd ps ds)(hd:Vals dvs ds)(hx:G9 CX X E)(I:Inv X pins σ H s)(r:Vals vs us)(h:∀x dx,H x=none->H dx=none->dx≠x->sp (.ref x::(vs++dvs)) (upd (upd H dx (.own x)) x (.ins C dx [])) (λv H2=>v=.non/\Q (.ref x) H2) E):
  wpAny (model X.prog X.w) X.A (call (.ref C) us) (EP X pins σ Q) X.xe s:=by
 have hq:=h (s.heap.objs.size+1) s.heap.objs.size (I.hok.fresh (EJ _)) (I.hok.fresh (AQ _)) (AK (DS _))
 have I2:=Inv.made (C:=C) I
 have r2:Vals (V.ref (s.heap.objs.size+1)::(vs++dvs)) (Value.ref (s.heap.objs.size+1)::(us++ds)):=.cons rfl (r.append hd)
 have hl:(Value.ref (s.heap.objs.size+1)::us++ds).length=ps.length:=by
  have e:=r2.length
  rw[F.len _ _ _ _ hq] at e
  exact e.symm
 refine wpAny_call (Zc0 (f:=f) I.kIn M.makes M.init (ET.mp M.fn) (IC (F.run _ X.stack _ _ ⟨Value.ref (s.heap.objs.size+1)::us,[]⟩ (Value.ref (s.heap.objs.size+1)::(us++ds)) _ _ E (hr.make C us [])
  (I2.env0.make C us []) (hb _ (Value.ref (s.heap.objs.size+1)::us) I2.kIn hl) r2 hq) λr s' VN=>?_))
 cases r with
 |error e=>exact hx pins σ _ _ e s' I2 VN
 |ok fl=>
  cases fl with
  |ret u=>
   obtain⟨v,H',I3,rv,ev,q3⟩:=I2.after VN
   subst ev
   exact⟨rv,⟨V.ref (s.heap.objs.size+1),H',I3,rfl,q3⟩⟩
  |next=>exact False.elim VN
  |brk=>exact False.elim VN
  |cont=>exact False.elim VN
def N2 (M:Mk X.K C f)(F:MM X.prog X.w X.K X.mg X.base CX k f fd ps sp)(hr:Room (k+1) X.A)(hg:Gl X x)(hm:X.mg x=some (.ref C))(hb:Binds X.K fd ps ds)(hd:Vals dvs ds)(hx:G9 CX X E)(ha:PA X (e::es) t) (QA:(x==("__debug__":Str))=false:=by decide) (he:starEach (e::es) X.env=(false,eval e X.env)::starEach es X.env:=by rfl) (ND:(backTo pos (starEach es X.env)).any (·.1)=false:=by rfl):
  PE X (.Call (.Name x p) (e::es) [] pos) (pL C sp dvs E t):=by
 intro pins s σ H Q I h
 refine EF (B6 I hg hm ?_ QA)
 refine HC (h₀:=X.base) I.ok.mod.kin M.kp (Y8 (ha pos pins s σ H _ I h) λus s1 ⟨vs,H1,I1,r,q⟩=>⟨I1.kIn,?_⟩) he ND
 exact Zc2 M F hr hb hd hx I1 r q
end
structure MK (N P:List Str) (sc:Scope):Prop where
 kind:sc.kind=.function
 co:sc.isCoroutine=false
 gen:sc.isGenerator=false
 nd:N.Nodup
 pre:N.take P.length=P
 par:∀x∈P,sc.names.lookup x=some .local\/sc.names.lookup x=some .cell
 nofree:∀y∈sc.names,y.2≠.free
theorem Mx {kindOf:Str->Option NameKind}{x:Str}:∀{binds:List (Str×Value)}{m:Str->Option Value},(∀v,(x,v) ∉ binds)->bindL kindOf binds m x=m x
 |[],_,_=>rfl
 |(n,v)::r,m,h=>by
  unfold bindL
  rw[Mx λw hw=>h w (AV _ hw)]
  split
  .have:x≠n:=by rintro rfl;exact h v BH
   simp[this]
  .rfl
theorem My {kindOf:Str->Option NameKind}{x:Str}:∀{binds:List (Str×Value)}{m:Str->Option Value},(∀v,(x,v) ∉ binds)->bindC kindOf binds m x=m x
 |[],_,_=>rfl
 |(n,v)::r,m,h=>by
  unfold bindC
  rw[My λw hw=>h w (AV _ hw)]
  split
  .rfl
  .have:x≠n:=by rintro rfl;exact h v BH
   simp[this]
theorem Mz {kindOf:Str->Option NameKind}{x:Str}{v:Value}:∀{P:List Str}{vs:List Value}{i:Nat}{m:Str->Option Value},P.Nodup->P[i]?=some x->vs[i]?=some v->kindOf x=some .local ->
  bindL kindOf (P.zip vs) m x=some v
 |[],_,_,_,_,h,_,_=>by simp at h
 |_::_,[],_,_,_,_,h,_=>by simp at h
 |p::P,w::vs,0,m,nd,h1,h2,hk=>by
  simp at h1 h2;subst h1;subst h2
  show bindL kindOf ((p,w)::P.zip vs) m p=_
  unfold bindL
  rw[Mx λv hv=>(FN.mp nd).1 (HX hv).1,AD hk]
  simp
 |p::P,w::vs,i+1,m,nd,h1,h2,hk=>by
  show bindL kindOf ((p,w)::P.zip vs) m x=_
  unfold bindL
  exact Mz (i:=i) (FN.mp nd).2 (by simpa using h1) (by simpa using h2) hk
theorem M1 {kindOf:Str->Option NameKind}{x:Str}{v:Value}:∀{P:List Str}{vs:List Value}{i:Nat}{m:Str->Option Value},P.Nodup->P[i]?=some x->vs[i]?=some v->kindOf x≠some .local ->
  bindC kindOf (P.zip vs) m x=some v
 |[],_,_,_,_,h,_,_=>by simp at h
 |_::_,[],_,_,_,_,h,_=>by simp at h
 |p::P,w::vs,0,m,nd,h1,h2,hk=>by
  simp at h1 h2;subst h1;subst h2
  show bindC kindOf ((p,w)::P.zip vs) m p=_
  unfold bindC
  rw[My λv hv=>(FN.mp nd).1 (HX hv).1,AF hk]
  simp
 |p::P,w::vs,i+1,m,nd,h1,h2,hk=>by
  show bindC kindOf ((p,w)::P.zip vs) m x=_
  unfold bindC
  exact M1 (i:=i) (FN.mp nd).2 (by simpa using h1) (by simpa using h2) hk
def Je (N:List Str)(vs:List V):St:=vs.map some++List.replicate (N.length-vs.length) none
def Xo (CX:YX)(P:Program)(w:World)(K:PySem.W.Frag)(mg:Str->Option Value)(base:Heap)(N:List Str)(qual:Str)(scope:Scope)(f:Addr)(cd:Value)(A:Around)(outer:List Env)(s:Shared)(H:Hp)(E:XK):Cx where
 prog:=P
 w:=w
 K:=K
 mg:=mg
 base:=base
 A:=A.deeper (envOfC qual scope s.heap.objs.size f cd)
 N:=N
 s₀:=s
 H₀:=H
 env:=envOfC qual scope s.heap.objs.size f cd
 outer:=outer
 stack:=envOfC qual scope s.heap.objs.size f cd::outer
 ex:=[]
 calm:=true
 fn:=λ_=>true
 pn:=[]
 xe:=λe s'=>wpAny (model P w) (A.deeper (envOfC qual scope s.heap.objs.size f cd)) (leaving (envOfC qual scope s.heap.objs.size f cd) e) (λ_ jA=>CX outer H s E e jA) (λe' jA=>CX outer H s E e' jA) s'
def Yo {sc:Scope}{n:Nat}{x:Str}(h:sc.names.lookup x=some .cell):∃c,(cellsFrom n sc.names []).lookup x=some c:=by
 have q:=IZ sc.names n [] (.inl h)
 exact FW.mp q
def Zay {CX:YX}{P:Program}{w:World}{K:PySem.W.Frag}{mg:Str->Option Value}{base:Heap}{N ps:List Str}{qual:Str}{scope:Scope}{f:Addr}{cd:Value}{A:Around}{outer:List Env}{s s1:Shared}{H:Hp}{E:XK}{us:List Value}{vs:List V}(S:MK N ps scope)(hd:A.handled=none)(e0:Env0 P w K mg base A outer s H)(hl:vs.length=ps.length)(r:Vals vs us)(x:InCallC s s.heap.objs.size (bindL (envOfC qual scope s.heap.objs.size f cd).kindOf (ps.zip us) λ_=>none) (cellsFrom (s.heap.objs.size+1) scope.names []) (bindC (envOfC qual scope s.heap.objs.size f cd).kindOf (ps.zip us) λ_=>none) s1):
  Inv (Xo CX P w K mg base N qual scope f cd A outer s H E) [] (Je N vs) H s1:=by
 have ND:ps.length<=N.length:=by have:=congrArg List.length S.pre;rw[GD] at this;omega
 obtain⟨h1,tk,rfl,hk⟩:=x.done
 have noA:∀b:Addr,b ∉ (Xo CX P w K mg base N qual scope f cd A outer s H E).ex:=λb z=>absurd (show b∈([]:List Addr) from z) (by simp)
 refine⟨⟨e0.mod,S.kind,rfl,rfl,AQ _,λy z c h1 h2=>?_,λy hy=>?_,λy c _ h=>?_,λ_=>hd,Around.frames_deeper e0.frames,.inr ⟨rfl,rfl⟩,λb z=>absurd z (noA b),e0.bs,e0.bsz,λb _ _=>noA b,λb z=>absurd z (noA b),e0.funs,e0.frf⟩,
  rfl,e0.bare,Un.kept hk,⟨_,x.toInCall.ns,λi y v h1 h2 h3=>?_⟩,λy c h=>⟨_,x.cell y c h⟩,e0.hok.fresh (AQ _),λy c h=>?_,λp hp=>absurd (show p∈([]:List (Addr×Obj)) from hp) (by simp),e0.hok.kept hk,?_⟩
 .exact name_of_addr x.apart (DR h1) (DR h2)
 .have hy:scope.names.lookup y=some .cell\/scope.names.lookup y=some .free:=hy
  rcases hy with hy|hy
  .exact Yo hy
  .exact absurd rfl (S.nofree _ (DR hy))
 .exact JD (x.above y c (DR h))
 .have hi:i<vs.length:=by
   unfold Je at h2
   by_cases hi:i<vs.length
   .exact hi
   .rw[BW (by simpa using hi)] at h2
    rw[CQ] at h2
    split at h2<;>cases h2
  have ha:vs[i]?=some v:=by
   unfold Je at h2
   rw[BC (by simpa using hi),BE] at h2
   cases e:vs[i]? with
   |none=>rw[e] at h2;cases h2
   |some a=>rw[e] at h2;cases h2;rfl
  obtain⟨u,hu,rv⟩:=r.get ha
  have hp:ps[i]?=some y:=by
   rw[<-S.pre,List.getElem?_take_of_lt (by omega)];exact h1
  have mV:ps.Nodup:=by rw[<-S.pre];exact S.nd.sublist (List.take_sublist _ _)
  refine⟨u,rv,?_⟩
  rcases S.par y (BZ hp) with k|k
  .exact .inl ⟨k,Mz mV hp hu k⟩
  .obtain⟨c,e⟩:=Yo (n:=s.heap.objs.size+1) k
   refine .inr ⟨.inl k,c,e,?_⟩
   have q:=x.cell y c e
   rw[M1 mV hp hu (by show scope.names.lookup y≠_;rw[k];decide)] at q
   exact q
 .exact e0.hok.fresh (JD (x.above y c (DR h)))
 .unfold Je
  show _=N.length
  rw[AJ,AC,CP]
  omega
def xW {CX:YX}{P:Program}{w:World}{K:PySem.W.Frag}{mg:Str->Option Value}{base:Heap}{k:Nat}{f:Addr}{name qual:Str}{params:Arguments}{body:List Stmt}{scope:Scope}{dV kV doc pm MP ct oc:Value}{an od:Option Addr}{aP:Array (Option Value)}{N ps:List Str}{sp:Sp}(lk:K.lookup f=some ⟨oc,od,.func (PySem.W.fnOf name qual params body scope dV kV doc pm an MP ct),aP⟩)(NL:PySem.W.codeIn K MP qual=true)(S:MK N ps scope)(len:∀vs H Q E,sp vs H Q E->vs.length=ps.length)(OH:∀(A:Around) (outer:List Env) (s:Shared) (H:Hp) (vs:List V) (Q:VK) (E:XK),Room k (A.deeper (envOfC qual scope s.heap.objs.size f MP))->sp vs H Q E ->
   ∃t,PSs (Xo CX P w K mg base N qual scope f MP A outer s H E) body t/\t {nx:=λ_ H'=>Q .non H',rt:=Q} (Je N vs) H):
  MM P w K mg base CX (k+1) f (PySem.W.fnOf name qual params body scope dV kV doc pm an MP ct) ps sp:=by
 refine⟨len,λA outer s H args us vs Q E hr e0 hb r hsp=>?_⟩
 have hl:=len _ _ _ _ hsp
 have KX:K.In s.heap:=e0.mod.kin.keeps λb o e=>(e0.bs b o e).1
 have lim:s.heap.NoLimit:=e0.mod.nolimit.keeps λb o e=>(e0.bs b o e).1
 have OG:∀y∈ps.zip us,scope.names.lookup y.1=some .local\/(scope.names.lookup y.1=some .cell/\((cellsFrom (s.heap.objs.size+1) scope.names []).lookup y.1).isSome=true):=fun⟨n,v⟩ hy=>by
  rcases S.par n (HX hy).1 with q|q
  .exact .inl q
  .exact .inr ⟨q,IZ _ _ _ (.inl q)⟩
 refine codeAny_call_function hr.depth (KX _ _ lk) rfl S.co S.gen rfl (PySem.W.codeRec_of KX NL) (hb _ _ _ _ ?_)
 refine wpAny_newFunctionEnv_cells S.kind OG λenv he s1 x=>?_
 subst he
 refine⟨lim.keeps x.toInCall.keep,codeAny_func ?_⟩
 obtain⟨t,ht,hq⟩:=OH A outer s H vs Q E (hr.deeper _) hsp
 have I:Inv (Xo CX P w K mg base N qual scope f MP A outer s H E) [] (Je N vs) H s1:=Zay S hr.hd e0 hl r x
 refine BR (ht [] s1 (Je N vs) H _ I hq) (λfl s' hs=>?_) λe s' hs=>hs
 have fin:∀{σ':St}{H':Hp}{v:V}{u:Value},Inv (Xo CX P w K mg base N qual scope f MP A outer s H E) [] σ' H' s'->RelV v u->Q v H'->CE outer P w H s Q u s':=
  λ{σ' H' v u} J rv q=>⟨v,H',J.os,J.bare,J.base,J.hok,rv,q⟩
 cases fl with
 |ret u=>
  obtain⟨v,σ',H',J,rv,q⟩:=hs
  exact fin J rv q
 |next=>
  obtain⟨σ',H',J,q⟩:=hs
  exact fin (v:=V.non) (u:=Value.none) J rfl q
 |brk=>
  obtain⟨_,_,_,q⟩:=hs
  exact False.elim q
 |cont=>
  obtain⟨_,_,_,q⟩:=hs
  exact False.elim q
section
variable {X:Cx}{x:Str}{p pos:Pos}{e:Expr}{es:List Expr}{t:TA}{id T:String}{r:List V->Hp->VK->Prop}
def kh (r:List V->Hp->VK->Prop)(t:TA):TE:=λσ H Q=>t σ H λvs H1=>r vs H1 Q
def C6 (hc:CallR X (.builtin id) r)(hg:Gl X x)(hm:X.mg x=none)(hv:bootBuiltins x=some (.builtin id))(ha:PA X (e::es) t) (hn:x ≠ "__name__":=by decide) (QA:(x==("__debug__":Str))=false:=by decide)
  (he:starEach (e::es) X.env=(false,eval e X.env)::starEach es X.env:=by rfl) (ND:(backTo pos (starEach es X.env)).any (·.1)=false:=by rfl):PE X (.Call (.Name x p) (e::es) [] pos) (kh r t):=by
 intro pins s σ H Q I h
 refine EF (Gz I hg hm hv ?_ hn QA)
 exact PyProof.Rows.callWith_builtin1 (Y8 (ha pos pins s σ H _ I h) λus s1 ⟨vs,H1,I1,r1,q1⟩=>hc pins s1 σ H1 vs us Q I1 r1 q1) he ND
def Zaz (hc:CallR X (.type T) r)(hg:Gl X x)(hm:X.mg x=none)(hv:bootBuiltins x=some (.type T))(ha:PA X (e::es) t) (hn:x ≠ "__name__":=by decide) (QA:(x==("__debug__":Str))=false:=by decide)
  (he:starEach (e::es) X.env=(false,eval e X.env)::starEach es X.env:=by rfl) (ND:(backTo pos (starEach es X.env)).any (·.1)=false:=by rfl):PE X (.Call (.Name x p) (e::es) [] pos) (kh r t):=by
 intro pins s σ H Q I h
 refine EF (Gz I hg hm hv ?_ hn QA)
 exact DO (Y8 (ha pos pins s σ H _ I h) λus s1 ⟨vs,H1,I1,r1,q1⟩=>hc pins s1 σ H1 vs us Q I1 r1 q1) he ND
end
end L2
namespace HT
open PySem PyProof.Rows
section
variable {prog:Program}{w:World}{A:Around}{E:Value->Shared->Prop}{s:Shared}
def cat_tup {t b:Addr}{vs ws:List Value}{Q:Value->Shared->Prop}(ht:IsTup s.heap t vs.toArray)(hb:IsTup s.heap b ws.toArray)(hv:vs≠[])(h1:ws=[]->Q (.ref t) s) (h2:ws≠[]->Q (.ref s.heap.objs.size) {s with heap:=s.heap.push {cls:=.type "tuple", data:=.seq (vs++ws).toArray}})
  (hsz:vs.length+ws.length<=sizeLine):wpAny (model prog w) A (binaryOp .Add (.ref t) (.ref b)) Q E s:=by
 obtain⟨⟨cls,dd,data,sl⟩,ho,hc,n,hd⟩:=id ht
 obtain⟨⟨kR,gg,data2,gE⟩,bH,XQ,n2,hd2⟩:=id hb
 simp only at hc hd XQ hd2
 subst hc hd XQ hd2
 have e:vs.toArray++ws.toArray=(vs++ws).toArray:=by simp
 by_cases hw:ws=[]
 .exact LG ⟨_,ho,rfl⟩ ⟨_,bH,rfl⟩ noFill_tuple_add seq_tuple_add JA IS (IJ _ _)
   (tuple_addW1 t b vs.toArray ws.toArray n n2 dd gg sl gE (by simpa using hv) (by simp[hw])) ⟨ho,bH,h1 hw⟩
 .refine LG ⟨_,ho,rfl⟩ ⟨_,bH,rfl⟩ noFill_tuple_add seq_tuple_add JA IS (IJ _ _)
   (tuple_addW2 t b vs.toArray ws.toArray n n2 dd gg sl gE (by simpa using hv) (by simpa using hw) (by rw[AL,AL];exact hsz)) ⟨ho,bH,?_⟩
  rw[e]
  exact h2 hw
def sIx (n d:Nat):Option Int->Nat
 |none=>d
 |some v=>if v<0 then(v+(n:Int)).toNat else min v.toNat n
def sIx_nat (n d k:Nat):sIx n d (some (k:Int))=min k n:=by
 show(if(k:Int)<0 then((k:Int)+(n:Int)).toNat else min (k:Int).toNat n)=min k n
 rw[AF (by omega),HL]
def yy (n d:Nat)(hd:d<=n)(o:Option Int):sIx n d o<=n:=by
 cases o with
 |none=>exact hd
 |some v=>
  show(if v<0 then(v+(n:Int)).toNat else min v.toNat n)<=n
  by_cases hv:v<0
  .rw[AD hv];omega
  .rw[AF hv];exact Nat.min_le_right _ _
def Il (v:Int)(n d:Nat):(if v<0 then max (v+(n:Int)) 0 else min v (n:Int))=((sIx n d (some v):Nat):Int):=by
 show(if v<0 then max (v+(n:Int)) 0 else min v (n:Int))=(((if v<0 then(v+(n:Int)).toNat else min v.toNat n):Nat):Int)
 by_cases hv:v<0
 .simp only[AD hv];omega
 .simp only[AF hv];omega
def Fp (lo hi:Option Int)(n:Nat):Builtin.Slice.sliceAdjust lo hi 1 (n:Int)=(((sIx n 0 lo:Nat):Int),((sIx n n hi:Nat):Int)):=by
 have h1:¬((1:Int)<0):=by omega
 unfold Builtin.Slice.sliceAdjust
 simp only[h1,DM]
 refine Prod.ext ?_ ?_
 .cases lo with
  |none=>rfl
  |some v=>exact Il v n 0
 .cases hi with
  |none=>rfl
  |some v=>exact Il v n n
def Fq (i j:Nat):Builtin.Slice.slicePlaces (i:Int) (j:Int) 1=j-i:=by
 unfold Builtin.Slice.slicePlaces
 have h1:(1:Int) > 0:=by omega
 simp only[h1,DW,Int.ediv_one]
 split<;>omega
def To {v:Value}{o:Option Int}{Q:Option Int->Shared->Prop}(p:IsPart v o)(h:Q o s):wpAny (model prog w) A (Builtin.Slice.slicePartIndex v) Q E s:=by
 cases p with
 |none=>exact slicePart_none h
 |int i t=>exact slicePart_int h
def P9 {sl:Addr}{vl vu:Value}{lo hi:Option Int}{n:Nat}{Q:Int×Int×Nat->Shared->Prop}(hs:s.heap.IsSliceOf sl vl vu .none)(pl:IsPart vl lo)(pu:IsPart vu hi)(h:Q (((sIx n 0 lo:Nat):Int),1,sIx n n hi-sIx n 0 lo) s):wpAny (model prog w) A (Builtin.Slice.sliceApplied (.ref sl) (pure (n:Int))) Q E s:=by
 obtain⟨os,dt,mn,gS⟩:=id hs
 unfold Builtin.Slice.sliceApplied Builtin.Slice.sliceFields
 refine AA (AA (CV dt gS (x:=vl) rfl (AA (CV dt gS (x:=vu) rfl (AA (CV dt gS (x:=.none) rfl (AG ?_)))))))
 refine AA (slicePart_none ?_)
 show wpAny _ _ (if((1:Int)==0)=true then _ else _) _ _ s
 rw[AF (by decide)]
 refine AA (To pl (AA (To pu (AA (AG ?_)))))
 show wpAny _ _ (match Builtin.Slice.sliceAdjust lo hi 1 (n:Int) with|(lo,hi)=>pure (lo,(1:Int),Builtin.Slice.slicePlaces lo hi 1)) _ _ s
 rw[Fp lo hi n]
 show wpAny _ _ (pure (((sIx n 0 lo:Nat):Int),(1:Int),Builtin.Slice.slicePlaces ((sIx n 0 lo:Nat):Int) ((sIx n n hi:Nat):Int) 1)) _ _ s
 rw[Fq]
 exact AG h
def Zc3 (xs:Array Value)(i k:Nat):((List.range k).filterMap fun(m:Nat)=>xs[((i:Int)+(m:Int)*1).toNat]?).toArray=((xs.toList.drop i).take k).toArray:=by
 have e:(fun(m:Nat)=>xs[((i:Int)+(m:Int)*1).toNat]?)=λm=>xs[i+m]?:=by
  funext m
  have:((i:Int)+(m:Int)*1).toNat=i+m:=by omega
  rw[this]
 rw[e]
 have:=pick_run xs i k
 rw[List.filterMap_map] at this
 have e2:((λx=>xs[x]?)∘λx=>i+x)=λm=>xs[i+m]?:=rfl
 rw[e2] at this
 rw[this]
def getItem_tuple_cut {t sl:Addr}{items:Array Value}{vl vu:Value}{lo hi:Option Int}{Q:Value->Shared->Prop}(ht:IsTup s.heap t items)(hs:s.heap.IsSliceOf sl vl vu .none)(pl:IsPart vl lo)(pu:IsPart vu hi)(hw:¬(sIx items.size 0 lo=0/\sIx items.size items.size hi=items.size))
  (h:Q (.ref s.heap.objs.size) {s with heap:=s.heap.push {cls:=.type "tuple", data:=.seq ((items.toList.drop (sIx items.size 0 lo)).take (sIx items.size items.size hi-sIx items.size 0 lo)).toArray}})
  (hsz:items.size<=sizeLine):wpAny (model prog w) A (getItem (.ref t) (.ref sl)) Q E s:=by
 have VM:sizeOk (.seq ((items.toList.drop (sIx items.size 0 lo)).take (sIx items.size items.size hi-sIx items.size 0 lo)).toArray):=by
  show((items.toList.drop (sIx items.size 0 lo)).take (sIx items.size items.size hi-sIx items.size 0 lo)).toArray.size<=sizeLine
  rw[AL,GD,HP,DN]
  omega
 have hj:sIx items.size items.size hi<=items.size:=yy _ _ (AQ _) hi
 obtain⟨os,dt,mn,gS⟩:=id hs
 have uy:s.TypeIs (.ref sl) "slice":=⟨os,dt,mn⟩
 unfold getItem
 try with_reducible refine CO ?_
 first|refine AA (AG ?_)|skip
 refine AA (wpAny_sequenceKey ht.typeIs (by decide) ?_)
 refine AA (EB (name:=Str.ofString "__getitem__") ht.typeIs FF
  (EA FF ht.typeIs entry_tuple_getitem ?_ (args_tuple_getitem _ _)))
 show wpAny _ _ (Builtin.Tuple.tupleItemsOf (.ref t)>>=_) _ _ s
 refine AA (tupleItemsOf_ ht ?_)
 refine AA (wpAny_typeOf uy ?_)
 rw[AD (by decide)]
 refine AA (P9 hs pl pu ?_)
 have QU:¬((((sIx items.size 0 lo:Nat):Int)==0&&(1:Int)==1&&(sIx items.size items.size hi-sIx items.size 0 lo)==items.size)=true):=by
  intro q
  rw[BG,BG] at q
  have q1:((sIx items.size 0 lo:Nat):Int)=0:=eq_of_beq q.1.1
  have q2:sIx items.size items.size hi-sIx items.size 0 lo=items.size:=eq_of_beq q.2
  exact hw ⟨by omega,by omega⟩
 show wpAny _ _ (if(((sIx items.size 0 lo:Nat):Int)==0&&(1:Int)==1&&(sIx items.size items.size hi-sIx items.size 0 lo)==items.size)=true then _ else _) _ _ s
 rw[AF QU,Zc3]
 first
  |exact AA (m:=Builtin.Tuple.tupleExact _) (DC (AG ⟨_,rfl,AG h⟩) VM)
  |exact AA (m:=Builtin.Tuple.tupleExact _) (DC (AA (AG (AG ⟨_,rfl,AG h⟩))) VM)
  |exact AA (AA (m:=Builtin.Tuple.tupleExact _) (DC (AG (AG ⟨_,rfl,AG h⟩)) VM))
  |exact AA (AA (m:=Builtin.Tuple.tupleExact _) (DC (AG ⟨_,rfl,AG h⟩) VM))
end
end HT
namespace L2
open PySem PySem.Spec PyProof.Rows
abbrev TO:=St->Hp->(Option Int->Hp->Prop)->Prop
def PO (X:Cx)(e:Option Expr)(t:TO):Prop:=
 ∀(pins:List (Addr×Obj)) (s:Shared) (σ:St) (H:Hp) (Q:Option Int->Hp->Prop),Inv X pins σ H s->t σ H Q ->
  wpAny (model X.prog X.w) X.A (evalPart e X.env) (λu s'=>∃o H',Inv X pins σ H' s'/\IsPart u o/\Q o H') X.xe s
def Zgl:TO:=λ_ H Q=>Q none H
def xV (t:TE):TO:=λσ H Q=>t σ H λx H1=>∃i,x=.int i/\Q (some i) H1
def Fs {ns:List Int}:∀{us:List Value},Vals (ns.map V.int) us->IntsAre us ns:=by
 induction ns with
 |nil=>intro us r;rw[FB] at r;cases r;exact .nil
 |cons n ns ih=>
  intro us r
  rw[AM] at r
  cases r with
  |cons r1 r2=>
   obtain⟨t,e⟩:=r1
   subst e
   exact .cons n t (ih r2)
section
variable {X:Cx}{e:Expr}{te:TE}{lo hi:Option Expr}{tl th:TO}{pos p2:Pos}
def Zgm:PO X none Zgl:=by
 intro pins s σ H Q I h
 rw[evalPart_none]
 exact AG ⟨none,H,I,.none,h⟩
def Zgn (h:PE X e te):PO X (some e) (xV te):=by
 intro pins s σ H Q I hw
 rw[evalPart_some]
 refine Y8 (h pins s σ H _ I hw) λu s1 ⟨x,H1,I1,r1,q1⟩=>?_
 obtain⟨i,rfl,q⟩:=q1
 obtain⟨t,rfl⟩:=r1
 exact⟨some i,H1,I1,.int i t,q⟩
def SlR (X:Cx)(r:V->Option Int->Option Int->Hp->VK->Prop):Prop:=
 ∀(pins:List (Addr×Obj)) (s:Shared) (σ:St) (H:Hp) (x:V) (v vl vu:Value) (lo hi:Option Int) (sl:Addr) (Q:VK),Inv X pins σ H s->RelV x v->s.heap.IsSliceOf sl vl vu .none->IsPart vl lo->IsPart vu hi->r x lo hi H Q ->
  ∃T id,typeLookup (.type T) "__getitem__"=pure (some (.builtin id))/\s.TypeIs v T/\wpAny (model X.prog X.w) X.A (getItem v (.ref sl)) (EP X pins σ Q) X.xe s
def SlR.or {r r':V->Option Int->Option Int->Hp->VK->Prop}(h:SlR X r)(h':SlR X r'):SlR X (λx lo hi H Q=>r x lo hi H Q\/r' x lo hi H Q):=by
 intro pins s σ H x v vl vu lo hi sl Q I rx hs pl pu q
 rcases q with q|q
 .exact h pins s σ H x v vl vu lo hi sl Q I rx hs pl pu q
 .exact h' pins s σ H x v vl vu lo hi sl Q I rx hs pl pu q
def wK (r:V->Option Int->Option Int->Hp->VK->Prop)(te:TE)(tl th:TO):TE:=λσ H Q=>te σ H λx H1=>tl σ H1 λl H2=>th σ H2 λu H3=>r x l u H3 Q
def Zc4 {r:V->Option Int->Option Int->Hp->VK->Prop}(hr:SlR X r)(he:PE X e te)(hl:PO X lo tl)(hu:PO X hi th):PE X (.Subscript e (.Slice lo hi none p2) pos) (wK r te tl th):=by
 intro pins s σ H Q I h
 refine Subscript_ (Y8 (he pins s σ H _ I h) λv s1 ⟨x,H1,I1,r1,q1⟩=>?_)
 refine wpAny_Slice (Y8 (hl pins s1 σ H1 _ I1 q1) λvl s2 ⟨l,H2,I2,pl,q2⟩=>Y8 (hu pins s2 σ H2 _ I2 q2) λvu s3 ⟨u,H3,I3,pu,q3⟩=>?_)
 rw[evalPart_none]
 refine AG ?_
 have I4:Inv X pins σ H3 {s3 with heap:=s3.heap.push {cls:=.type "slice", data:=.fields #[vl,vu,.none]}}:=I3.kept (t':=s3.toks) λb ob q=>AB _ q
 obtain⟨T,id,hT,ht,hg⟩:=hr pins {s3 with heap:=s3.heap.push {cls:=.type "slice", data:=.fields #[vl,vu,.none]}} σ H3 x v vl vu l u s3.heap.objs.size Q I4 r1 (Heap.IsSliceOf.new ..) pl pu q3
 show wpAny (model X.prog X.w) X.A (subscriptTail e (.Slice lo hi none p2) v (.ref s3.heap.objs.size)) (EP X pins σ Q) X.xe {s3 with heap:=s3.heap.push {cls:=.type "slice", data:=.fields #[vl,vu,.none]}}
 exact tail_any (ops:=[.ref s3.heap.objs.size,v]) ht hT hg (by with_unfolding_all rfl)
def C7 (xs:List V)(lo hi:Option Int):List V:=(xs.drop (HT.sIx xs.length 0 lo)).take (HT.sIx xs.length xs.length hi-HT.sIx xs.length 0 lo)
def R8 (xs:List V)(lo hi:Option Int):(C7 xs lo hi).length<=xs.length:=by
 unfold C7
 rw[GD,HP]
 omega
def wO (K:PySem.W.Frag):V->Option Int->Option Int->Hp->VK->Prop:=λx lo hi H Q=>∃a xs,x=.ref a/\SqT K H a xs /\
 ¬(HT.sIx xs.length 0 lo=0/\HT.sIx xs.length xs.length hi=xs.length)/\∀p,H p=none->Q (.ref p) (upd H p (.tup (C7 xs lo hi)))
def yx:SlR X (wO X.K):=by
 intro pins s σ H x v vl vu lo hi sl Q I rx hs pl pu h
 obtain⟨a,xs,rfl,hx,hw,q⟩:=h
 cases rx
 obtain⟨its,r,ht,hz⟩:=I.tuple hx
 have hlen:its.toArray.size=xs.length:=by rw[AL];exact r.length.symm
 refine⟨"tuple", _,FF.lookup,ht.typeIs,?_⟩
 refine HT.getItem_tuple_cut ht hs pl pu (by rw[hlen];exact hw) ?_ (by rw[hlen];exact hz)
 rw[hlen]
 refine⟨.ref s.heap.objs.size,_,I.laid (t':=s.toks) (o:=.tup (C7 xs lo hi)) (λb ob q=>AB _ q) (AQ _) ?_,rfl,q _ (I.hok.fresh (AQ _))⟩
 exact⟨BA (R8 xs lo hi) hz,_,(r.drop (HT.sIx xs.length 0 lo)).take (HT.sIx xs.length xs.length hi-HT.sIx xs.length 0 lo),IsTup.new _ _⟩
def xU (K:PySem.W.Frag):R2:=λx y H Q=>∃a b xs ys,x=.ref a/\y=.ref b/\SqT K H a xs/\SqT K H b ys/\xs≠[]/\xs.length+ys.length<=sizeLine /\
 (ys=[]->Q (.ref a) H)/\(ys≠[]->∀p,H p=none->Q (.ref p) (upd H p (.tup (xs++ys))))
def Vals.nil_iff {xs:List V}{us:List Value}(r:Vals xs us):us=[]↔xs=[]:=by
 cases r with
 |nil=>simp
 |cons _ _=>simp
def op_catT:OpR X (binaryOp .Add) (xU X.K):=by
 intro pins s σ H x y v u Q I rx ry h
 obtain⟨a,b,xs,ys,rfl,rfl,ha,hb,hx,hz,q1,q2⟩:=h
 cases rx
 cases ry
 obtain⟨its,r1,p1,_⟩:=I.tuple ha
 obtain⟨its2,r2,p2,_⟩:=I.tuple hb
 refine HT.cat_tup p1 p2 (λz=>hx (r1.nil_iff.mp z)) (λz=>⟨.ref a,H,I,rfl,q1 (r2.nil_iff.mp z)⟩) (λz=>?_) (by rw[<-r1.length,<-r2.length];exact hz)
 refine⟨.ref s.heap.objs.size,_,I.laid (t':=s.toks) (o:=.tup (xs++ys)) (λb ob q=>AB _ q) (AQ _) ?_,rfl,q2 (λw=>z (r2.nil_iff.mpr w)) _ (I.hok.fresh (AQ _))⟩
 exact⟨by rw[AJ];exact hz,_,r1.append r2,IsTup.new _ _⟩
end
def cB (n:Nat)(i:Int):Option Nat:=if 0<=i then(if i<n then some i.toNat else none) else if -(n:Int)<=i then some (i+n).toNat else none
def Nw {α:Type}(xs:List α)(i:Int):Option α:=(cB xs.length i).bind λj=>xs[j]?
def Zgo {n:Nat}{i:Int}{j:Nat}(h:cB n i=some j):seqIndex? i n=some j/\j<n/\-(n:Int)<=i/\i<n:=by
 unfold cB at h
 by_cases h0:0<=i
 .rw[AD h0] at h
  by_cases h1:i<n
  .rw[AD h1] at h
   have e:i.toNat=j:=BJ h
   exact⟨by rw[seqIndex_of h0 h1,e],by omega,by omega,h1⟩
  .rw[AF h1] at h;cases h
 .rw[AF h0] at h
  by_cases h1:-(n:Int)<=i
  .rw[AD h1] at h
   have e:(i+n).toNat=j:=BJ h
   exact⟨by rw[seqIndex_neg (by omega) h1,e],by omega,h1,by omega⟩
  .rw[AF h1] at h;cases h
def Ad {α:Type}{xs:List α}{i:Int}{v:α}(h:Nw xs i=some v):∃j,seqIndex? i xs.length=some j/\xs[j]?=some v/\j<xs.length/\-(xs.length:Int)<=i/\i<xs.length:=by
 unfold Nw at h
 cases e:cB xs.length i with
 |none=>rw[e] at h;cases h
 |some j=>
  rw[e] at h
  obtain⟨h1,h2,h3,h4⟩:=Zgo e
  exact⟨j,h1,h,h2,h3,h4⟩
def Jq {α:Type}{xs:List α}{j:Nat}{v:α}(h:xs[j]?=some v):Nw xs (j:Int)=some v:=by
 have hj:j<xs.length:=(AE.mp h).1
 have e:cB xs.length (j:Int)=some j:=by
  unfold cB
  rw[AD (by omega),AD (by omega)];simp
 unfold Nw;rw[e];exact h
def Im (b:Expr):Prop:=∀o i,subscripted b false o i=operate [o,i] (getItem o i)
def IxR (X:Cx)(r:R2):Prop:=
 ∀(value slice:Expr) (pins:List (Addr×Obj)) (s:Shared) (σ:St) (H:Hp) (x y:V) (v u:Value) (Q:VK),Inv X pins σ H s->RelV x v->RelV y u->r x y H Q ->
  subscripted slice false v u=operate [v,u] (getItem v u)->wpAny (model X.prog X.w) X.A (subscriptTail value slice v u) (EP X pins σ Q) X.xe s
def n6 (X:Cx)(id:String)(r:V->List V->Hp->VK->Prop):Prop:=
 ∀(pins:List (Addr×Obj)) (s:Shared) (σ:St) (H:Hp) (x:V) (xs:List V) (v:Value) (us:List Value) (Q:VK),Inv X pins σ H s->RelV x v->Vals xs us->r x xs H Q ->
  wpAny (model X.prog X.w) X.A (call (.builtin id) (v::us)) (EP X pins σ Q) X.xe s
section
variable {X:Cx}{a b:Expr}{ta tb:TE}{pos:Pos}
def IxR.or {r r':R2}(h:IxR X r)(h':IxR X r'):IxR X (λx y H Q=>r x y H Q\/r' x y H Q):=by
 intro value slice pins s σ H x y v u Q I rx ry q hs
 rcases q with q|q
 .exact h value slice pins s σ H x y v u Q I rx ry q hs
 .exact h' value slice pins s σ H x y v u Q I rx ry q hs
def xS {r:R2}(hr:IxR X r)(ha:PE X a ta)(hb:PE X b tb)(hs:Im b):PE X (.Subscript a b pos) (cw r ta tb):=by
 intro pins s σ H Q I h
 exact Subscript_ (lL ha hb I h λv u s2 x y H2 I2 rx ry q=>hr a b pins s2 σ H2 x y v u Q I2 rx ry q (hs _ _))
def oS (K:PySem.W.Frag):R2:=λx y H Q=>∃p xs i v,x=.ref p/\y=.int i/\SqL K H p xs/\Nw xs i=some v/\Q v H
def oR (K:PySem.W.Frag):R2:=λx y H Q=>∃p xs i v,x=.ref p/\y=.int i/\SqT K H p xs/\Nw xs i=some v/\Q v H
def oQ:R2:=λx y H Q=>∃z i c,x=.str z/\y=.int i/\z.length<=sizeLine/\Nw z.cps.toList i=some c/\Q (.str ⟨#[c]⟩) H
def ix_list:IxR X (oS X.K):=by
 intro value slice pins s σ H x y v u Q I rx ry h hs
 obtain⟨p,xs,i,z,rfl,rfl,hq,he,q⟩:=h
 cases rx
 obtain⟨t,rfl⟩:=ry
 obtain⟨its,r,pl,hz⟩:=I.list hq
 obtain⟨j,h1,h2,h3,h4,h5⟩:=Ad he
 obtain⟨w,ew,QW⟩:=r.get h2
 have hl:=r.length
 have hn:=Ti
 have fin:EP X pins σ Q w s:=⟨z,H,I,QW,q⟩
 by_cases h0:0<=i
 .have hj:i.toNat=j:=by
   rw[seqIndex_of h0 h5] at h1
   exact BJ h1
  exact item_listR pl.isList h0 (by omega) (by rw[hj];simpa using ew) fin hs
 .have hj:(i+(its.toArray.size:Int)).toNat=j:=by
   rw[seqIndex_neg (by omega) h4] at h1
   rw[AL,<-hl]
   exact BJ h1
  exact subscriptTail_builtinR (x:=w) pl.isList.typeIs slot_list_getitem.lookup
   (wpAny_getItem_list_neg (Q:=λr s'=>r=w/\EP X pins σ Q r s') pl.isList (by omega) (by rw[AL]<;>omega) (by omega) (by rw[hj];simpa using ew) ⟨rfl,fin⟩) hs
def ix_tup:IxR X (oR X.K):=by
 intro value slice pins s σ H x y v u Q I rx ry h hs
 obtain⟨p,xs,i,z,rfl,rfl,hq,he,q⟩:=h
 cases rx
 obtain⟨t,rfl⟩:=ry
 obtain⟨its,r,pl,hz⟩:=I.tuple hq
 obtain⟨j,h1,h2,h3,h4,h5⟩:=Ad he
 obtain⟨w,ew,QW⟩:=r.get h2
 have hl:=r.length
 have hn:=Ti
 have fin:EP X pins σ Q w s:=⟨z,H,I,QW,q⟩
 exact subscriptTail_builtinR (x:=w) pl.typeIs slot_tuple_getitem.lookup
  (getItem_tuple (j:=j) (Q:=λr s'=>r=w/\EP X pins σ Q r s') pl (by omega) (by omega) (by rw[AL,<-hl];exact h1) (by simpa using ew) ⟨rfl,fin⟩) hs
def yw:IxR X oQ:=by
 intro value slice pins s σ H x y v u Q I rx ry h hs
 obtain⟨z,i,c,rfl,rfl,hz,he,q⟩:=h
 obtain⟨t,rfl⟩:=rx
 obtain⟨t',rfl⟩:=ry
 obtain⟨j,h1,h2,h3,h4,h5⟩:=Ad he
 have hl:z.cps.toList.length=z.length:=by simp[Str.length]
 rw[hl] at h1 h4 h5
 have hn:=Ti
 exact tail_any (typeIs_str s z t) slot_str_getitem.lookup (getItem_str (c:=c) (by
  have e1:decide (i < -(2 ^ 63:Int))=false:=BI (by omega)
  have e2:decide (i ≥ 2 ^ 63)=false:=BI (by omega)
  rw[e1,e2,IQ]) (by rw[h1];simpa using h2) ⟨.str ⟨#[c]⟩,H,I.tok _,⟨_,rfl⟩,q⟩) hs
def wJ (K:PySem.W.Frag):R2:=λx y H Q=>oS K x y H Q\/oR K x y H Q\/oQ x y H Q
def yv:IxR X (wJ X.K):=ix_list.or (ix_tup.or yw)
def Ae (lo hi:Option Int)(n:Nat):(sliceBounds lo hi none n).1=((HT.sIx n 0 lo:Nat):Int)/\(sliceBounds lo hi none n).2.1=((HT.sIx n n hi:Nat):Int)/\(sliceBounds lo hi none n).2.2=1:=by
 refine⟨?_,?_,rfl⟩
 .cases lo with
  |none=>simp[sliceBounds,HT.sIx]
  |some i=>
   simp only[sliceBounds,HT.sIx,LK,show(1:Int) > 0 by decide,DW]
   by_cases h:i<0
   .simp only[h,DW]<;>omega
   .simp only[h,DM]<;>omega
 .cases hi with
  |none=>simp[sliceBounds,HT.sIx]
  |some i=>
   simp only[sliceBounds,HT.sIx,LK,show(1:Int) > 0 by decide,DW]
   by_cases h:i<0
   .simp only[h,DW]<;>omega
   .simp only[h,DM]<;>omega
def Md (its:List Value)(lo hi:Option Int):slicePick its.toArray lo hi none=((its.drop (HT.sIx its.length 0 lo)).take (HT.sIx its.length its.length hi-HT.sIx its.length 0 lo)).toArray:=by
 obtain⟨h1,h2,h3⟩:=Ae lo hi its.toArray.size
 unfold slicePick
 rw[h1,h2,h3]
 simp only[sliceRange_one,pick_run,AL]<;>rfl
def wN (K:PySem.W.Frag):V->Option Int->Option Int->Hp->VK->Prop:=λx lo hi H Q=>∃a xs,x=.ref a/\SqL K H a xs/\∀p,H p=none->Q (.ref p) (upd H p (.lst (C7 xs lo hi)))
def sl_list:SlR X (wN X.K):=by
 intro pins s σ H x v vl vu lo hi sl Q I rx hs pl pu h
 obtain⟨a,xs,rfl,hx,q⟩:=h
 cases rx
 obtain⟨its,r,ht,hz⟩:=I.list hx
 have hlen:=r.length
 refine⟨"list", _,slot_list_getitem.lookup,ht.isList.typeIs,?_⟩
 refine wpAny_getItem_list_slice ht.isList hs pl pu .none (by simp) ?_ (by rw[AL]<;>omega)
 rw[Md,<-hlen]
 refine⟨.ref s.heap.objs.size,_,I.laid (t':=s.toks) (o:=.lst (C7 xs lo hi)) (λb ob q=>AB _ q) (AQ _) ?_,rfl,q _ (I.hok.fresh (AQ _))⟩
 exact⟨BA (R8 xs lo hi) hz,_,0,(r.drop (HT.sIx xs.length 0 lo)).take (HT.sIx xs.length xs.length hi-HT.sIx xs.length 0 lo),AO _ rfl⟩
def lr:V->Bool
 |.non=>true
 |.bl _=>true
 |.int _=>true
 |.str _=>true
 |_=>false
def call_len_seq:CallR X (.builtin "len") (λxs H Q=>∃p ys,xs=[.ref p]/\(SqL X.K H p ys\/SqT X.K H p ys)/\Q (.int ys.length) H):=by
 intro pins s σ H xs us Q I r h
 obtain⟨p,ys,rfl,hq,q⟩:=h
 obtain⟨u,rfl,rx⟩:=Wp r
 cases rx
 have hn:=Ti
 rcases hq with hq|hq
 .obtain⟨its,r',pl,hz⟩:=I.list hq
  have hlen:=r'.length
  exact Calls.call_len_list pl.isList (by simp only[AL]<;>omega) ⟨.int ys.length,H,I.tok _,⟨s.toks+1,by rw[AL,hlen]⟩,q⟩
 .obtain⟨its,r',pl,hz⟩:=I.tuple hq
  have hlen:=r'.length
  exact len_tuple pl (by simp only[AL]<;>omega) ⟨.int ys.length,H,I.tok _,⟨s.toks+1,by rw[AL,hlen]⟩,q⟩
def Af:CallR X (.builtin "len") (λxs H Q=>∃z,xs=[.str z]/\z.length<=sizeLine/\Q (.int z.length) H):=by
 intro pins s σ H xs us Q I r h
 obtain⟨z,rfl,hz,q⟩:=h
 obtain⟨u,rfl,t,rfl⟩:=Wp r
 have hn:=Ti
 exact len_str (by omega) ⟨.int z.length,H,I.tok _,⟨_,rfl⟩,q⟩
def CallR.or {f:Value}{r r':List V->Hp->VK->Prop}(h:CallR X f r)(h':CallR X f r'):CallR X f (λxs H Q=>r xs H Q\/r' xs H Q):=by
 intro pins s σ H xs us Q I rs q
 rcases q with q|q
 .exact h pins s σ H xs us Q I rs q
 .exact h' pins s σ H xs us Q I rs q
def Me:CallR X (.type "tuple") (λxs H Q=>∃p ys,xs=[.ref p]/\((SqL X.K H p ys/\∀l,H l=none->Q (.ref l) (upd H l (.tup ys)))\/(SqT X.K H p ys/\Q (.ref p) H))):=by
 intro pins s σ H xs us Q I r h
 obtain⟨p,ys,rfl,h⟩:=h
 obtain⟨u,rfl,rx⟩:=Wp r
 cases rx
 rcases h with⟨hq,q⟩|⟨hq,q⟩
 .obtain⟨its,r',pl,hz⟩:=I.list hq
  have hlen:=r'.length
  refine call_tuple_list pl.isList (λh' kp=>?_) (by simp only[AL]<;>omega)
  have I1:Inv X pins σ H {s with heap:=h'}:=I.kept (t':=s.toks) kp
  have I2:Inv X pins σ (upd H h'.objs.size (.tup ys)) {s with heap:=h'.push {cls:=.type "tuple", data:=.seq its.toArray}}:=
   I1.laid (t':=s.toks) (λb o e=>AB _ e) (AQ _) (show ObjOk X.prog X.w _ _ _ (.tup ys) from⟨hz,its,r',IsTup.new _ _⟩)
  exact⟨.ref h'.objs.size,_,I2,rfl,q _ (I1.hok.fresh (AQ _))⟩
 .obtain⟨its,r',pl,hz⟩:=I.tuple hq
  exact call_tuple_same pl ⟨.ref p,H,I,rfl,q⟩
def kf (K:PySem.W.Frag)(T:String)(x:V)(H:Hp):Prop:=match x with
 |.str _=>T="str"
 |.int _=>T="int"
 |.ref p=>(T="list"/\∃xs,SqL K H p xs)\/(T="tuple"/\∃o,K.lookup p=some o/\o.cls=.type "tuple"/\o.dict=none) \/
   (T="dict"/\((∃kvs,H p=some (.dK kvs))\/∃kvs,H p=some (.dT kvs)))\/(T="set"/\∃S n,H p=some (.set S n))
 |_=>False
def rK {pins:List (Addr×Obj)}{σ:St}{H:Hp}{s:Shared}{T:String}{x:V}{v:Value}(I:Inv X pins σ H s)(r:RelV x v)(ty:kf X.K T x H):
  s.TypeIs v T/\∀a,v=.ref a->∃ob,s.heap.get? a=some ob/\ob.dict=none:=by
 cases x with
 |str z=>
  obtain⟨t,rfl⟩:=r
  cases (show T="str" from ty)
  exact⟨typeIs_str s z t,λ_ e=>nomatch e⟩
 |int i=>
  obtain⟨t,rfl⟩:=r
  cases (show T="int" from ty)
  exact⟨typeIs_int s i t,λ_ e=>nomatch e⟩
 |ref p=>
  cases r
  rcases ty with⟨rfl,xs,hq⟩|⟨rfl,o,hk,hc,hd⟩|⟨rfl,hk⟩|⟨rfl,S,n,hk⟩
  .obtain⟨its,_,pl,_⟩:=I.list hq
   refine⟨pl.isList.typeIs,λa e=>?_⟩
   cases e
   obtain⟨o,n,e,c,hd,_⟩:=pl
   exact⟨o,e,hd⟩
  .refine⟨⟨o,I.kIn p o hk,hc⟩,λa e=>?_⟩
   cases e
   exact⟨o,I.kIn _ o hk,hd⟩
  .have z:∃o,s.heap.get? p=some o/\o.ExactDict:=by
    rcases hk with⟨kvs,hk⟩|⟨kvs,hk⟩
    .obtain⟨_,_,_,_,o,_,_,e,ex,_⟩:=I.hok p _ hk
     exact⟨o,e,ex⟩
    .obtain⟨_,_,_,_,o,_,_,e,ex,_⟩:=I.hok p _ hk
     exact⟨o,e,ex⟩
   obtain⟨o,e,ex⟩:=z
   refine⟨⟨o,e,ex.1⟩,λa e2=>?_⟩
   cases e2
   exact⟨o,e,ex.2.1⟩
  .obtain⟨o,_,_,_,e,ex,_⟩:=I.hok p _ hk
   refine⟨⟨o,e,ex.1⟩,λa e2=>?_⟩
   cases e2
   exact⟨o,e,ex.2.1⟩
 |_=>exact False.elim ty
def wM (K:PySem.W.Frag)(T:String)(r:V->List V->Hp->VK->Prop)(to:TE):TE:=λσ H Q=>to σ H λx H1=>kf K T x H1/\r x [] H1 Q
def wI (K:PySem.W.Frag)(T:String)(r:V->List V->Hp->VK->Prop)(to:TE)(t:TA):TE:=λσ H Q=>to σ H λx H1=>kf K T x H1/\t σ H1 λxs H2=>r x xs H2 Q
variable {o e:Expr}{es:List Expr}{to:TE}{t:TA}{name:Str}{apos cpos:Pos}{T id:String}{r:V->List V->Hp->VK->Prop}
def yu (pa:PlainAttrs T)(slot:Slot T name id) (jY:typeOf (.builtin id)=pure (.type "method_descriptor")) (hm:n6 X id r) (ho:PE X o to)
  (QL:attributeBase o name X.env (eval o X.env)=eval o X.env:=by rfl) (hline:(apos.endLine==cpos.line)=true:=by rfl):PE X (.Call (.Attribute o name apos) [] [] cpos) (wM X.K T r to):=by
 intro pins s σ H Q I h
 refine wpAny_Call_method0_late QL hline (Y8 (ho pins s σ H _ I h) λv s1 ⟨x,H1,I1,r1,ty,q1⟩=>?_)
 obtain⟨h1,h2⟩:=rK I1 r1 ty
 exact⟨T,id,pa,slot,jY,h1,h2,FM rfl (PySem.evalArgs_none (hm pins s1 σ H1 x [] v [] Q I1 r1 .nil q1))⟩
def pf (pa:PlainAttrs T)(slot:Slot T name id) (jY:typeOf (.builtin id)=pure (.type "method_descriptor")) (hm:n6 X id r) (ho:PE X o to) (ha:PA X (e::es) t)
  (QL:attributeBase o name X.env (eval o X.env)=eval o X.env:=by rfl)
  (hfew:((backTo cpos (starEach (e::es) X.env)).all (λx=>!x.1)&&(backToKw cpos (keywordEach [] X.env)).all (λx=>x.1.isSome)
   && decide ((e::es).length+([]:List Keyword).length+(if([]:List Keyword).isEmpty then 0 else 1)<30))=true:=by rfl)
  (hline:(apos.endLine==cpos.line)=true:=by rfl) (hs:starEach (e::es) X.env=(false,eval e X.env)::starEach es X.env:=by rfl) (UT:(backTo cpos (starEach es X.env)).any (·.1)=false:=by rfl):
  PE X (.Call (.Attribute o name apos) (e::es) [] cpos) (wI X.K T r to t):=by
 intro pins s σ H Q I h
 refine wpAny_Call_method_late QL hfew hline rfl (Y8 (ho pins s σ H _ I h) λv s1 ⟨x,H1,I1,r1,ty,q1⟩=>?_)
 obtain⟨h1,h2⟩:=rK I1 r1 ty
 refine⟨T,id,pa,slot,jY,h1,h2,?_⟩
 have hA:=ha cpos pins s1 σ H1 _ I1 q1
 rw[hs] at hA ⊢
 refine FM (by show(false||(backTo cpos (starEach es X.env)).any (·.1))=false;rw[UT]<;>rfl) (HM ?_)
 exact Y8 hA λus s2 ⟨vs,H2,I2,r2,q2⟩=>hm pins s2 σ H2 x vs v us Q I2 r1 r2 q2
end
def ny (X:Cx)(id:String)(r:V->List V->Hp->VK->Prop):Prop:=
 ∀(pins:List (Addr×Obj)) (s:Shared) (σ:St) (H:Hp) (x:V) (xs:List V) (v:Value) (us:List Value) (Q:VK),Inv X pins σ H s->RelV x v->Vals xs us->r x xs H Q ->
  wpAny (model X.prog X.w) X.A (call (.builtin id) (v::us)) (EP X pins σ Q) X.xe s
def Vals.one:∀{x:V}{us:List Value},Vals [x] us->∃u,us=[u]/\RelV x u
 |_,_,.cons r .nil=>⟨_,rfl,r⟩
def Vals.zero:∀{us:List Value},Vals [] us->us=[]
 |_,.nil=>rfl
theorem Vals.dropLast {xs:List V}{us:List Value}(h:Vals xs us):Vals xs.dropLast us.dropLast:=by
 induction h with
 |nil=>exact .nil
 |cons r t ih=>
  cases t with
  |nil=>exact .nil
  |cons q t'=>exact .cons r ih
def Ft {α:Type}(l:List α):l.eraseIdx (l.length-1)=l.dropLast:=by
 induction l with
 |nil=>rfl
 |cons a r ih=>
  cases r with
  |nil=>rfl
  |cons b r=>
   have e:(a::b::r).length-1=((b::r).length-1)+1:=by
    have h1:(a::b::r).length=r.length+2:=rfl
    have h2:(b::r).length=r.length+1:=rfl
    omega
   rw[e,List.eraseIdx_cons_succ,ih]
   all_goals rfl
section
variable {X:Cx}{pins:List (Addr×Obj)}{σ:St}{H:Hp}{s:Shared}{l b:Addr}{xs ys zs:List V}
def Inv.lset {its its':List Value}{n:Nat}{f:Array Value->Array Value}{t':Nat}(I:Inv X pins σ H s)(hH:H l=some (.lst xs))
  (e:s.heap.get? l=some {cls:=.type "list", data:=.seq its.toArray n}) (hf:f its.toArray=its'.toArray) (hv:Vals ys its') (hz:ys.length<=sizeLine):
  Inv X pins σ (upd H l (.lst ys)) {s with heap:=s.heap.update l (Obj.mapSeq f),toks:=t'}:=by
 have q:=PySem.IsL.update e f
 rw[hf] at q
 refine I.write (x:=l) (e:=l) (by rw[hH];exact trivial) (.inl rfl) (λb' u hb hu=>(GY s.heap (Obj.mapSeq f) (EL hb)).trans hu) ⟨_,q⟩ ?_
 exact⟨hz,its',_,hv,q⟩
def Inv.lnew {its:List Value}{t':Nat}(I:Inv X pins σ H s)(hv:Vals ys its)(hz:ys.length<=sizeLine):
  Inv X pins σ (upd H s.heap.objs.size (.lst ys)) {s with heap:=s.heap.push {cls:=.type "list", data:=.seq its.toArray},toks:=t'}:=
 I.laid (λ_ _ q=>AB _ q) (AQ _) ⟨hz,its,0,hv,AO _ rfl⟩
theorem Inv.fresh (I:Inv X pins σ H s):H s.heap.objs.size=none:=I.hok.fresh (AQ _)
def Inv.lstM (I:Inv X pins σ H s)(hH:H l=some (.lst xs)):xs.length<=sizeLine/\∃(its:List Value) (n:Nat),Vals xs its/\xs.length=its.length/\s.heap.get? l=some {cls:=.type "list", data:=.seq its.toArray n}:=by
 obtain⟨z,its,n,r,e⟩:=I.hok l _ hH
 exact⟨z,its,n,r,r.length,e⟩
end
section
variable {X:Cx}
def Zgp:V->List V->Hp->VK->Prop:=λx vs H Q=>∃l xs y,x=.ref l/\vs=[y]/\H l=some (.lst xs)/\xs.length<sizeLine/\Q .non (upd H l (.lst (xs++[y])))
def Gh:ny X "list.append" Zgp:=by
 intro pins s σ H x vs v us Q I rx rv h
 obtain⟨l,xs,y,rfl,rfl,hH,hz,q⟩:=h
 cases rx
 obtain⟨u,rfl,ru⟩:=rv.one
 obtain⟨z,its,n,r,hl,e⟩:=I.lstM hH
 refine call_meets F.slot_list_append ⟨_,e,rfl⟩ F.entry_list_append (F.args_list_append_2 _ _) (PySem.list_append l its.toArray n u (by rw[AL];omega)) ⟨e,?_⟩
 refine⟨.non,_,I.lset (its':=its++[u]) hH e (by simp) (r.append (.cons ru .nil)) ?_,rfl,q⟩
 rw[AJ,AZ]
 omega
def wL:V->List V->Hp->VK->Prop:=λx vs H Q=>∃l xs y,x=.ref l/\vs=[]/\H l=some (.lst xs)/\xs[xs.length-1]?=some y/\Q y (upd H l (.lst xs.dropLast))
def yt:ny X "list.pop" wL:=by
 intro pins s σ H x vs v us Q I rx rv h
 obtain⟨l,xs,y,rfl,rfl,hH,hy,q⟩:=h
 cases rx
 have uC:=rv.zero
 subst uC
 obtain⟨z,its,n,r,hl,e⟩:=I.lstM hH
 obtain⟨u,hu,ru⟩:=r.get hy
 have da:its.toArray[its.toArray.size-1]?=some u:=by
  show its.toArray[its.length-1]?=some u
  rw[<-JO,<-hl]
  exact hu
 refine call_meets F.slot_list_pop ⟨_,e,rfl⟩ F.entry_list_pop (F.args_list_pop_1 _) (MeetsSeq.list_pop_last l its.toArray n u da (by rw[AL];omega)) ⟨e,?_⟩
 refine⟨y,_,I.lset (its':=its.dropLast) hH e ?_ r.dropLast ?_,ru,q⟩
 .show its.toArray.eraseIdxIfInBounds (its.toArray.size-1)=its.dropLast.toArray
  rw[AL,List.eraseIdxIfInBounds_toArray,Ft]
 .rw[JT]
  omega
end
section
variable {κ:Type} [DecidableEq κ]
def X8 (kvs:List (κ×V))(k:κ):Option V:=(kvs.find? λkv=>decide (kv.1=k)).map (·.2)
def Kn (kvs:List (κ×V))(k:κ)(v:V):List (κ×V):=
 if(kvs.any λkv=>decide (kv.1=k))=true then kvs.map (λkv=>if kv.1=k then(kv.1,v) else kv) else kvs++[(k,v)]
def Xp {p:κ×V}{r:List (κ×V)}{k:κ}(e:p.1=k):X8 (p::r) k=some p.2:=by simp[X8,CC,e]
def Xi {p:κ×V}{r:List (κ×V)}{k:κ}(e:¬p.1=k):X8 (p::r) k=X8 r k:=by simp[X8,CC,e]
theorem N3 (k:κ):∀kvs:List (κ×V),(kvs.any λkv=>decide (kv.1=k))=(X8 kvs k).isSome
 |[]=>rfl
 |p::r=>by
  rw[DF]
  by_cases e:p.1=k
  .simp only[Xp e,BD e,Bool.true_or,KF]
  .rw[Xi e,BI e,Bool.false_or];exact N3 k r
theorem C8 (k j:κ)(y:V):∀kvs:List (κ×V),X8 (kvs.map λkv=>if kv.1=k then(kv.1,y) else kv) j=(X8 kvs j).map λx=>if j=k then y else x
 |[]=>rfl
 |p::r=>by
  have ih:=C8 k j y r
  rw[AM]
  by_cases h:p.1=k
  .rw[AD h]
   by_cases e:p.1=j
   .rw[Xp (p:=(p.1,y)) e,Xp e,GK,AD (e.symm.trans h)]
   .rw[Xi (p:=(p.1,y)) e,Xi e,ih]
  .rw[AF h]
   by_cases e:p.1=j
   .rw[Xp (p:=p) e,Xp e,GK,AF (λz=>h (e.trans z))]
   .rw[Xi (p:=p) e,Xi e,ih]
theorem M3 (k j:κ)(y:V):∀kvs:List (κ×V),X8 kvs k=none->X8 (kvs++[(k,y)]) j=if j=k then some y else X8 kvs j
 |[],_=>by
  by_cases e:k=j
  .rw[AD e.symm];exact Xp (p:=(k,y)) e
  .rw[AF (λz=>e z.symm)];exact Xi (p:=(k,y)) e
 |p::r,hn=>by
  rw[GF]
  have hk:¬p.1=k:=λz=>by rw[Xp z] at hn;cases hn
  rw[Xi hk] at hn
  have ih:=M3 k j y r hn
  by_cases e:p.1=j
  .rw[Xp e,Xp e,AF (λz=>hk (e.trans z))]
  .rw[Xi e,Xi e,ih]
def Zc7 (kvs:List (κ×V))(k j:κ)(y:V):X8 (Kn kvs k y) j=if j=k then some y else X8 kvs j:=by
 unfold Kn
 by_cases a:(kvs.any λkv=>decide (kv.1=k))=true
 .rw[AD a,C8]
  rw[N3] at a
  by_cases e:j=k
  .obtain⟨x,hx⟩:=FW.mp a
   rw[AD e,e,hx,GK,AD rfl]
  .rw[AF e]
   cases X8 kvs j with
   |none=>rfl
   |some x=>rw[GK,AF e]
 .rw[AF a]
  refine M3 k j y kvs ?_
  rw[N3] at a
  cases q:X8 kvs k with
  |none=>rfl
  |some x=>rw[q] at a;exact(a rfl).elim
def V6 (kvs:List (κ×V))(k:κ)(v:V):(Kn kvs k v).length<=kvs.length+1:=by
 unfold Kn
 split
 .rw[AC];omega
 .rw[AJ,AH,FP];omega
def RelO.isSome_eq {o:Option V}{u:Option Value}(r:RelO o u):o.isSome=u.isSome:=by
 cases o with
 |none=>cases u with
  |none=>rfl
  |some _=>exact(show False from r).elim
 |some _=>cases u with
  |none=>exact(show False from r).elim
  |some _=>rfl
theorem RelO.getD {o:Option V}{u:Option Value}{d:V}{d':Value}(r:RelO o u)(rd:RelV d d'):RelV (o.getD d) (u.getD d'):=by
 cases o with
 |none=>cases u with
  |none=>exact rd
  |some _=>exact(show False from r).elim
 |some _=>cases u with
  |none=>exact(show False from r).elim
  |some _=>exact r
def KV.val {kvs:List (κ×V)}{vs:List (κ×Value)}(r:KV kvs vs)(k:κ):RelO (X8 kvs k) (valueAt vs k):=by
 unfold KV at r
 induction r with
 |nil=>exact True.intro
 | @cons p q ps qs h t ih=>
  obtain⟨h1,h2⟩:=h
  by_cases e:p.1=k
  .have e':q.1=k:=h1.symm.trans e
   have b:valueAt (q::qs) k=some q.2:=by simp[valueAt,CC,e']
   rw[Xp e,b];exact h2
  .have e':¬q.1=k:=λz=>e (h1.trans z)
   have b:valueAt (q::qs) k=valueAt qs k:=by simp[valueAt,CC,e']
   rw[Xi e,b];exact ih
theorem KV.any {kvs:List (κ×V)}{vs:List (κ×Value)}(r:KV kvs vs)(k:κ):(kvs.any λkv=>decide (kv.1=k))=vs.any λkv=>decide (kv.1=k):=by
 unfold KV at r
 induction r with
 |nil=>rfl
 |cons h t ih=>rw[DF,DF,ih,h.1]
def KV.repl {kvs:List (κ×V)}{vs:List (κ×Value)}(r:KV kvs vs)(k:κ){y:V}{u:Value}(ry:RelV y u):
  KV (kvs.map λkv=>if kv.1=k then(kv.1,y) else kv) (vs.map λkv=>if kv.1=k then(kv.1,u) else kv):=by
 unfold KV at r ⊢
 induction r with
 |nil=>exact .nil
 | @cons p q ps qs h t ih=>
  rw[AM,AM]
  refine .cons ?_ ih
  obtain⟨h1,h2⟩:=h
  by_cases e:p.1=k
  .rw[AD e,AD (h1.symm.trans e)];exact⟨h1,ry⟩
  .rw[AF e,AF (λz=>e (h1.trans z))];exact⟨h1,h2⟩
def KV.put {kvs:List (κ×V)}{vs:List (κ×Value)}(r:KV kvs vs)(k:κ){y:V}{u:Value}(ry:RelV y u):KV (Kn kvs k y) (stored vs k u):=by
 unfold Kn stored
 rw[r.any k]
 by_cases e:(vs.any λkv=>decide (kv.1=k))=true
 .rw[AD e,AD e];exact r.repl k ry
 .rw[AF e,AF e];exact ME r ⟨rfl,ry⟩
theorem KV.length {kvs:List (κ×V)}{vs:List (κ×Value)}(r:KV kvs vs):kvs.length=vs.length:=DV r
end
def C9 {P:Program}{w:World}{k:Yx}{u:Value}(r:RelV (kV k) u):(Xl P w).is k u=true:=by
 cases k with
 |inl i=>obtain⟨t,e⟩:=(show ∃t,u=Value.int i t from r);subst e;exact Cy P w i t
 |inr x=>obtain⟨t,e⟩:=(show ∃t,u=Value.str x t from r);subst e;exact Cz P w x t
theorem M4 {P:Program}{w:World}:∀{ks:List Yx}{us:List Value},Vals (ks.map kV) us->ItemsAre (Xl P w) ks us
 |[],_,r=>by rw[FB] at r;cases r;exact .nil
 |k::ks,_,r=>by
  rw[AM] at r
  cases r with
  |cons h t=>exact .cons (C9 h) (M4 t)
abbrev KT (H:Hp):List (List Yx×V)->List (List Yx×Addr×Value)->Prop:=Paired λp q=>p.1=q.1/\H q.2.1=some (.tup (p.1.map kV))/\RelV p.2 q.2.2
def KT.val {H:Hp}{kvs:List (List Yx×V)}{xs:List (List Yx×Addr×Value)}(r:KT H kvs xs)(k:List Yx):RelO (X8 kvs k) ((atKey xs k).map (·.2)):=by
 induction r with
 |nil=>exact True.intro
 | @cons p q ps qs h t ih=>
  obtain⟨h1,_,h2⟩:=h
  by_cases e:p.1=k
  .have e':q.1=k:=h1.symm.trans e
   have b:atKey (q::qs) k=some q.2:=by simp[atKey,CC,e']
   rw[Xp e,b];exact h2
  .have e':¬q.1=k:=λz=>e (h1.trans z)
   have b:atKey (q::qs) k=atKey qs k:=by simp[atKey,CC,e']
   rw[Xi e,b];exact ih
def KT.repl {H:Hp}{kvs:List (List Yx×V)}{xs:List (List Yx×Addr×Value)}(r:KT H kvs xs)(k:List Yx){y:V}{u:Value}(ry:RelV y u):
  KT H (kvs.map λkv=>if kv.1=k then(kv.1,y) else kv) (xs.map (putAt k u)):=by
 induction r with
 |nil=>exact .nil
 | @cons p q ps qs h t ih=>
  rw[AM,AM]
  refine .cons ?_ ih
  obtain⟨h1,h2,h3⟩:=h
  unfold putAt
  by_cases e:p.1=k
  .rw[AD e,AD (h1.symm.trans e)];exact⟨h1,h2,ry⟩
  .rw[AF e,AF (λz=>e (h1.trans z))];exact⟨h1,h2,h3⟩
def KT.put {H:Hp}{kvs:List (List Yx×V)}{xs:List (List Yx×Addr×Value)}(r:KT H kvs xs)(k:List Yx){b:Addr}{y:V}{u:Value}(hb:H b=some (.tup (k.map kV)))(ry:RelV y u):
  KT H (Kn kvs k y) (storedH xs k b u):=by
 have e:(kvs.any λkv=>decide (kv.1=k))=(atKey xs k).isSome:=by
  rw[N3,(r.val k).isSome_eq,KS]
 unfold Kn storedH
 rw[e]
 by_cases q:(atKey xs k).isSome=true
 .rw[AD q,AD q];exact r.repl k ry
 .rw[AF q,AF q];exact ME r ⟨rfl,hb,ry⟩
def KT.keeps {H H':Hp}{kvs:List (List Yx×V)}{xs:List (List Yx×Addr×Value)}(r:KT H kvs xs)(ht:∀b ys,H b=some (.tup ys)->H' b=some (.tup ys)):KT H' kvs xs:=
 Paired.mapP r λ_ _ z=>⟨z.1,ht _ _ z.2.1,z.2.2⟩
section
variable {P:Program}{w:World}{H:Hp}{h:Heap}{a:Addr}
def pZ {u:HO}(ok:HOk P w H h)(e:Rd H a u):ObjOk P w H h a u:=e.ok ok
def M5 {kvs:List (Yx×V)}(ok:HOk P w H h)(e:Rd H a (.dK kvs)):kvs.length<=sizeLine/\(a==sysModules)=false/\∃vs,KV kvs vs/\h.DictOf (Xl P w) a vs:=
 show ObjOk P w H h a (.dK kvs) from pZ ok e
def xR {kvs:List (Yx×V)}(ok:HOk P w H h)(e:H a=some (.dK kvs)):kvs.length<=sizeLine/\(a==sysModules)=false/\∃vs,KV kvs vs/\h.DictOf (Xl P w) a vs:=M5 ok (.inl e)
def Ra {ks:List Yx}(ok:HOk P w H h)(e:H a=some (.tup (ks.map kV))):(tupleKind (Xl P w)).is h ks a:=by
 obtain⟨_,its,r,o,h1,h2,n,h3⟩:=(show ObjOk P w H h a (.tup (ks.map kV)) from ok a _ e)
 exact⟨o,its.toArray,n,h1,h2,h3,by simpa using M4 r⟩
def M6 {kvs:List (List Yx×V)}(ok:HOk P w H h)(e:Rd H a (.dT kvs)):kvs.length<=sizeLine/\(a==sysModules)=false /\
  ∃xs,KT H kvs xs/\h.DictOfH (tupleKind (Xl P w)) a xs:=by
 obtain⟨z,y,xs,r,o,es,ep,h1,h2,h3,h4,h5⟩:=(show ObjOk P w H h a (.dT kvs) from pZ ok e)
 refine⟨z,y,xs,r,o,es,ep,h1,h2,h3,h4,λx hx=>?_,h5⟩
 have all:∀{l:List (List Yx×V)}{m:List (List Yx×Addr×Value)},KT H l m->∀x∈m,(tupleKind (Xl P w)).is h x.1 x.2.1:=by
  intro l m q
  induction q with
  |nil=>intro x hx;exact nomatch hx
  | @cons p q ps qs hq t ih=>
   intro x hx
   rcases AW.mp hx with e|hx
   .subst e
    exact Ra ok (by rw[<-hq.1];exact hq.2.1)
   .exact ih x hx
 exact all r x hx
def pY {kvs:List (List Yx×V)}(ok:HOk P w H h)(e:H a=some (.dT kvs)):kvs.length<=sizeLine/\(a==sysModules)=false /\
  ∃xs,KT H kvs xs/\h.DictOfH (tupleKind (Xl P w)) a xs:=M6 ok (.inl e)
end
def DGet (H:Hp)(a:Addr)(y:V)(r:Option V):Prop:=
 (∃kvs k,Rd H a (.dK kvs)/\y=kV k/\r=X8 kvs k)\/∃kvs k b,Rd H a (.dT kvs)/\y=.ref b/\H b=some (.tup (k.map kV))/\r=X8 kvs k
def DPut (H:Hp)(a:Addr)(y v:V)(H':Hp):Prop:=
 (∃kvs k,H a=some (.dK kvs)/\y=kV k/\kvs.length<sizeLine/\H'=upd H a (.dK (Kn kvs k v))) \/
 ∃kvs k b,H a=some (.dT kvs)/\y=.ref b/\H b=some (.tup (k.map kV))/\kvs.length<sizeLine/\H'=upd H a (.dT (Kn kvs k v))
def DGet.t {H:Hp}{a b:Addr}{kvs:List (List Yx×V)}{k:List Yx}(e:H a=some (.dT kvs))(eb:H b=some (.tup (k.map kV))):DGet H a (.ref b) (X8 kvs k):=.inr ⟨kvs,k,b,.inl e,rfl,eb,rfl⟩
def DPut.t {H:Hp}{a b:Addr}{kvs:List (List Yx×V)}{k:List Yx}{v:V}(e:H a=some (.dT kvs))(eb:H b=some (.tup (k.map kV)))(hl:kvs.length<sizeLine):
  DPut H a (.ref b) v (upd H a (.dT (Kn kvs k v))):=.inr ⟨kvs,k,b,e,rfl,eb,hl,rfl⟩
section
variable {X:Cx}{pins:List (Addr×Obj)}{σ:St}{H:Hp}{s:Shared}{a:Addr}{y v:V}{u r:Value}{o:Option V}{A:Around}{E:Value->Shared->Prop}
def Inv.big (I:Inv X pins σ H s):sysModules<s.heap.objs.size:=by
 have h:mainGlobals<s.heap.objs.size:=(I.mod.glob.keeps I.bk).lt
 exact Nat.lt_trans (by decide) h
def Za0 {Q:Value->Shared->Prop}(hu:A.units+1<cLine)(I:Inv X pins σ H s)(g:DGet H a y (some v))(ry:RelV y u)(h:∀w' s',Inv X pins σ H s'->RelV v w'->Q w' s'):
  wpAny (model X.prog X.w) A (getItem (.ref a) u) Q E s:=by
 rcases g with⟨kvs,k,e,ey,l⟩|⟨kvs,k,b,e,ey,eb,l⟩
 .subst ey
  obtain⟨z,hd,vs,rel,dd⟩:=M5 I.hok e
  obtain⟨w',hw,QW⟩:=RelO.some_of (v:=v) (o:=valueAt vs k) (by rw[l];exact rel.val k)
  exact wpAny_getItem_of (C9 ry) dd.mapOf hw (h w' _ (I.tok _) QW)
 .subst ey
  cases (show u=Value.ref b from ry)
  obtain⟨z,hd,xs,rel,dd⟩:=M6 I.hok e
  obtain⟨w',hw,QW⟩:=RelO.some_of (v:=v) (o:=(atKey xs k).map (·.2)) (by rw[l];exact rel.val k)
  obtain⟨p,hp,ZP⟩:=GG.mp hw
  refine wpAny_getItem_heap (FE hu) (Ra I.hok eb) dd hp ?_
  rw[ZP]
  exact h w' _ (I.tok _) QW
def Zgq {Q:Value->Shared->Prop}(hu:A.units+1<cLine)(I:Inv X pins σ H s)(g:DGet H a y o)(ry:RelV y u)(h:∀s',Inv X pins σ H s'->Q (.bool (!o.isSome)) s'):
  wpAny (model X.prog X.w) A (compareOp .NotIn u (.ref a)) Q E s:=by
 rcases g with⟨kvs,k,e,ey,l⟩|⟨kvs,k,b,e,ey,eb,l⟩
 .subst ey
  obtain⟨z,hd,vs,rel,dd⟩:=M5 I.hok e
  refine wpAny_notIn_of (C9 ry) hd dd.mapOf ?_
  rw[<-(rel.val k).isSome_eq,<-l]
  exact h _ (I.tok _)
 .subst ey
  cases (show u=Value.ref b from ry)
  obtain⟨z,hd,xs,rel,dd⟩:=M6 I.hok e
  refine wpAny_notIn_heap (FE hu) (Ra I.hok eb) hd dd ?_
  have q:=(rel.val k).isSome_eq
  rw[KS] at q
  rw[<-q,<-l]
  exact h _ (I.tok _)
def Ag {h':Heap}{t':Nat}{ob:HO}(I:Inv X pins σ H s)(mu:fR (H a))(hs:Heap.SameBut a s.heap h')(he:∃q,h'.get? a=some q)(new:ObjOk X.prog X.w (upd H a ob) h' a ob):
  Inv X pins σ (upd H a ob) {s with heap:=h',toks:=t'}:=
 I.write (x:=a) (e:=a) mu (.inl rfl) (λb q hb z=>(hs.2 b hb).trans z) he new
def yq {P:Program}{w:World}{H':Hp}{h':Heap}{kvs:List (Yx×V)}{vs:List (Yx×Value)}(z:kvs.length<=sizeLine)(hd:(a==sysModules)=false)(rel:KV kvs vs)(dd:h'.DictOf (Xl P w) a vs):
  ObjOk P w H' h' a (.dK kvs):=⟨z,hd,vs,rel,dd⟩
def Za1 {H':Hp}{Q:Unit->Shared->Prop}(hu:A.units+1<cLine)(I:Inv X pins σ H s)(g:DPut H a y v H')(ry:RelV y u)(rv:RelV v r)(h:∀s',Inv X pins σ H' s'->Q () s'):
  wpAny (model X.prog X.w) A (setItem (.ref a) u r) Q E s:=by
 rcases g with⟨kvs,k,e,ey,l,eH⟩|⟨kvs,k,b,e,ey,eb,l,eH⟩
 .subst ey eH
  obtain⟨z,hd,vs,rel,dd⟩:=xR I.hok e
  have hz:vs.length<=sizeLine:=by rw[<-rel.length];exact z
  have hl:(Kn kvs k v).length<=sizeLine:=by have:=V6 kvs k v;omega
  refine wpAny_setItem_pairs (hsz:=hz) (C9 ry) dd λh' cY hs=>h _ ?_
  have he:∃q,h'.get? a=some q:=let ⟨q,_,_,hq,_⟩:=cY;⟨q,hq⟩
  exact Ag I (by rw[e];exact True.intro) hs he (yq hl hd (rel.put k rv) cY)
 .subst ey eH
  cases (show u=Value.ref b from ry)
  obtain⟨z,hd,xs,rel,dd⟩:=pY I.hok e
  have hz:xs.length<=sizeLine:=by rw[<-DV rel];exact z
  have hl:(Kn kvs k v).length<=sizeLine:=by have:=V6 kvs k v;omega
  refine wpAny_setItem_heap (hsz:=hz) (FE hu) (Ra I.hok eb) dd λh' cY hs=>h _ ?_
  obtain⟨q,es,ep,hq,h2,h3,h4,_,h5⟩:=cY
  refine Ag I (by rw[e];exact True.intro) hs ⟨q,hq⟩ ⟨hl,hd,_,(rel.put k eb rv).keeps λc ys ec=>?_,q,es,ep,hq,h2,h3,h4,h5⟩
  rw[Zm (pQ ec e (λz=>nomatch z))]
  exact ec
end
def oP (i:Expr):Prop:=∀ov iv,subscripted i false ov iv=operate [ov,iv] (getItem ov iv)
def Zgr {prog:Program}{w:World}{A:Around}{E:Value->Shared->Prop}{s:Shared}{env:Env}{value slice:Expr}{pos:Pos}{T id:String}{Q:Value->Shared->Prop}
  (hl:typeLookup (.type T) "__getitem__"=pure (some (.builtin id))) (hs:oP slice)
  (h:wpAny (model prog w) A (eval value env) (λo s₁=>wpAny (model prog w) A (eval slice env) (λi s₂=>s₂.TypeIs o T/\wpAny (model prog w) A (getItem o i) Q E s₂) E s₁) E s):
  wpAny (model prog w) A (eval (.Subscript value slice pos) env) Q E s:=by
 refine Subscript_ (BR h (λo s₁ h₁=>BR h₁ (λi s₂ h₂=>?_) λ_ _ x=>x) λ_ _ x=>x)
 obtain⟨hT,h₂⟩:=h₂
 unfold subscriptTail
 refine AA ?_
 rw[getitemInPython_of_ne hT.not_modules]
 refine AA (IY hT hl ?_)
 have fin:wpAny (model prog w) A (subscripted slice false o i) (λr s₃=>wpAny (model prog w) A (letTemporaryGo value o r>>=λ_=>pure r) Q E s₃) E s₂:=by
  rw[hs o i]
  exact wpAny_operating (BR h₂ (λr s₃ h₃=>AA (wpAny_letTemporaryGo (AG h₃))) λ_ _ x=>x)
 first
  |exact AG (AA fin)
  |exact AA (AG (AA fin))
  |exact AA fin
def Da {X:Cx}{pins:List (Addr×Obj)}{σ:St}{H:Hp}{s:Shared}{a:Addr}{y:V}{o:Option V}(I:Inv X pins σ H s)(g:DGet H a y o):s.TypeIs (.ref a) "dict":=by
 rcases g with⟨kvs,k,e,_,_⟩|⟨kvs,k,b,e,_,_,_⟩
 .obtain⟨_,_,vs,_,dd⟩:=M5 I.hok e
  exact dd.typeIs
 .obtain⟨_,_,xs,_,dd⟩:=M6 I.hok e
  exact dd.typeIs
def xQ (td ty:TE):TE:=λσ H Q=>td σ H λx H1=>ty σ H1 λy H2=>∃a v,x=.ref a/\DGet H2 a y (some v)/\Q v H2
def Zgs (ty td:TE):TE:=λσ H Q=>ty σ H λy H1=>td σ H1 λx H2=>∃a o,x=.ref a/\DGet H2 a y o/\Q (.bl (!o.isSome)) H2
def xP (td ty tv:TE):TS:=λD σ H=>tv σ H λv H1=>td σ H1 λx H2=>ty σ H2 λy H3=>∃a H4,x=.ref a/\DPut H3 a y v H4/\D.nx σ H4
section
variable {X:Cx}{o i e value:Expr}{pos pos' ZG:Pos}{td ty tv:TE}
def Zgt (hu:X.A.units+1<cLine)(ho:PE X o td)(hi:PE X i ty)(hs:oP i):PE X (.Subscript o i pos) (xQ td ty):=by
 intro pins s σ H Q I h
 refine Zgr PySem.F.slot_dict_getitem.lookup hs (Y8 (ho pins s σ H _ I h) λu s1 ⟨x,H1,I1,rx,q1⟩=>Y8 (hi pins s1 σ H1 _ I1 q1) λiv s2 ⟨y,H2,I2,ry,a,v,ex,g,q2⟩=>?_)
 subst ex
 obtain rfl:u=Value.ref a:=rx
 exact⟨Da I2 g,Za0 hu I2 g ry λw' s3 I3 QW=>⟨v,H2,I3,QW,q2⟩⟩
def Za2 (hu:X.A.units+1<cLine)(hi:PE X i ty)(ho:PE X o td):PC X .NotIn i o (Zgs ty td):=by
 intro pins s σ H Q I h
 refine Y8 (hi pins s σ H _ I h) λiv s1 ⟨y,H1,I1,ry,q1⟩=>Y8 (ho pins s1 σ H1 _ I1 q1) λu s2 ⟨x,H2,I2,rx,a,ov,ex,g,q2⟩=>?_
 subst ex
 obtain rfl:u=Value.ref a:=rx
 exact Zgq hu I2 g ry λs3 I3=>⟨.bl (!ov.isSome),H2,I3,rfl,q2⟩
def Zgu (hu:X.A.units+1<cLine)(ho:PE X o td)(hi:PE X i ty)(hv:PE X value tv)(hs:swapsWith value (some (.Subscript o i pos')) pos.line X.env=pure false):
  PS X (.Assign [.Subscript o i pos'] value pos) (xP td ty tv):=by
 intro pins s σ H D I h
 refine wpAny_Assign_Subscript (Y8 (hv pins s σ H _ I h) λr s1 ⟨v,H1,I1,rv,q1⟩=>Y8 (ho pins s1 σ H1 _ I1 q1) λu s2 ⟨x,H2,I2,rx,q2⟩=>Y8 (hi pins s2 σ H2 _ I2 q2) λiv s3 ⟨y,H3,I3,ry,a,H4,ex,g,q3⟩=>?_) hs
 subst ex
 obtain rfl:u=Value.ref a:=rx
 exact Za1 hu I3 g ry rv λs4 I4=>⟨σ,H4,I4,q3⟩
end
def Zc8 {P:Program}{w:World}{H:Hp}(h:Heap)(hb:sysModules<h.objs.size):ObjOk P w H (h.push {cls:=.type "dict", data:=.dict #[]}) h.objs.size (.dT []):=
 ⟨CL _,CT.mpr (EL (AK hb)),[],.nil,_,#[],0,AO _ rfl,⟨rfl,rfl,rfl⟩,rfl,rfl,MG⟩
def yp:TE:=λ_ H Q=>∀p,H p=none->Q (.ref p) (upd H p (.dT []))
section
variable {X:Cx}{pos:Pos}
def Db:PE X (.Dict [] [] pos) yp:=λpins s σ H Q I h=>
 wpAny_Dict_empty ⟨.ref s.heap.objs.size,_,I.laid (a:=s.heap.objs.size) (o:=.dT []) (t':=s.toks) (λ_ _ q=>AB _ q) (AQ _) (Zc8 s.heap I.big),rfl,h _ (I.hok.fresh (AQ _))⟩
end
structure M2 (X:Cx) (o:Expr) (m:Str) (apos:Pos) (e f:Expr) (cpos:Pos):Prop where
 base:attributeBase o m X.env (eval o X.env)=eval o X.env
 few:((backTo cpos (starEach [e,f] X.env)).all (λx=>!x.1)&&(backToKw cpos (keywordEach [] X.env)).all (λx=>x.1.isSome)
  && decide (([e,f]:List Expr).length+([]:List Keyword).length+(if([]:List Keyword).isEmpty then 0 else 1)<30))=true
 line:(apos.endLine==cpos.line)=true
 trees:backTo cpos (starEach [e,f] X.env)=[(false,eval e X.env),(false,eval f X.env)]
def ku (H:Hp)(a:Addr):Prop:=(∃kvs,Rd H a (.dK kvs))\/∃kvs,Rd H a (.dT kvs)
def rJ {X:Cx}{pins:List (Addr×Obj)}{σ:St}{H:Hp}{s:Shared}{a:Addr}(I:Inv X pins σ H s)(d:ku H a):
  s.TypeIs (.ref a) "dict"/\(∀b,Value.ref a=.ref b->∃ob,s.heap.get? b=some ob/\ob.dict=none)/\(a==sysModules)=false:=by
 rcases d with⟨kvs,e⟩|⟨kvs,e⟩
 .obtain⟨_,hd,vs,_,dd⟩:=M5 I.hok e
  refine⟨dd.typeIs,λb q=>?_,hd⟩
  cases q
  obtain⟨ob,_,_,h1,h2,_⟩:=dd
  exact⟨ob,h1,h2.2.1⟩
 .obtain⟨_,hd,xs,_,dd⟩:=M6 I.hok e
  refine⟨dd.typeIs,λb q=>?_,hd⟩
  cases q
  obtain⟨ob,_,_,h1,h2,_⟩:=dd
  exact⟨ob,h1,h2.2.1⟩
section
variable {X:Cx}{pins:List (Addr×Obj)}{σ:St}{H:Hp}{s:Shared}{a:Addr}{y d:V}{u r:Value}{o:Option V}{A:Around}{E:Value->Shared->Prop}
def yo {Q:Value->Shared->Prop}(hu:A.units+1<cLine)(I:Inv X pins σ H s)(g:DGet H a y o)(ry:RelV y u)(rd:RelV d r)(h:∀w' s',Inv X pins σ H s'->RelV (o.getD d) w'->Q w' s'):
  wpAny (model X.prog X.w) A (call (.builtin "dict.get") [.ref a,u,r]) Q E s:=by
 rcases g with⟨kvs,k,e,ey,l⟩|⟨kvs,k,b,e,ey,eb,l⟩
 .subst ey
  obtain⟨z,hd,vs,rel,dd⟩:=M5 I.hok e
  refine LI GO dd.typeIs JB (IT _ _ _) (meets_dict_get_default (Xl X.prog X.w) a (C9 ry) hd r) ⟨_,dd.mapOf,h _ _ (I.tok _) ?_⟩
  rw[l]
  exact(rel.val k).getD rd
 .subst ey
  cases (show u=Value.ref b from ry)
  obtain⟨z,hd,xs,rel,dd⟩:=M6 I.hok e
  refine LI GO dd.typeIs JB (IT _ _ _) (meetsH_dict_get_default (tupleKind (Xl X.prog X.w)) a b hd r) ⟨FE hu,k,xs,Ra I.hok eb,dd,h _ _ (I.tok _) ?_⟩
  rw[l]
  exact(rel.val k).getD rd
end
def yn (td ty tx:TE):TE:=λσ H Q=>td σ H λx H1=>∃a,x=.ref a/\ku H1 a/\ty σ H1 λy H2=>tx σ H2 λz H3=>∃o,DGet H3 a y o/\Q (o.getD z) H3
section
variable {X:Cx}{o e f:Expr}{apos cpos:Pos}{td ty tx:TE}
def Zda (hu:X.A.units+1<cLine)(ho:PE X o td)(he:PE X e ty)(hf:PE X f tx) (m:M2 X o "get" apos e f cpos):PE X (.Call (.Attribute o "get" apos) [e,f] [] cpos) (yn td ty tx):=by
 intro pins s σ H Q I h
 refine wpAny_Call_method m.base m.few m.line IR GO PySem.F.type_dict_get (Y8 (ho pins s σ H _ I h) λu s1 ⟨x,H1,I1,rx,a,ex,d,q1⟩=>?_)
 subst ex
 obtain rfl:u=Value.ref a:=rx
 obtain⟨t1,t2,_⟩:=rJ I1 d
 refine⟨t1,t2,?_⟩
 rw[m.trees]
 refine FM rfl (HM (EG (Y8 (he pins s1 σ H1 _ I1 q1) λiv s2 ⟨y,H2,I2,ry,q2⟩=>
  EG (Y8 (hf pins s2 σ H2 _ I2 q2) λfv s3 ⟨z,H3,I3,rz,ov,g,q3⟩=>GM ?_))))
 exact yo hu I3 g ry rz λw' s4 I4 QW=>⟨_,H3,I4,QW,q3⟩
end
end L2
namespace Att
open PySem PySem.W PySem.Calls PyProof.Rows
def Sn {P:Params}{h:Heap}:∀(ns:List Int) (vs:List Value),WellAll P h vs (ns.map WData.int)->IntsAre vs ns:=by
 intro ns
 induction ns with
 |nil=>
  intro vs w
  rw[FB] at w
  cases w
  exact .nil
 |cons n ns ih=>
  intro vs w
  rw[AM] at w
  cases w with
  |cons a b=>
   cases a
   exact .cons _ _ (ih _ b)
def Za3 {l:OpenLaw}{n:Nat}(hn:l.most=some n){P:Params}{h:Heap}{args:List WData}{vals:List Value}(ZO:l.row.toRowW.claim.pre args=true)(jW:WellAll P h vals args):
  ∃a vs ns,vals=[Value.ref a]/\args=[WData.list (ns.map WData.int)]/\h.get? a=some {cls:=.type "list", data:=.seq vs.toArray}/\IntsAre vs ns/\ns.length<=n:=by
 have uG:WShape.hasAll [] args [.list .int]=true:=(pre_splitW ZO).1
 have hc:l.pre.holds [] {args:=args}=true:=(pre_splitW ZO).2
 obtain⟨d,r,rfl,h1,h2⟩:=hasAllW_cons uG
 obtain rfl:=hasAllW_nil h2
 obtain⟨xs,rfl,h3⟩:=hasW_list h1
 obtain⟨ns,rfl⟩:=items_int h3
 have hlen:ns.length<=n:=by
  unfold OpenLaw.pre at hc
  have h4:(WTm.not (.lt (.lit (.int (n:Int))) (.len (.arg 0)))).holds [] {args:=[.list (ns.map .int)]}=true:=by
   have h4:=(holds_andW hc).1
   rw[hn] at h4
   exact h4
  have h5:=condW_of h4 (w_not (w_lt w_lit (w_len_list (w_arg rfl))))
  rw[AC] at h5
  refine FY λq=>?_
  have q':(n:Int)<((ns.length:Nat):Int):=by omega
  first
   |(rw[BD q'] at h5;exact absurd h5 (by decide))
   |(simp at h5;omega)
 cases jW with
 |cons w1 w2=>
  cases w2
  cases w1 with
  |list ho hall=>exact⟨_,_,ns,rfl,rfl,ho,Sn ns _ hall,hlen⟩
def Za4 (l:OpenLaw)(args:List WData):l.row.toRowW.claim.post args (.bool true) args=true:=
 postW_of (r:=l.row.toRowW) (X:=(true==true))
  (show WShape.has [] (.bool true) .bool=true by first|rfl|decide|simp[WShape.has,WShape.arms,WShape.armsAll])
  (show(WTm.eq .res (.lit (.bool true))).value [] {args:=args,res:=some (.bool true),after:=args}=some (.bool (true==true)) from w_eq_bool (w_res rfl) w_lit) rfl
def attach_call {l:OpenLaw}{n:Nat}{q:Program}{loose:List Str}{XP:(Str->Option Value)->Heap->Prop}{YP:World->Heap->Prop}{d:DefRec}(hn:l.most=some n)(eG:d.params.defaults=[])
  (call:∀(w:World) (s₀ s₁:Shared) (mg mb:Str->Option Value) (fa:Addr) (o:Obj) (pm cd doc:Value) (a:Addr) (vs:List Value) (ns:List Int),
   Ground q loose [] XP w s₀ mg mb s₁.heap->YP w s₁.heap ->
   s₁.heap.get? fa=some o->o.data=.func (docDef d.name d.params d.body d.scope pm cd doc)->s₁.heap.CodeRec cd d.name->mg d.name=some (.ref fa) ->
   s₁.heap.get? a=some {cls:=.type "list", data:=.seq vs.toArray}->IntsAre vs ns->ns.length<=n->s₁.gens=#[] ->
   codeAny (model l.prog w) callerA (.call (.ref fa) ⟨[.ref a],[]⟩) (λr s'=>r=.ok (.ret (.bool true))/\OldK s₁.heap s'.heap/\s'.os=s₁.os/\AllBare s'.gens) s₁):
  WalkO q loose XP YP l.row.toRowW d [] (λf vs=>PySem.call f vs):=by
 intro w s₀ s₁ mg mb G Y fa o pm cd doc dV kV ho hd NL hD hmg hg args vals as ZO uX hrd jW gN
 obtain rfl:dV=.none:=Dflts.none hD eG
 obtain rfl:kV=.none:=Dflts.noKw hD
 obtain⟨a,vs,ns,rfl,rfl,bF,hints,hlen⟩:=Za3 hn ZO jW
 refine enter_call (IC (call w s₀ s₁ mg mb fa o pm cd doc a vs ns G Y ho (fd_plain hd) NL hmg bF hints hlen hg) λr s' hq=>?_)
 obtain⟨rfl,h2,h3,h4⟩:=hq
 exact⟨.inl ⟨.bool true,.bool true,[],rfl,λ_=>rfl,.bool true,Za4 l _,λ_=>⟨List.Pairwise.nil,λ_ hm=>(nomatch hm)⟩⟩,h2,h3,h4⟩
end Att
namespace L2
open PySem PySem.Spec PyProof.Rows
theorem Rb:∀{vs:List Value}{ns:List Int},IntsAre vs ns->Vals (ns.map V.int) vs
 |_,_,.nil=>.nil
 |_,_,.cons n t h=>.cons ⟨t,rfl⟩ (Rb h)
def lJ (H:Hp):Prop:=∀b,H b=none\/∃o xs,H b=some (.frz o (.lst xs))
def Zdb {P:Program}{w:World}{K:PySem.W.Frag}{mg mb:Str->Option Value}{CX:YX}{k:Nat}{fa a:Addr}{fd:FuncData}{x:Str}{sp:Sp}{s₁:Shared}{vs:List Value}{ns:List Int}(KX:K.In s₁.heap)(UI:s₁.heap.Ns mainGlobals mg)(hb:s₁.heap.Ns builtinsNs mb) (uu:∀x:Str,x ≠ "__name__"->mb x=bootBuiltins x) (jm:s₁.heap.NoLimit) (hg:s₁.gens=#[])
  (ha:s₁.heap.get? a=some {cls:=.type "list", data:=.seq vs.toArray}) (hi:IntsAre vs ns) (hl:ns.length<=sizeLine) (hr:Room k callerA)
  (F:∀base:Heap,K.In base->base.Ns mainGlobals mg->MM P w K mg base CX k fa fd [x] sp) (eJ:∀(s:Shared) (u:Value),BindsTo s fd ⟨[u],[]⟩ [(x,u)])
  (hsp:∀H:Hp,lJ H->SqL K H a (ns.map V.int)->sp [.ref a] H (λv _=>v=.bl true) λ_ _ _=>False)
  (hCX:∀H e s',CX [] H s₁ (λ_ _ _=>False) e s'->False):
  codeAny (model P w) callerA (.call (.ref fa) ⟨[.ref a],[]⟩) (λr s'=>r=.ok (.ret (.bool true))/\OldK s₁.heap s'.heap/\s'.os=s₁.os/\AllBare s'.gens) s₁:=by
 have rv:=Rb hi
 have jQ:=hi.length
 have core:∀H:Hp,lJ H->SqL K H a (ns.map V.int)->HOk P w H s₁.heap->(∀b,H b≠none->b=a)->(H a≠none->K.lookup a=none) ->
   codeAny (model P w) callerA (.call (.ref fa) ⟨[.ref a],[]⟩) (λr s'=>r=.ok (.ret (.bool true))/\OldK s₁.heap s'.heap/\s'.os=s₁.os/\AllBare s'.gens) s₁:=by
  intro H hO hS hok hA hK
  have base_of:∀{b:Addr}{o:Obj},s₁.heap.get? b=some o->H b=none->(B5 s₁.heap H).get? b=some o:=λe n=>Zcp e n
  have noA:∀{b:Addr}{o:Obj}{es:Array DictEntry}{ep:Nat},s₁.heap.get? b=some o->o.data=.dict es ep->H b=none:=λ{b o es ep} e d=>by
   cases q:H b with
   |none=>rfl
   |some u=>
    have e':b=a:=hA b (by rw[q];simp)
    subst e'
    rw[ha] at e;cases e
    have d':Data.seq vs.toArray _=Data.dict es ep:=d
    cases d'
  have gG:∀{b:Addr}{m:Str->Option Value},s₁.heap.Ns b m->(B5 s₁.heap H).Ns b m:=λ{b m} ⟨o,es,ep,e,d,r⟩=>⟨o,es,ep,base_of e (noA e d),d,r⟩
  have m8:K.In (B5 s₁.heap H):=λb o e=>base_of (KX b o e) (by
   cases q:H b with
   |none=>rfl
   |some u=>
    have e':b=a:=hA b (by rw[q];simp)
    subst e'
    rw[hK (by rw[q];simp)] at e;cases e)
  have hM:Mod K mg (B5 s₁.heap H):=⟨m8,gG UI,⟨mb,gG hb,uu⟩,let ⟨mc,h1,h2⟩:=jm;⟨mc,gG h1,h2⟩⟩
  have e0:Env0 P w K mg (B5 s₁.heap H) callerA [] s₁ H:=⟨rfl,hM,λb o e=>Zf6 e,Nat.le_of_eq (Zaq _ _),trivial,λb hb=>absurd (show b∈([]:List Addr) from hb) (by simp),hok,.of_eq hg⟩
  refine IC ((F _ m8 (gG UI)).run callerA [] s₁ H ⟨[.ref a],[]⟩ [.ref a] [.ref a] _ _ hr e0 (eJ s₁ (.ref a)) (.cons rfl .nil) (hsp H hO hS)) λr s' h=>?_
  cases r with
  |error e=>exact(hCX H e s' h).elim
  |ok fl=>
   cases fl with
   |next=>exact False.elim h
   |brk=>exact False.elim h
   |cont=>exact False.elim h
   |ret u=>
    obtain⟨v,H',os,bare,un,ji,r',q⟩:=h
    have q':v=.bl true:=q
    subst q'
    obtain rfl:u=Value.bool true:=r'
    refine⟨rfl,OldK.of_keep λb o e=>?_,os,bare⟩
    cases q:H b with
    |none=>exact un.keep b o e q (by intro z;exact absurd (show b∈([]:List Addr) from z) (by simp)) (by simp)
    |some u=>
     rcases hO b with z|⟨ob,xs,z⟩
     .rw[q] at z;cases z
     .have z2:=un.frzs b ob _ z
      obtain⟨e1,_⟩:=hok b _ z
      obtain⟨e2,_⟩:=ji b _ z2
      rw[e] at e1;cases e1
      exact e2
 cases hk:K.lookup a with
 |some o=>
  have e:=KX a o hk
  rw[ha] at e
  cases e
  refine core (λ_=>none) (λ_=>.inl rfl) (.inr ⟨_,vs.toArray,_,hk,rfl,rfl,rfl,by rw[AL,jQ];exact hl,by simpa using rv⟩) (λb u z=>by have z':(none:Option HO)=some u:=z;cases z') (λb z=>absurd rfl z) λz=>absurd rfl z
 |none=>
  refine core (λb=>if b=a then some (.frz {cls:=.type "list", data:=.seq vs.toArray} (.lst (ns.map V.int))) else none) (λb=>?_) (.inl (.inr ⟨{cls:=.type "list", data:=.seq vs.toArray},AD rfl⟩)) (λb u z=>?_) (λb z=>?_) λ_=>hk
  .by_cases hb:b=a
   .exact .inr ⟨_,_,AD hb⟩
   .exact .inl (AF hb)
  .by_cases hb:b=a
   .have z':=(AD hb).symm.trans z
    cases z'
    subst hb
    exact⟨ha,by rw[AC];exact hl,vs,_,rv,ha⟩
   .have z':=(AF hb).symm.trans z
    cases z'
  .by_cases hb:b=a
   .exact hb
   .exact absurd (AF hb) z
def Zgv {l:PySem.W.OpenLaw}{n k:Nat}{q:Program}{loose:List Str}{XP:(Str->Option Value)->Heap->Prop}{YP:World->Heap->Prop}{d:DefRec}{K:Params->PySem.W.Frag}{CX:World->YX}{sp:World->Sp}{x:Str}(hn:l.most=some n)(hn2:n<=sizeLine)(eG:d.params.defaults=[])(hr:Room k callerA)(hY:∀(w:World) (h:Heap),YP w h->(K w.params).In h)(F:∀(w:World) (mg:Str->Option Value) (fa:Addr) (h:Heap),(K w.params).In h->h.Ns mainGlobals mg->mg d.name=some (.ref fa) ->
   ∃fd:FuncData,(∀(s:Shared) (u:Value),BindsTo s fd ⟨[u],[]⟩ [(x,u)]) /\
    ∀base:Heap,(K w.params).In base->base.Ns mainGlobals mg->MM l.prog w (K w.params) mg base (CX w) k fa fd [x] (sp w))(hsp:∀(w:World) (H:Hp) (a:Addr) (ns:List Int),ns.length<=n->lJ H->SqL (K w.params) H a (ns.map V.int)->sp w [.ref a] H (λv _=>v=.bl true) λ_ _ _=>False)(hCX:∀(w:World) (H:Hp) (s:Shared) (e:Value) (s':Shared),CX w [] H s (λ_ _ _=>False) e s'->False):
  PySem.W.WalkO q loose XP YP l.row.toRowW d [] (λf vs=>PySem.call f vs):=by
 refine Att.attach_call hn eG λw s₀ s₁ mg mb fa o pm cd doc a vs ns G Y ho hd NL hmg bF hints hlen hg=>?_
 have KX:=hY w _ Y
 obtain⟨fd,hb,hF⟩:=F w mg fa _ KX G.T.g hmg
 exact Zdb KX G.T.g G.T.b G.T.builtins G.T.nolimit hg bF hints (BA hlen hn2) hr hF hb (λH hO hS=>hsp w H a ns hlen hO hS) λH e s'=>hCX w H s₁ e s'
def V7 (s:Stmt):Arguments:=match s with
 |.FunctionDef _ a _ _ _ _ _ _ _ _=>a
 |_=>{posonlyargs:=[],args:=[],vararg:=none,kwonlyargs:=[],kw_defaults:=[],kwarg:=none,defaults:=[]}
def Xe (s:Stmt):List Stmt:=match s with
 |.FunctionDef _ _ b _ _ _ _ _ _ _=>b
 |_=>[]
def Zf (s:Stmt):Scope:=match s with
 |.FunctionDef _ _ _ _ _ _ sc _ _ _=>sc
 |_=>{kind:=.function,names:=[],isGenerator:=false,isCoroutine:=false}
abbrev Yf:YX:=λ_ _ _ _ _ _=>False
abbrev E0:XK:=λ_ _ _=>False
def Jj {X:Cx}:G9 Yf X E0:=λ_ _ _ _ _ _ _ h=>h.elim
structure Fun (K:PySem.W.Frag) (x qual:Str) (st:Stmt) (f:Addr) (fd:FuncData):Prop where
 ex:∃(oc:Value) (od:Option Addr) (kV doc pm:Value) (an:Option Addr) (MP ct:Value) (aP:Array (Option Value)),
  fd=PySem.W.fnOf x qual (V7 st) (Xe st) (Zf st) .none kV doc pm an MP ct/\K.lookup f=some ⟨oc,od,.func fd,aP⟩/\PySem.W.codeIn K MP qual=true
 kp:PySem.W.keepIn K (.ref f)=true
section
variable {P:Program}{w:World}{K:PySem.W.Frag}{mg:Str->Option Value}{base:Heap}
def Fun.ok {x qual:Str}{st:Stmt}{f:Addr}{fd:FuncData}{N ps:List Str}{k:Nat}{sp:Sp}(F:Fun K x qual st f fd)(S:MK N ps (Zf st))(len:∀vs H Q E,sp vs H Q E->vs.length=ps.length)(OH:∀(MP:Value) (A:Around) (outer:List Env) (s:Shared) (H:Hp) (vs:List V) (Q:VK) (E:XK),Room k (A.deeper (envOfC qual (Zf st) s.heap.objs.size f MP))->sp vs H Q E ->
   ∃t,PSs (Xo Yf P w K mg base N qual (Zf st) f MP A outer s H E).nox (Xe st) t/\t {nx:=λ_ H'=>Q .non H',rt:=Q} (Je N vs) H):MM P w K mg base Yf (k+1) f fd ps sp:=by
 obtain⟨oc,od,kV,doc,pm,an,MP,ct,aP,rfl,lk,NL⟩:=F.ex
 refine xW lk NL S len λA outer s H vs Q E hr hsp=>?_
 obtain⟨t,h,q⟩:=OH MP A outer s H vs Q E hr hsp
 exact⟨t,h.nox,q⟩
def Fun.binds {x qual:Str}{st:Stmt}{f:Addr}{fd:FuncData}{ps:List Str}(F:Fun K x qual st f fd)(h:∀(kV doc pm:Value) (an:Option Addr) (MP ct:Value) (us:List Value),us.length=ps.length->bindArgs (PySem.W.fnOf x qual (V7 st) (Xe st) (Zf st) .none kV doc pm an MP ct) ⟨us,[]⟩=pure (ps.zip us)):Binds K fd ps []:=by
 obtain⟨oc,od,kV,doc,pm,an,MP,ct,aP,rfl,lk,NL⟩:=F.ex
 exact .all (h kV doc pm an MP ct)
def rB {x qual:Str}{st:Stmt}{f:Addr}{oc:Value}{od an:Option Addr}{aP:Array (Option Value)}{kV doc pm MP ct:Value}(l:K.lookup f=some ⟨oc,od,.func (PySem.W.fnOf x qual (V7 st) (Xe st) (Zf st) .none kV doc pm an MP ct),aP⟩)(c:PySem.W.codeIn K MP qual=true)(k:PySem.W.keepIn K (.ref f)=true):Fun K x qual st f (PySem.W.fnOf x qual (V7 st) (Xe st) (Zf st) .none kV doc pm an MP ct):=⟨⟨oc,od,kV,doc,pm,an,MP,ct,aP,rfl,l,c⟩,k⟩
end
def Same (H H':Hp):Prop:=∀b o,H b=some o->H' b=some o
def Same.refl (H:Hp):Same H H:=λ_ _ h=>h
def Same.trans {H H1 H2:Hp}(a:Same H H1)(b:Same H1 H2):Same H H2:=λc o h=>b c o (a c o h)
def Same.free {H H':Hp}(e:Same H H'){l:Addr}(h:H' l=Option.none):H l=Option.none:=by
 cases q:H l with
 |none=>rfl
 |some o=>
  rw[e l o q] at h
  cases h
def Same.seq {K:PySem.W.Frag}{H H':Hp}{a:Addr}{xs:List V}(e:Same H H')(h:SqL K H a xs):SqL K H' a xs:=by
 rcases h with(h|⟨o,h⟩)|h
 .exact .inl (.inl (e _ _ h))
 .exact .inl (.inr ⟨o,e _ _ h⟩)
 .exact .inr h
end L2
namespace DL
open PySem PySem.Spec PyProof.Rows L2
inductive D where
 |non|bl (b:Bool)|int (i:Int)|str (x:Str)|tup (ds:List D)|lst (ds:List D)
structure XV where
 cls:Str
 ns:List Str
 ds:List D
inductive M (α:Type) where
 |ok (a:α)|ex (x:XV)|bad
def M.bind {α β:Type}(r:M α)(k:α->M β):M β:=match r with
 |.ok a=>k a
 |.ex x=>.ex x
 |.bad=>.bad
@[simp] theorem M.bind_ok {α β:Type}(a:α)(k:α->M β):(M.ok a).bind k=k a:=rfl
@[simp] theorem M.bind_ex {α β:Type}(x:XV)(k:α->M β):(M.ex x:M α).bind k=.ex x:=rfl
@[simp] theorem M.bind_bad {α β:Type}(k:α->M β):(M.bad:M α).bind k=.bad:=rfl
inductive S where
 |im (d:D)|ow (ds:List D)|od (kvs:List (List Yx×D))|dk (kvs:List (Yx×D))|xc (x:XV)|fn (x:Str)|ob (a:Addr) (c:Str) (r:List (Str×D))|fl (a:Addr) (hall:D) (sqs:List (List Yx×D))
def S.own:S->Bool
 |.im _=>false
 |.xc _=>false
 |.fn _=>false
 |.ob _ _ _=>false
 |.fl _ _ _=>false
 |_=>true
abbrev Zg:=List (Option S)
section
variable (K:PySem.W.Frag) (H:Hp)
mutual
def Rep:D->V->Prop
 |.non,v=>v=.non
 |.bl b,v=>v=.bl b
 |.int i,v=>v=.int i
 |.str x,v=>v=.str x
 |.tup ds,v=>∃a xs,v=.ref a/\H a=some (.tup xs)/\Reps ds xs
 |.lst ds,v=>∃a xs,v=.ref a/\SqL K H a xs/\Reps ds xs
def Reps:List D->List V->Prop
 |[],xs=>xs=[]
 |d::ds,xs=>∃x r,xs=x::r/\Rep d x/\Reps ds r
end
end
def RepKV (K:PySem.W.Frag)(H:Hp){κ:Type}:List (κ×D)->List (κ×V)->Prop:=Paired λp q=>p.1=q.1/\Rep K H p.2 q.2
def S.at (K:PySem.W.Frag)(Hf H:Hp)(p:Addr):S->Prop
 |.im _=>False
 |.xc _=>False
 |.fn _=>False
 |.ob _ _ _=>False
 |.fl _ _ _=>False
 |.ow ds=>∃xs,H p=some (.lst xs)/\Reps K Hf ds xs
 |.od kvs=>∃ys,H p=some (.dT ys)/\RepKV K Hf kvs ys
 |.dk kvs=>∃ys,H p=some (.dK ys)/\RepKV K Hf kvs ys
def _root_.L2.Same.seqT {K:PySem.W.Frag}{H H':Hp}{a:Addr}{xs:List V}(e:Same H H')(h:SqT K H a xs):SqT K H' a xs:=by
 rcases h with(h|⟨o,h⟩)|h
 .exact .inl (.inl (e _ _ h))
 .exact .inl (.inr ⟨o,e _ _ h⟩)
 .exact .inr h
section
variable {K:PySem.W.Frag}{H H':Hp}
mutual
theorem Rep.mono (e:Same H H'):∀{d:D}{v:V},Rep K H d v->Rep K H' d v
 |.non,_,h=>by unfold Rep at h ⊢;exact h
 |.bl _,_,h=>by unfold Rep at h ⊢;exact h
 |.int _,_,h=>by unfold Rep at h ⊢;exact h
 |.str _,_,h=>by unfold Rep at h ⊢;exact h
 |.tup ds,_,h=>by
  unfold Rep at h ⊢
  obtain⟨a,xs,e1,e2,e3⟩:=h
  exact⟨a,xs,e1,e _ _ e2,Reps.mono e e3⟩
 |.lst ds,_,h=>by
  unfold Rep at h ⊢
  obtain⟨a,xs,e1,e2,e3⟩:=h
  exact⟨a,xs,e1,e.seq e2,Reps.mono e e3⟩
theorem Reps.mono (e:Same H H'):∀{ds:List D}{xs:List V},Reps K H ds xs->Reps K H' ds xs
 |[],_,h=>by unfold Reps at h ⊢;exact h
 |d::ds,_,h=>by
  unfold Reps at h ⊢
  obtain⟨x,r,e1,e2,e3⟩:=h
  exact⟨x,r,e1,Rep.mono e e2,Reps.mono e e3⟩
end
def rep_non {v:V}:Rep K H .non v↔v=.non:=by unfold Rep;exact IB
def rep_bl {b:Bool}{v:V}:Rep K H (.bl b) v↔v=.bl b:=by unfold Rep;exact IB
def rep_int {i:Int}{v:V}:Rep K H (.int i) v↔v=.int i:=by unfold Rep;exact IB
def rep_str {x:Str}{v:V}:Rep K H (.str x) v↔v=.str x:=by unfold Rep;exact IB
def rep_tup {ds:List D}{v:V}:Rep K H (.tup ds) v↔∃a xs,v=.ref a/\H a=some (.tup xs)/\Reps K H ds xs:=by rw[Rep]
def Qh {ds:List D}{v:V}(h:Rep K H (.tup ds) v):∃a xs,v=.ref a/\SqT K H a xs/\Reps K H ds xs:=by
 obtain⟨a,xs,e1,e2,e3⟩:=rep_tup.mp h
 exact⟨a,xs,e1,SqT.of e2,e3⟩
def rep_lst {ds:List D}{v:V}:Rep K H (.lst ds) v↔∃a xs,v=.ref a/\SqL K H a xs/\Reps K H ds xs:=by rw[Rep]
def reps_nil {xs:List V}:Reps K H [] xs↔xs=[]:=by rw[Reps]
def reps_cons {d:D}{ds:List D}{xs:List V}:Reps K H (d::ds) xs↔∃x r,xs=x::r/\Rep K H d x/\Reps K H ds r:=by rw[Reps]
def Reps.nil:Reps K H [] []:=reps_nil.mpr rfl
def Reps.cons {d:D}{ds:List D}{x:V}{xs:List V}(h:Rep K H d x)(t:Reps K H ds xs):Reps K H (d::ds) (x::xs):=reps_cons.mpr ⟨x,xs,rfl,h,t⟩
theorem Reps.length:∀{ds:List D}{xs:List V},Reps K H ds xs->ds.length=xs.length
 |[],_,h=>by rw[reps_nil.mp h];rfl
 |d::ds,_,h=>by
  obtain⟨x,r,rfl,_,t⟩:=reps_cons.mp h
  rw[AH,AH,Reps.length t]
theorem Reps.get:∀{ds:List D}{xs:List V}{i:Nat}{d:D},Reps K H ds xs->ds[i]?=some d->∃x,xs[i]?=some x/\Rep K H d x
 |[],_,_,_,_,e=>by simp at e
 |_::ds,_,0,_,h,e=>by
  obtain⟨x,r,rfl,q,t⟩:=reps_cons.mp h
  simp at e;subst e;exact⟨x,rfl,q⟩
 |_::ds,_,i+1,_,h,e=>by
  obtain⟨x,r,rfl,q,t⟩:=reps_cons.mp h
  obtain⟨y,e1,e2⟩:=Reps.get (i:=i) t (by simpa using e)
  exact⟨y,by simpa using e1,e2⟩
theorem Reps.append:∀{ds es:List D}{xs ys:List V},Reps K H ds xs->Reps K H es ys->Reps K H (ds++es) (xs++ys)
 |[],_,_,_,h,t=>by rw[reps_nil.mp h];exact t
 |_::ds,_,_,_,h,t=>by
  obtain⟨x,r,rfl,q,u⟩:=reps_cons.mp h
  exact .cons q (Reps.append u t)
theorem Reps.take:∀{ds:List D}{xs:List V} (n:Nat),Reps K H ds xs->Reps K H (ds.take n) (xs.take n)
 |_,_,0,_=>by simpa using Reps.nil
 |[],_,n+1,h=>by rw[reps_nil.mp h];simpa using Reps.nil
 |_::ds,_,n+1,h=>by
  obtain⟨x,r,rfl,q,u⟩:=reps_cons.mp h
  exact .cons q (Reps.take n u)
theorem Reps.drop:∀{ds:List D}{xs:List V} (n:Nat),Reps K H ds xs->Reps K H (ds.drop n) (xs.drop n)
 |_,_,0,h=>by simpa using h
 |[],_,n+1,h=>by rw[reps_nil.mp h];simpa using Reps.nil
 |_::ds,_,n+1,h=>by
  obtain⟨x,r,rfl,q,u⟩:=reps_cons.mp h
  exact Reps.drop n u
def Reps.none_of {ds:List D}{xs:List V}{i:Nat}(h:Reps K H ds xs)(e:ds[i]?=none):xs[i]?=none:=by
 have:=h.length
 rw[BL] at e ⊢
 lia
end
theorem RepKV.mono {K:PySem.W.Frag}{H H':Hp}(e:Same H H'){κ:Type}{a:List (κ×D)}{b:List (κ×V)}(r:RepKV K H a b):RepKV K H' a b:=Paired.mapP r λ_ _ q=>⟨q.1,q.2.mono e⟩
def Ip {K:PySem.W.Frag}{Hf H:Hp}{p:Addr}{s:S}(h:S.at K Hf H p s):∃o,H p=some o:=by
 cases s with
 |im d=>exact h.elim
 |xc x=>exact h.elim
 |fn x=>exact h.elim
 |ob a c r=>exact h.elim
 |fl a g q=>exact h.elim
 |ow ds=>obtain⟨xs,e,_⟩:=h;exact⟨_,e⟩
 |od kvs=>obtain⟨ys,e,_⟩:=h;exact⟨_,e⟩
 |dk kvs=>obtain⟨ys,e,_⟩:=h;exact⟨_,e⟩
def Gi {K:PySem.W.Frag}{Hf MJ H H':Hp}{p:Addr}{s:S}(h:S.at K Hf H p s)(e:Same Hf MJ)(q:∀o,H p=some o->H' p=some o):S.at K MJ H' p s:=by
 cases s with
 |im d=>exact h.elim
 |xc x=>exact h.elim
 |fn x=>exact h.elim
 |ob a c r=>exact h.elim
 |fl a g q=>exact h.elim
 |ow ds=>obtain⟨xs,e1,e2⟩:=h;exact⟨xs,q _ e1,e2.mono e⟩
 |od kvs=>obtain⟨ys,e1,e2⟩:=h;exact⟨ys,q _ e1,e2.mono e⟩
 |dk kvs=>obtain⟨ys,e1,e2⟩:=h;exact⟨ys,q _ e1,e2.mono e⟩
def XO (a:Addr)(C:Addr)(dx:Option Addr):HO:=.ext λh=>∃oe vs,h.get? a=some oe/\oe.cls=.ref C/\oe.dict=dx/\oe.data=.fields vs
def XF (Hf:Hp)(ns:List Str)(xs:List V):Option Addr->Prop
 |none=>ns=[]/\xs=[]
 |some dx=>Hf dx=some (.xd (ns.zip xs))/\ns.length=xs.length
def XF.mono {H H':Hp}(e:Same H H'){ns:List Str}{xs:List V}:∀{dx:Option Addr},XF H ns xs dx->XF H' ns xs dx
 |none,h=>h
 |some _,h=>⟨e _ _ h.1,h.2⟩
def RepE (K:PySem.W.Frag)(Hf:Hp)(x:XV)(v:V):Prop:=
 ∃a C dx xs,v=.ref a/\Hf a=some (XO a C dx)/\PySem.W.nsIn K mainGlobals x.cls=some (some (.ref C))/\XF Hf x.ns xs dx/\Reps K Hf x.ds xs
theorem RepE.mono {K:PySem.W.Frag}{H H':Hp}(e:Same H H'){x:XV}{v:V}(h:RepE K H x v):RepE K H' x v:=by
 obtain⟨a,C,dx,xs,e1,e2,e3,e4,e5⟩:=h
 exact⟨a,C,dx,xs,e1,e _ _ e2,e3,e4.mono e,e5.mono e⟩
def RepO (K:PySem.W.Frag)(Hf:Hp)(a:Addr)(c:Str)(r:List (Str×D))(v:V):Prop:=∃C dx gs,v=.ref a/\PySem.W.nsIn K mainGlobals c=some (some (.ref C))/\Hf a=some (.ins C dx gs)/\RepKV K Hf r gs
theorem RepO.mono {K:PySem.W.Frag}{H H':Hp}(e:Same H H'){a:Addr}{c:Str}{r:List (Str×D)}{v:V}(h:RepO K H a c r v):RepO K H' a c r v:=by
 obtain⟨C,dx,gs,e1,e2,e3,e4⟩:=h
 exact⟨C,dx,gs,e1,e2,e _ _ e3,e4.mono e⟩
structure FlG (K:PySem.W.Frag) (Hf:Hp) (g:D) (d q:Addr) (gs:List (Str×V)):Prop where
 hall:∃v,gs.lookup ("hall":Str)=some v/\Rep K Hf g v
 sq:gs.lookup ("by_square":Str)=some (.ref d)
 kn:gs.lookup ("known_faces":Str)=some (.ref q)
 m1:gs.lookup ("people_at":Str)=none
 m2:gs.lookup ("faces_at":Str)=none
theorem FlG.mono {K:PySem.W.Frag}{H H':Hp}(e:Same H H'){g:D}{d q:Addr}{gs:List (Str×V)}(h:FlG K H g d q gs):FlG K H' g d q gs:=⟨let ⟨v,e1,e2⟩:=h.hall;⟨v,e1,e2.mono e⟩,h.sq,h.kn,h.m1,h.m2⟩
def RepFl (K:PySem.W.Frag)(Hf:Hp)(a:Addr)(g:D)(q:List (List Yx×D))(v:V):Prop:=∃C dx gs d k ys,v=.ref a/\PySem.W.nsIn K mainGlobals "Floor"=some (some (.ref C))/\Hf a=some (.ins C dx gs)/\FlG K Hf g d k gs/\Hf d=some (.dT ys)/\RepKV K Hf q ys
theorem RepFl.mono {K:PySem.W.Frag}{H H':Hp}(e:Same H H'){a:Addr}{g:D}{q:List (List Yx×D)}{v:V}(h:RepFl K H a g q v):RepFl K H' a g q v:=by
 obtain⟨C,dx,gs,d,k,ys,e1,e2,e3,e4,e5,e6⟩:=h
 exact⟨C,dx,gs,d,k,ys,e1,e2,e _ _ e3,e4.mono e,e _ _ e5,e6.mono e⟩
def RepS (K:PySem.W.Frag)(Hf:Hp):S->V->Prop
 |.im d,v=>Rep K Hf d v
 |.xc x,v=>RepE K Hf x v
 |.fn x,v=>∃a,v=.ref a/\PySem.W.nsIn K mainGlobals x=some (some (.ref a))
 |.ob a c r,v=>RepO K Hf a c r v
 |.fl a g q,v=>RepFl K Hf a g q v
 |_,_=>True
theorem RepS.mono {K:PySem.W.Frag}{H H':Hp}(e:Same H H'){t:S}{v:V}(h:RepS K H t v):RepS K H' t v:=by
 cases t with
 |im d=>exact Rep.mono e h
 |xc x=>exact RepE.mono e h
 |fn x=>exact h
 |ob a c r=>exact RepO.mono e h
 |fl a g q=>exact RepFl.mono e h
 |_=>trivial
def Lv (H:Hp)(a:Addr):Prop:=∃o,H a=some o/\∀xs,o≠.tup xs
def Lv.nn {H:Hp}{a:Addr}(h:Lv H a):H a≠none:=by
 obtain⟨o,e,_⟩:=h
 rw[e];simp
theorem Lv.lst {H:Hp}{a:Addr}{xs:List V}(e:H a=some (.lst xs)):Lv H a:=⟨_,e,λ_ q=>by cases q⟩
def _root_.L2.Same.lv {H H':Hp}(e:Same H H'){a:Addr}(h:Lv H a):Lv H' a:=let ⟨o,q,n⟩:=h;⟨o,e a o q,n⟩
def pX {K:PySem.W.Frag}{Hf H:Hp}{p:Addr}{s:S}(h:S.at K Hf H p s):Lv H p:=by
 cases s with
 |im d=>exact h.elim
 |xc x=>exact h.elim
 |fn x=>exact h.elim
 |ob a c r=>exact h.elim
 |fl a g q=>exact h.elim
 |ow ds=>obtain⟨xs,e,_⟩:=h;exact⟨_,e,λ_ q=>by cases q⟩
 |od kvs=>obtain⟨xs,e,_⟩:=h;exact⟨_,e,λ_ q=>by cases q⟩
 |dk kvs=>obtain⟨xs,e,_⟩:=h;exact⟨_,e,λ_ q=>by cases q⟩
structure Gr (Hf H MJ H':Hp):Prop where
 fz:Same Hf MJ
 sub:Same MJ H'
 all:Same H H'
 ban:∀a,Lv H a->Hf a=none->MJ a=none
theorem Gr.refl {Hf H:Hp}(h:Same Hf H):Gr Hf H Hf H:=⟨Same.refl _,h,Same.refl _,λ_ _ e=>e⟩
theorem Gr.trans {Hf H ML H1 MT H2:Hp}(a:Gr Hf H ML H1)(b:Gr ML H1 MT H2):Gr Hf H MT H2:=
 ⟨a.fz.trans b.fz,b.sub,a.all.trans b.all,λc h e=>b.ban c (a.all.lv h) (a.ban c h e)⟩
def Qc {H:Hp}{p:Addr}(h:H p=none)(o:HO):Same H (upd H p o):=λb u q=>by rw[Zm (Z3 q h)];exact q
theorem _root_.L2.Same.upd {Hf H:Hp}(e:Same Hf H)(p:Addr)(o:HO):Same (L2.upd Hf p o) (L2.upd H p o):=λb u q=>by
 by_cases hb:b=p
 .subst hb;rw[Zq] at q ⊢;exact q
 .rw[Zm hb] at q ⊢;exact e b u q
def Gr.alloc {Hf H:Hp}(e:Same Hf H){p:Addr}(h:H p=none)(o:HO):Gr Hf H (upd Hf p o) (upd H p o):=
 ⟨Qc (e.free h) o,Same.upd e p o,Qc h o,λa ha ea=>by
  have:a≠p:=λz=>ha.nn (z▸h)
  rw[Zm this];exact ea⟩
structure SR (K:PySem.W.Frag) (H0:Hp) (B:Addr->Prop) (Hf:Hp) (sd:Zg) (σ:L2.St) (H:Hp):Prop where
 sub:Same Hf H
 all:Same H0 H
 ban:∀a,B a->Hf a=none
 bt:∀a,B a->Lv H0 a
 len:sd.length=σ.length
 imS:∀(i:Nat) (t:S),sd[i]?=some (some t)->t.own=false->∃v,σ[i]?=some (some v)/\RepS K Hf t v
 ow:∀(i:Nat) (t:S),sd[i]?=some (some t)->t.own=true->∃p,σ[i]?=some (some (.ref p))/\H0 p=none/\Hf p=none/\S.at K Hf H p t
 sep:∀(i j:Nat) (t u:S) (p:Addr),i≠j->sd[i]?=some (some t)->t.own=true->sd[j]?=some (some u)->u.own=true->σ[i]?=some (some (.ref p))->σ[j]?=some (some (.ref p))->False
section
variable {K:PySem.W.Frag}{H0 Hf MJ H H':Hp}{B:Addr->Prop}{sd:Zg}{σ:L2.St}
theorem SR.im (r:SR K H0 B Hf sd σ H):∀(i:Nat) (d:D),sd[i]?=some (some (.im d))->∃v,σ[i]?=some (some v)/\Rep K Hf d v:=λi _ e=>r.imS i _ e rfl
def SR.gr (r:SR K H0 B Hf sd σ H)(g:Gr Hf H MJ H'):SR K H0 B MJ sd σ H' where
 sub:=g.sub
 all:=r.all.trans g.all
 ban:=λa h=>g.ban a (r.all.lv (r.bt a h)) (r.ban a h)
 bt:=r.bt
 len:=r.len
 imS:=λi d e z=>let ⟨v,e1,e2⟩:=r.imS i d e z;⟨v,e1,e2.mono g.fz⟩
 ow:=λi t e ho=>by
  obtain⟨p,e1,e2,e3,e4⟩:=r.ow i t e ho
  obtain⟨o,eo⟩:=Ip e4
  exact⟨p,e1,e2,g.ban p (pX e4) e3,Gi e4 g.fz λo h=>g.all _ _ h⟩
 sep:=r.sep
def SR.set_st (r:SR K H0 B Hf sd σ H)(i:Nat){d:S}{v:V}(hd:d.own=false)(h:RepS K Hf d v):SR K H0 B Hf (sd.set i (some d)) (σ.set i (some v)) H where
 sub:=r.sub
 all:=r.all
 ban:=r.ban
 bt:=r.bt
 len:=by rw[CZ,CZ];exact r.len
 imS:=λj d' e z=>by
  by_cases hj:i=j
  .subst hj
   have hi:i<sd.length:=by
    have:=(AE.mp e).1;simpa using this
   rw[AY hi] at e
   cases e
   exact⟨v,by rw[AY (by rw[<-r.len];exact hi)],h⟩
  .rw[AR hj] at e ⊢
   exact r.imS j d' e z
 ow:=λj t e ho=>by
  by_cases hj:i=j
  .subst hj
   have hi:i<sd.length:=by
    have:=(AE.mp e).1;simpa using this
   rw[AY hi] at e
   cases e
   rw[hd] at ho;cases ho
  .rw[AR hj] at e ⊢
   exact r.ow j t e ho
 sep:=λj k t u p hjk e1 o1 e2 o2 e3 e4=>by
  have ne:∀{l:Nat}{fs:S},(sd.set i (some d))[l]?=some (some fs)->fs.own=true->i≠l:=λ{l fs} e o z=>by
   subst z
   have hi:i<sd.length:=by
    have:=(AE.mp e).1;simpa using this
   rw[AY hi] at e
   cases e
   rw[hd] at o;cases o
  have n1:=ne e1 o1
  have n2:=ne e2 o2
  rw[AR n1] at e1 e3
  rw[AR n2] at e2 e4
  exact r.sep j k t u p hjk e1 o1 e2 o2 e3 e4
def SR.set_im (r:SR K H0 B Hf sd σ H)(i:Nat){d:D}{v:V}(h:Rep K Hf d v):SR K H0 B Hf (sd.set i (some (.im d))) (σ.set i (some v)) H:=r.set_st (d:=.im d) i rfl h
def SR.change (r:SR K H0 B Hf sd σ H){i:Nat}{p:Addr}{o:HO}{t u:S}(ht:sd[i]?=some (some t))(ot:t.own=true)(hi:σ[i]?=some (some (.ref p)))(ou:u.own=true)(h:S.at K Hf (upd H p o) p u):SR K H0 B Hf (sd.set i (some u)) σ (upd H p o):=by
 obtain⟨p',z1,z2,z3,z4⟩:=r.ow i t ht ot
 rw[hi] at z1
 cases z1
 have hl:i<sd.length:=(AE.mp ht).1
 have back:∀{j:Nat}{w:S},i≠j->(sd.set i (some u))[j]?=some (some w)->sd[j]?=some (some w):=λ{j w} n e=>by rwa[AR n] at e
 refine⟨λb v q=>?_,λb v q=>?_,r.ban,r.bt,by rw[CZ];exact r.len,λj d e z=>?_,λj w e ow=>?_,λj k w x q hjk e1 o1 e2 o2 e3 e4=>?_⟩
 .rw[Zm (Z3 q z3)];exact r.sub b v q
 .rw[Zm (Z3 q z2)];exact r.all b v q
 .by_cases n:i=j
  .subst n
   rw[AY hl] at e
   cases e
   rw[ou] at z;cases z
  .exact r.imS j d (back n e) z
 .by_cases n:i=j
  .subst n
   rw[AY hl] at e
   cases e
   exact⟨p,hi,z2,z3,h⟩
  .obtain⟨q,e1,e2,e3,e4⟩:=r.ow j w (back n e) ow
   refine⟨q,e1,e2,e3,Gi e4 (Same.refl _) λo' h'=>?_⟩
   have:q≠p:=λz=>by
    subst z
    exact r.sep i j t w q n ht ot (back n e) ow hi e1
   rw[Zm this];exact h'
 .have get:∀{l:Nat}{w:S},(sd.set i (some u))[l]?=some (some w)->w.own=true->∃w',sd[l]?=some (some w')/\w'.own=true:=λ{l w} e ow=>by
   by_cases n:i=l
   .subst n;exact⟨t,ht,ot⟩
   .exact⟨w,back n e,ow⟩
  obtain⟨w',a1,a2⟩:=get e1 o1
  obtain⟨x',b1,b2⟩:=get e2 o2
  exact r.sep j k w' x' q hjk a1 a2 b1 b2 e3 e4
def SR.freeze (r:SR K H0 B Hf sd σ H){i:Nat}{ds:List D}(ht:sd[i]?=some (some (.ow ds))):∃MJ,Same Hf MJ/\SR K H0 B MJ (sd.set i (some (.im (.lst ds)))) σ H:=by
 obtain⟨p,z1,z2,z3,xs,z4,z5⟩:=r.ow i _ ht rfl
 have hl:i<sd.length:=(AE.mp ht).1
 have back:∀{j:Nat}{w:S},i≠j->(sd.set i (some (S.im (.lst ds))))[j]?=some (some w)->sd[j]?=some (some w):=λ{j w} n e=>by rwa[AR n] at e
 have sm:=Qc z3 (.lst xs)
 refine⟨upd Hf p (.lst xs),sm,λb v q=>?_,r.all,λa h=>?_,r.bt,by rw[CZ];exact r.len,λj d e z=>?_,λj w e ow=>?_,λj k w x q hjk e1 o1 e2 o2 e3 e4=>?_⟩
 .by_cases hb:b=p
  .subst hb;rw[Zq] at q;rw[z4];exact q
  .rw[Zm hb] at q;exact r.sub b v q
 .have:a≠p:=λz=>(r.bt a h).nn (z▸z2)
  rw[Zm this];exact r.ban a h
 .by_cases n:i=j
  .subst n
   rw[AY hl] at e
   cases e
   exact⟨_,z1,(rep_lst.mpr ⟨p,xs,rfl,SqL.of Zq,z5.mono sm⟩:Rep K _ (.lst ds) _)⟩
  .obtain⟨v,e1,e2⟩:=r.imS j d (back n e) z
   exact⟨v,e1,e2.mono sm⟩
 .by_cases n:i=j
  .subst n
   rw[AY hl] at e
   cases e
   cases ow
  .obtain⟨q,e1,e2,e3,e4⟩:=r.ow j w (back n e) ow
   refine⟨q,e1,e2,?_,Gi e4 sm λo' h'=>h'⟩
   have:q≠p:=λz=>by
    subst z
    exact r.sep i j _ w q n ht rfl (back n e) ow z1 e1
   rw[Zm this];exact e3
 .have ne:∀{l:Nat}{w:S},(sd.set i (some (S.im (.lst ds))))[l]?=some (some w)->w.own=true->i≠l:=λ{l w} e o z=>by
   subst z
   rw[AY hl] at e
   cases e
   cases o
  exact r.sep j k w x q hjk (back (ne e1 o1) e1) o1 (back (ne e2 o2) e2) o2 e3 e4
end
def iV (K:PySem.W.Frag)(Hf _H:Hp)(x:XV)(c:Value)(dx:Option Addr):Prop:=
 ∃C xs,c=.ref C/\PySem.W.nsIn K mainGlobals x.cls=some (some (.ref C))/\XF Hf x.ns xs dx/\Reps K Hf x.ds xs
def Po (K:PySem.W.Frag)(E:XK){α β:Type}(R:Hp->Hp->α->β->Prop)(Hf H:Hp)(r:M α)(Q:β->Hp->Prop):Prop:=match r with
 |.ok a=>∀b MJ H',Gr Hf H MJ H'->R MJ H' a b->Q b H'
 |.ex x=>∀c dx MJ H',Gr Hf H MJ H'->iV K MJ H' x c dx->E c dx H'
 |.bad=>False
def rV (K:PySem.W.Frag)(Hf _H:Hp)(d:D)(v:V):Prop:=Rep K Hf d v
def rA (K:PySem.W.Frag)(Hf _H:Hp)(ds:List D)(vs:List V):Prop:=Reps K Hf ds vs
def rQ {α:Type}(_Hf _H:Hp)(a b:α):Prop:=a=b
section
variable {K:PySem.W.Frag}{E:XK}{α β γ δ:Type}{R:Hp->Hp->α->β->Prop}{T:Hp->Hp->γ->δ->Prop}{Hf H ML H1:Hp}
def Po.weak {r:M α}{Q:β->Hp->Prop}(g:Gr Hf H ML H1)(h:Po K E R Hf H r Q):Po K E R ML H1 r Q:=by
 cases r with
 |ok a=>exact λb MJ H' g' q=>h b MJ H' (g.trans g') q
 |ex x=>exact λc dx MJ H' g' q=>h c dx MJ H' (g.trans g') q
 |bad=>exact h
theorem Po.bind {r:M α}{k:α->M γ}{Q:δ->Hp->Prop}{Q1:β->Hp->Prop}(h:Po K E T Hf H (r.bind k) Q)(s:∀a b ML H1,r=.ok a->Gr Hf H ML H1->R ML H1 a b->Po K E T ML H1 (k a) Q->Q1 b H1):Po K E R Hf H r Q1:=by
 cases r with
 |ok a=>exact λb MJ H' g q=>s a b MJ H' rfl g q (Po.weak g h)
 |ex x=>exact h
 |bad=>exact h
def Po.ret {a:α}{b:β}{Q:β->Hp->Prop}(e:Same Hf H)(h:Po K E R Hf H (.ok a) Q)(q:R Hf H a b):Q b H:=h b Hf H (Gr.refl e) q
end
def Xq (X:Cx)(E:XK)(e:Expr)(f:Zg->M D):Prop:=
 ∃t:TE,PE X e t/\∀(H0:Hp) (B:Addr->Prop) (Hf:Hp) (sd:Zg) (σ:L2.St) (H:Hp) (Q:VK),SR X.K H0 B Hf sd σ H->Po X.K E (rV X.K) Hf H (f sd) Q->t σ H Q
def L9 (X:Cx)(E:XK)(es:List Expr)(f:Zg->M (List D)):Prop:=
 ∃t:TA,PA X es t/\∀(H0:Hp) (B:Addr->Prop) (Hf:Hp) (sd:Zg) (σ:L2.St) (H:Hp) (Q:List V->Hp->Prop),SR X.K H0 B Hf sd σ H->Po X.K E (rA X.K) Hf H (f sd) Q->t σ H Q
def M7 (X:Cx)(E:XK)(e:Expr)(f:Zg->M Bool):Prop:=
 ∃t:TT,PT X e t/\∀(H0:Hp) (B:Addr->Prop) (Hf:Hp) (sd:Zg) (σ:L2.St) (H:Hp) (Q:Bool->Hp->Prop),SR X.K H0 B Hf sd σ H->Po X.K E rQ Hf H (f sd) Q->t σ H Q
def PWd (X:Cx)(E:XK)(e:Expr)(f:Zg->M Bool):Prop:=
 ∃t:TT,PW X e t/\∀(H0:Hp) (B:Addr->Prop) (Hf:Hp) (sd:Zg) (σ:L2.St) (H:Hp) (Q:Bool->Hp->Prop),SR X.K H0 B Hf sd σ H->Po X.K E rQ Hf H (f sd) Q->t σ H Q
def hU (X:Cx)(E:XK)(e:Option Expr)(f:Zg->M (Option Int)):Prop:=
 ∃t:TO,PO X e t/\∀(H0:Hp) (B:Addr->Prop) (Hf:Hp) (sd:Zg) (σ:L2.St) (H:Hp) (Q:Option Int->Hp->Prop),SR X.K H0 B Hf sd σ H->Po X.K E rQ Hf H (f sd) Q->t σ H Q
inductive O where
 |nx (sd:Zg)|rt (s:S)|bk (sd:Zg)|ct (sd:Zg)
structure UF (H0:Hp) (B:Addr->Prop) (Hf H:Hp):Prop where
 sub:Same Hf H
 all:Same H0 H
 ban:∀a,B a->Hf a=none
def RS (K:PySem.W.Frag)(H0 Hf H:Hp):S->V->Prop
 |.im d,v=>Rep K Hf d v
 |.xc x,v=>RepE K Hf x v
 |t,v=>∃p,v=.ref p/\H0 p=none/\Hf p=none/\S.at K Hf H p t
def PoS (K:PySem.W.Frag)(E:XK)(H0:Hp)(B:Addr->Prop)(Hf:Hp)(r:M O)(D:Ends):Prop:=match r with
 |.ok (.nx sd')=>∀σ' MJ H',Same Hf MJ->SR K H0 B MJ sd' σ' H'->D.nx σ' H'
 |.ok (.bk sd')=>∀σ' MJ H',Same Hf MJ->SR K H0 B MJ sd' σ' H'->D.bk σ' H'
 |.ok (.ct sd')=>∀σ' MJ H',Same Hf MJ->SR K H0 B MJ sd' σ' H'->D.ct σ' H'
 |.ok (.rt s)=>∀v MJ H',Same Hf MJ->UF H0 B MJ H'->RS K H0 MJ H' s v->D.rt v H'
 |.ex x=>∀c dx MJ H',Same Hf MJ->UF H0 B MJ H'->iV K MJ H' x c dx->E c dx H'
 |.bad=>False
def SR.fin {K:PySem.W.Frag}{H0 Hf H:Hp}{B:Addr->Prop}{sd:Zg}{σ:L2.St}(r:SR K H0 B Hf sd σ H):UF H0 B Hf H:=⟨r.sub,r.all,r.ban⟩
def N4 (X:Cx)(E:XK)(st:Stmt)(f:Zg->M O):Prop:=
 ∃t:TS,PS X st t/\∀(H0:Hp) (B:Addr->Prop) (Hf:Hp) (sd:Zg) (σ:L2.St) (H:Hp) (D:Ends),SR X.K H0 B Hf sd σ H->PoS X.K E H0 B Hf (f sd) D->t D σ H
def N5 (X:Cx)(E:XK)(st:List Stmt)(f:Zg->M O):Prop:=
 ∃t:TS,PSs X st t/\∀(H0:Hp) (B:Addr->Prop) (Hf:Hp) (sd:Zg) (σ:L2.St) (H:Hp) (D:Ends),SR X.K H0 B Hf sd σ H->PoS X.K E H0 B Hf (f sd) D->t D σ H
def PoS.weak {K:PySem.W.Frag}{E:XK}{H0 Hf ML:Hp}{B:Addr->Prop}{r:M O}{D:Ends}(g:Same Hf ML)(h:PoS K E H0 B Hf r D):PoS K E H0 B ML r D:=by
 cases r with
 |ok o=>
  cases o with
  |nx sd=>exact λσ' MJ H' e q=>h σ' MJ H' (g.trans e) q
  |bk sd=>exact λσ' MJ H' e q=>h σ' MJ H' (g.trans e) q
  |ct sd=>exact λσ' MJ H' e q=>h σ' MJ H' (g.trans e) q
  |rt s=>exact λv MJ H' e q=>h v MJ H' (g.trans e) q
 |ex x=>exact λc dx MJ H' e q=>h c dx MJ H' (g.trans e) q
 |bad=>exact h
theorem PoS.bind {K:PySem.W.Frag}{E:XK}{H0 Hf H:Hp}{B:Addr->Prop}{sd:Zg}{σ:L2.St}{α β:Type}{R:Hp->Hp->α->β->Prop}{r:M α}{k:α->M O}{D:Ends}{Q1:β->Hp->Prop}(sr:SR K H0 B Hf sd σ H)(h:PoS K E H0 B Hf (r.bind k) D)(s:∀a b ML H1,r=.ok a->Gr Hf H ML H1->SR K H0 B ML sd σ H1->R ML H1 a b->PoS K E H0 B ML (k a) D->Q1 b H1):Po K E R Hf H r Q1:=by
 cases r with
 |ok a=>exact λb MJ H' g q=>s a b MJ H' rfl g (sr.gr g) q (PoS.weak g.fz h)
 |ex x=>exact λc dx MJ H' g q=>h c dx MJ H' g.fz (sr.gr g).fin q
 |bad=>exact h
section
variable {X:Cx}{E:XK}{pos:Pos}{a b:Expr}
def Zd (i:Nat)(sd:Zg):M D:=match sd[i]? with
 |some (some (.im d))=>.ok d
 |_=>.bad
def Zb (i:Nat){x:Str}(hN:X.N[i]?=some x:=by rfl)(hv:Mc X.env.scope x:=by trivial) (hd:(x==("__debug__":Str))=false:=by decide)
  (NL:(x==("__classdict__":Str))=false:=by decide):Xq X E (.Name x pos) (Zd i):=by
 refine⟨_,Qe hN hv hd NL,λH0 B Hf sd σ H Q sr h=>?_⟩
 unfold Zd at h
 split at h
 .rename_i d e
  obtain⟨v,e1,e2⟩:=sr.im i d e
  exact⟨v,e1,Po.ret sr.sub h e2⟩
 .exact h.elim
def eC (d:D)(_:Zg):M D:=.ok d
def Zi {i:Int}{j}:Xq X E (.Constant (.int i) j pos) (eC (.int i)):=⟨_,zf,λ_ _ _ _ _ _ _ sr h=>Po.ret sr.sub h (rep_int.mpr rfl)⟩
def Wr {i:Bool}{j}:Xq X E (.Constant (.bool i) j pos) (eC (.bl i)):=⟨_,yM,λ_ _ _ _ _ _ _ sr h=>Po.ret sr.sub h (rep_bl.mpr rfl)⟩
def Kb {j}:Xq X E (.Constant .none j pos) (eC .non):=⟨_,ze,λ_ _ _ _ _ _ _ sr h=>Po.ret sr.sub h (rep_non.mpr rfl)⟩
def Qw {x}{j}:Xq X E (.Constant (.str x) j pos) (eC (.str x)):=⟨_,zd,λ_ _ _ _ _ _ _ sr h=>Po.ret sr.sub h (rep_str.mpr rfl)⟩
def Rc (X:Cx)(E:XK)(f:Value->Value->Sem Value)(g:D->D->M D):Prop:=
 ∃r:R2,OpR X f r/\∀(Hf H:Hp) (x y:V) (dx dy:D) (Q:VK),Same Hf H->Rep X.K Hf dx x->Rep X.K Hf dy y->Po X.K E (rV X.K) Hf H (g dx dy) Q->r x y H Q
def Zn (g:D->D->M D)(fa fb:Zg->M D)(sd:Zg):M D:=(fa sd).bind λx=>(fb sd).bind λy=>g x y
def two {fa fb:Zg->M D}{g:D->D->M D}{ta tb:TE}{r:R2}{H0:Hp}{B:Addr->Prop}{Hf:Hp}{sd:Zg}{σ:L2.St}{H:Hp}{Q:VK}(ha:∀(H0:Hp) (B:Addr->Prop) (Hf:Hp) (sd:Zg) (σ:L2.St) (H:Hp) (Q:VK),SR X.K H0 B Hf sd σ H->Po X.K E (rV X.K) Hf H (fa sd) Q->ta σ H Q)(hb:∀(H0:Hp) (B:Addr->Prop) (Hf:Hp) (sd:Zg) (σ:L2.St) (H:Hp) (Q:VK),SR X.K H0 B Hf sd σ H->Po X.K E (rV X.K) Hf H (fb sd) Q->tb σ H Q)(hr:∀(Hf H:Hp) (x y:V) (dx dy:D) (Q:VK),Same Hf H->Rep X.K Hf dx x->Rep X.K Hf dy y->Po X.K E (rV X.K) Hf H (g dx dy) Q->r x y H Q)(sr:SR X.K H0 B Hf sd σ H)(h:Po X.K E (rV X.K) Hf H (Zn g fa fb sd) Q):cw r ta tb σ H Q:=by
 refine ha H0 B Hf sd σ H _ sr (Po.bind h λdx x ML H1 _ g1 rx h1=>?_)
 have sr1:=sr.gr g1
 refine hb H0 B ML sd σ H1 _ sr1 (Po.bind h1 λdy y MT H2 _ g2 ry h2=>?_)
 exact hr MT H2 x y dx dy Q g2.sub (Rep.mono g2.fz rx) ry h2
def Zp {op:Operator}{g:D->D->M D}{fa fb:Zg->M D}(ho:Rc X E (binaryOp op) g)(ha:Xq X E a fa)(hb:Xq X E b fb):Xq X E (.BinOp a op b pos) (Zn g fa fb):=by
 obtain⟨r,hr,qr⟩:=ho
 obtain⟨ta,pa,qa⟩:=ha
 obtain⟨tb,pb,qb⟩:=hb
 exact⟨_,lZ hr pa pb,λH0 B Hf sd σ H Q sr h=>two qa qb qr sr h⟩
def Ko {op:CmpOp}{g:D->D->M D}{fa fb:Zg->M D}(ho:Rc X E (compareOp op) g)(ha:Xq X E a fa)(hb:Xq X E b fb)(hm:behindInMarks op b=false):Xq X E (.Compare a [op] [b] pos) (Zn g fa fb):=by
 obtain⟨r,hr,qr⟩:=ho
 obtain⟨ta,pa,qa⟩:=ha
 obtain⟨tb,pb,qb⟩:=hb
 exact⟨_,Zgg hr pa pb hm,λH0 B Hf sd σ H Q sr h=>two qa qb qr sr h⟩
def gI (c:Int->Int->Bool)(g:Int->Int->D):D->D->M D
 |.int i,.int j=>if c i j then .ok (g i j) else .bad
 |_,_=>.bad
def Dc (g:Int->Int->D):D->D->M D
 |.int i,.int j=>.ok (g i j)
 |_,_=>.bad
def Dd {f:Value->Value->Sem Value}{gv:Int->Int->V}{gd:Int->Int->D}(h:OpR X f (aJ gv))(hg:∀i j (H:Hp),Rep X.K H (gd i j) (gv i j)):Rc X E f (Dc gd):=by
 refine⟨_,h,λHf H x y dx dy Q e rx ry q=>?_⟩
 unfold Dc at q
 split at q
 .rename_i i j
  exact⟨i,j,rep_int.mp rx,rep_int.mp ry,Po.ret e q (hg i j Hf)⟩
 .exact q.elim
def iU {f:Value->Value->Sem Value}{C:Int->Int->Prop}{c:Int->Int->Bool}{gv:Int->Int->V}{gd:Int->Int->D}(h:OpR X f (rI C gv))(hc:∀i j,c i j=true->C i j)(hg:∀i j (H:Hp),Rep X.K H (gd i j) (gv i j)):Rc X E f (gI c gd):=by
 refine⟨_,h,λHf H x y dx dy Q e rx ry q=>?_⟩
 unfold gI at q
 split at q
 .rename_i i j
  split at q
  .rename_i gU
   exact⟨i,j,rep_int.mp rx,rep_int.mp ry,hc i j gU,Po.ret e q (hg i j Hf)⟩
  .exact q.elim
 .exact q.elim
def Vl:D->D->M D:=Dc λi j=>.int (i-j)
def Mf:D->D->M D:=Dc λi j=>.bl (decide (i<j))
def kr:D->D->M D:=Dc λi j=>.bl (decide (i<=j))
def N6:D->D->M D:=Dc λi j=>.bl (decide (j<i))
def fJ:D->D->M D:=Dc λi j=>.bl (decide (j<=i))
def Kc:Rc X E (binaryOp .Sub) Vl:=Dd zD λ_ _ _=>rep_int.mpr rfl
def N7:Rc X E (compareOp .Lt) Mf:=Dd xa λ_ _ _=>rep_bl.mpr rfl
def pW:Rc X E (compareOp .LtE) kr:=Dd xZ λ_ _ _=>rep_bl.mpr rfl
def N8:Rc X E (compareOp .Gt) N6:=Dd xY λ_ _ _=>rep_bl.mpr rfl
def xO:Rc X E (compareOp .GtE) fJ:=Dd xX λ_ _ _=>rep_bl.mpr rfl
end
section
variable {X:Cx}{E:XK}{pos:Pos}{a b:Expr}
def Iq {i:Int}(h:i.natAbs<2 ^ 4000):Builtin.Int.intBits i<=2 ^ 20:=by
 unfold Builtin.Int.intBits
 split
 .exact CL _
 .rename_i hz
  have hn:i.natAbs≠0:=λz=>hz (by rw[Int.natAbs_eq_zero.mp z];rfl)
  have:i.natAbs.log2<4000:=(Nat.log2_lt hn).mpr h
  have e:(2:Nat) ^ 20=1048576:=rfl
  lia
def wz (i j:Int):Prop:=i.natAbs<2 ^ 4000/\j.natAbs<2 ^ 4000
def wH (_i j:Int):Prop:=j≠0/\j.natAbs<2 ^ 4000
def qz {j:Int}(h:j.natAbs<2 ^ 4000):j.natAbs.log2<9000:=by
 by_cases hn:j.natAbs=0
 .rw[hn];decide
 .have:j.natAbs.log2<4000:=(Nat.log2_lt hn).mpr h
  lia
def Zgy:OpR X (binaryOp .Mult) (rI wz λi j=>.int (i*j)):=hV λ_ _ _ _ _ _ _ hc q=>mul_int q (IntMulOk.of_bits (Iq hc.1) (Iq hc.2))
def Zde:OpR X (binaryOp .FloorDiv) (rI wH λi j=>.int (i.fdiv j)):=hV λ_ _ _ _ _ _ _ hc q=>floordiv_int hc.1 q (.inl (IK (qz hc.2)))
def sm (i:Int):Bool:=decide (i.natAbs<2 ^ 4000)
def sm_iff {i:Int}:sm i=true↔i.natAbs<2 ^ 4000:=CJ
def oO:D->D->M D:=gI (λi j=>sm i&&sm j) λi j=>.int (i*j)
def Yz:D->D->M D:=gI (λ_ j=>j != 0&&sm j) λi j=>.int (i.fdiv j)
def Q7:D->D->M D:=gI (λ_ j=>j != 0) λi j=>.int (i.fmod j)
def iT:D->D->M D:=gI (λi j=>decide (0<=j/\j<=1000/\i.natAbs<1000)) λi j=>.int (i ^ j.toNat)
def ym:Rc X E (binaryOp .Mult) oO:=iU Zgy (λi j h=>by
 rw[BG] at h
 exact⟨sm_iff.mp h.1,sm_iff.mp h.2⟩) λ_ _ _=>rep_int.mpr rfl
def Xf:Rc X E (binaryOp .FloorDiv) Yz:=iU Zde (λi j h=>by
 rw[BG] at h
 exact⟨by simpa using h.1,sm_iff.mp h.2⟩) λ_ _ _=>rep_int.mpr rfl
def Yg:Rc X E (binaryOp .Mod) Q7:=iU Zge (λi j h=>by simpa using h) λ_ _ _=>rep_int.mpr rfl
def zS:Rc X E (binaryOp .Pow) iT:=iU zC (λi j h=>by
 have h:=BS h
 refine⟨h.1,by lia,?_⟩
 have e:(2:Nat) ^ 64=18446744073709551616:=rfl
 lia) λ_ _ _=>rep_int.mpr rfl
def Ir {K:PySem.W.Frag}{H:Hp}{ds:List D}{xs:List V}{i:Int}{d:D}(r:Reps K H ds xs)(e:Nw ds i=some d):∃x,Nw xs i=some x/\Rep K H d x:=by
 unfold Nw at e ⊢
 rw[<-r.length]
 cases q:cB ds.length i with
 |none=>rw[q] at e;cases e
 |some j=>
  rw[q] at e
  exact r.get e
def Ys:D->D->M D
 |.lst ds,.int i=>match Nw ds i with
  |some d=>.ok d
  |none=>.bad
 |.tup ds,.int i=>match Nw ds i with
  |some d=>.ok d
  |none=>.bad
 |.str z,.int i=>if z.length<=sizeLine then(match Nw z.cps.toList i with
  |some c=>.ok (.str ⟨#[c]⟩)
  |none=>.bad) else .bad
 |_,_=>.bad
def Qz {fa fb:Zg->M D}(ha:Xq X E a fa)(hb:Xq X E b fb)(hs:Im b):Xq X E (.Subscript a b pos) (Zn Ys fa fb):=by
 obtain⟨ta,pa,qa⟩:=ha
 obtain⟨tb,pb,qb⟩:=hb
 refine⟨_,xS yv pa pb hs,λH0 B Hf sd σ H Q sr h=>two qa qb (λHf H x y dx dy Q e rx ry q=>?_) sr h⟩
 unfold Ys at q
 split at q
 .rename_i ds i
  split at q
  .rename_i d ei
   obtain⟨p,xs,rfl,hp,hr⟩:=rep_lst.mp rx
   obtain⟨v,e1,e2⟩:=Ir hr ei
   exact .inl ⟨p,xs,i,v,rfl,rep_int.mp ry,e.seq hp,e1,Po.ret e q e2⟩
  .exact q.elim
 .rename_i ds i
  split at q
  .rename_i d ei
   obtain⟨p,xs,rfl,hp,hr⟩:=Qh rx
   obtain⟨v,e1,e2⟩:=Ir hr ei
   exact .inr (.inl ⟨p,xs,i,v,rfl,rep_int.mp ry,Same.seqT e hp,e1,Po.ret e q e2⟩)
  .exact q.elim
 .rename_i z i
  split at q
  .rename_i hz
   split at q
   .rename_i c ei
    exact .inr (.inr ⟨z,i,c,rep_str.mp rx,rep_int.mp ry,hz,ei,Po.ret e q (rep_str.mpr rfl)⟩)
   .exact q.elim
  .exact q.elim
 .exact q.elim
def Zj (_:Zg):M (List D):=.ok []
def Zc (fa:Zg->M D)(fr:Zg->M (List D))(sd:Zg):M (List D):=(fa sd).bind λd=>(fr sd).bind λds=>.ok (d::ds)
def Ze:L9 X E [] Zj:=⟨_,Ji,λ_ _ _ _ _ _ _ sr h=>Po.ret sr.sub h Reps.nil⟩
def Za {es:List Expr}{fa:Zg->M D}{fr:Zg->M (List D)}(ha:Xq X E a fa)(hr:L9 X E es fr)(hs:starEach (a::es) X.env=(false,eval a X.env)::starEach es X.env:=by rfl):L9 X E (a::es) (Zc fa fr):=by
 obtain⟨ta,pa,qa⟩:=ha
 obtain⟨tr,pr,qr⟩:=hr
 refine⟨_,Qm pa pr hs,λH0 B Hf sd σ H Q sr h=>?_⟩
 refine qa H0 B Hf sd σ H _ sr (Po.bind h λd v ML H1 _ g1 rv h1=>?_)
 refine qr H0 B ML sd σ H1 _ (sr.gr g1) (Po.bind h1 λds vs MT H2 _ g2 rs h2=>?_)
 exact Po.ret g2.sub h2 (Reps.cons (Rep.mono g2.fz rv) rs)
def few (ds:List D):Bool:=decide (ds.length<=1000000)
def Ws {K:PySem.W.Frag}{H:Hp}{ds:List D}{xs:List V}(h:few ds=true)(r:Reps K H ds xs):xs.length<=sizeLine:=by
 have:=BS h
 have e:=CG
 rw[<-r.length,e]
 lia
def Q0 (fs:Zg->M (List D))(sd:Zg):M D:=(fs sd).bind λds=>if few ds then .ok (.tup ds) else .bad
def Jk (fs:Zg->M (List D))(sd:Zg):M D:=(fs sd).bind λds=>if few ds then .ok (.lst ds) else .bad
theorem Gr.tup {K:PySem.W.Frag}{Hf H:Hp}{p:Addr}{ds:List D}{xs:List V}(e:Same Hf H)(hp:H p=none)(r:Reps K Hf ds xs):Rep K (upd Hf p (.tup xs)) (.tup ds) (.ref p):=
 rep_tup.mpr ⟨p,xs,rfl,Zq,r.mono (Qc (e.free hp) _)⟩
theorem Gr.lst {K:PySem.W.Frag}{Hf H:Hp}{p:Addr}{ds:List D}{xs:List V}(e:Same Hf H)(hp:H p=none)(r:Reps K Hf ds xs):Rep K (upd Hf p (.lst xs)) (.lst ds) (.ref p):=
 rep_lst.mpr ⟨p,xs,rfl,SqL.of Zq,r.mono (Qc (e.free hp) _)⟩
def Qi {es:List Expr}{fs:Zg->M (List D)}{x1}(h:L9 X E es fs):Xq X E (.Tuple es x1 pos) (Q0 fs):=by
 obtain⟨t,p,q⟩:=h
 refine⟨_,Ab p,λH0 B Hf sd σ H Q sr h=>?_⟩
 refine q H0 B Hf sd σ H _ sr (Po.bind h λds vs ML H1 _ g1 rs h1=>?_)
 split at h1
 .rename_i hf
  exact⟨Ws hf rs,λp hp=>h1 _ _ _ (Gr.alloc g1.sub hp _) (Gr.tup g1.sub hp rs)⟩
 .exact h1.elim
def X1 {es:List Expr}{fs:Zg->M (List D)}(h:L9 X E es fs):Xq X E (.List es pos) (Jk fs):=by
 obtain⟨t,p,q⟩:=h
 refine⟨_,Fn p,λH0 B Hf sd σ H Q sr h=>?_⟩
 refine q H0 B Hf sd σ H _ sr (Po.bind h λds vs ML H1 _ g1 rs h1=>?_)
 split at h1
 .rename_i hf
  exact⟨Ws hf rs,λp hp=>h1 _ _ _ (Gr.alloc g1.sub hp _) (Gr.lst g1.sub hp rs)⟩
 .exact h1.elim
def Wg (X:Cx)(E:XK)(f:Value)(g:List D->M D):Prop:=
 ∃r,CallR X f r/\∀(Hf H:Hp) (xs:List V) (ds:List D) (Q:VK),Same Hf H->Reps X.K Hf ds xs->Po X.K E (rV X.K) Hf H (g ds) Q->r xs H Q
def K6 (g:List D->M D)(fs:Zg->M (List D))(sd:Zg):M D:=(fs sd).bind g
def Qr {x:Str}{id:String}{p:Pos}{g:List D->M D}{e:Expr}{es:List Expr}{fs:Zg->M (List D)}(hc:Wg X E (.builtin id) g)(hg:Gl X x)(hm:X.mg x=none)(hv:bootBuiltins x=some (.builtin id))(ha:L9 X E (e::es) fs)
  (hn:x ≠ "__name__":=by decide) (QA:(x==("__debug__":Str))=false:=by decide)
  (he:starEach (e::es) X.env=(false,eval e X.env)::starEach es X.env:=by rfl) (ND:(backTo pos (starEach es X.env)).any (·.1)=false:=by rfl):Xq X E (.Call (.Name x p) (e::es) [] pos) (K6 g fs):=by
 obtain⟨r,hr,qr⟩:=hc
 obtain⟨t,pt,qt⟩:=ha
 refine⟨_,C6 hr hg hm hv pt hn QA he ND,λH0 B Hf sd σ H Q sr h=>?_⟩
 exact qt H0 B Hf sd σ H _ sr (Po.bind h λds vs ML H1 _ g1 rs h1=>qr ML H1 vs ds Q g1.sub rs h1)
def De {x:Str}{T:String}{p:Pos}{g:List D->M D}{e:Expr}{es:List Expr}{fs:Zg->M (List D)}(hc:Wg X E (.type T) g)(hg:Gl X x)(hm:X.mg x=none)(hv:bootBuiltins x=some (.type T))(ha:L9 X E (e::es) fs)
  (hn:x ≠ "__name__":=by decide) (QA:(x==("__debug__":Str))=false:=by decide)
  (he:starEach (e::es) X.env=(false,eval e X.env)::starEach es X.env:=by rfl) (ND:(backTo pos (starEach es X.env)).any (·.1)=false:=by rfl):Xq X E (.Call (.Name x p) (e::es) [] pos) (K6 g fs):=by
 obtain⟨r,hr,qr⟩:=hc
 obtain⟨t,pt,qt⟩:=ha
 refine⟨_,Zaz hr hg hm hv pt hn QA he ND,λH0 B Hf sd σ H Q sr h=>?_⟩
 exact qt H0 B Hf sd σ H _ sr (Po.bind h λds vs ML H1 _ g1 rs h1=>qr ML H1 vs ds Q g1.sub rs h1)
def Vm {K:PySem.W.Frag}{H:Hp}{d:D}{xs:List V}(r:Reps K H [d] xs):∃x,xs=[x]/\Rep K H d x:=by
 obtain⟨x,t,rfl,h,r2⟩:=reps_cons.mp r
 rw[reps_nil.mp r2];exact⟨x,rfl,h⟩
def Df {K:PySem.W.Frag}{H:Hp}{d e:D}{xs:List V}(r:Reps K H [d,e] xs):∃x y,xs=[x,y]/\Rep K H d x/\Rep K H e y:=by
 obtain⟨x,t,rfl,h,r2⟩:=reps_cons.mp r
 obtain⟨y,rfl,h2⟩:=Vm r2
 exact⟨x,y,rfl,h,h2⟩
def Wt:List D->M D
 |[.int i]=>.ok (.int (if i<0 then -i else i))
 |_=>.bad
def Na:Wg X E (.builtin "abs") Wt:=by
 refine⟨_,Zcy,λHf H xs ds Q e r q=>?_⟩
 unfold Wt at q
 split at q
 .obtain⟨x,rfl,h⟩:=Vm r
  rw[rep_int.mp h]
  exact⟨_,rfl,Po.ret e q (rep_int.mpr rfl)⟩
 .exact q.elim
def dH:List D->M D
 |[.int i]=>.ok (.int i)
 |[.bl b]=>.ok (.int (if b then 1 else 0))
 |_=>.bad
def zR:Wg X E (.type "int") dH:=by
 refine⟨_,Zau,λHf H xs ds Q e r q=>?_⟩
 unfold dH at q
 split at q
 .obtain⟨x,rfl,h⟩:=Vm r
  rw[rep_int.mp h]
  exact .inl ⟨_,rfl,Po.ret e q (rep_int.mpr rfl)⟩
 .obtain⟨x,rfl,h⟩:=Vm r
  rw[rep_bl.mp h]
  exact .inr ⟨_,rfl,Po.ret e q (rep_int.mpr rfl)⟩
 .exact q.elim
def Wj:List D->M D
 |[.lst ds]=>.ok (.int ds.length)
 |[.tup ds]=>.ok (.int ds.length)
 |[.str z]=>if z.length<=sizeLine then .ok (.int z.length) else .bad
 |_=>.bad
def Wu:Wg X E (.builtin "len") Wj:=by
 refine⟨_,call_len_seq.or Af,λHf H xs ds Q e r q=>?_⟩
 unfold Wj at q
 split at q
 .obtain⟨x,rfl,h⟩:=Vm r
  obtain⟨p,ys,rfl,hp,hr⟩:=rep_lst.mp h
  refine .inl ⟨p,ys,rfl,.inl (e.seq hp),?_⟩
  rw[<-hr.length]
  exact Po.ret e q (rep_int.mpr rfl)
 .obtain⟨x,rfl,h⟩:=Vm r
  obtain⟨p,ys,rfl,hp,hr⟩:=Qh h
  refine .inl ⟨p,ys,rfl,.inr (Same.seqT e hp),?_⟩
  rw[<-hr.length]
  exact Po.ret e q (rep_int.mpr rfl)
 .split at q
  .rename_i hz
   obtain⟨x,rfl,h⟩:=Vm r
   rw[rep_str.mp h]
   exact .inr ⟨_,rfl,hz,Po.ret e q (rep_int.mpr rfl)⟩
  .exact q.elim
 .exact q.elim
def Fu:List D->M D
 |[.lst ds]=>.ok (.tup ds)
 |[.tup ds]=>.ok (.tup ds)
 |_=>.bad
def Zdf:Wg X E (.type "tuple") Fu:=by
 refine⟨_,Me,λHf H xs ds Q e r q=>?_⟩
 unfold Fu at q
 split at q
 .obtain⟨x,rfl,h⟩:=Vm r
  obtain⟨p,ys,rfl,hp,hr⟩:=rep_lst.mp h
  exact⟨p,ys,rfl,.inl ⟨e.seq hp,λl hl=>q _ _ _ (Gr.alloc e hl _) (Gr.tup e hl hr)⟩⟩
 .obtain⟨x,rfl,h⟩:=Vm r
  obtain⟨p,ys,rfl,hp,hr⟩:=Qh h
  exact⟨p,ys,rfl,.inr ⟨Same.seqT e hp,Po.ret e q (h)⟩⟩
 .exact q.elim
def asB:D->M Bool
 |.bl b=>.ok b
 |_=>.bad
def tB (f:Zg->M D)(sd:Zg):M Bool:=(f sd).bind asB
def tN (f:Zg->M Bool)(sd:Zg):M Bool:=(f sd).bind λb=>.ok (!b)
def tA (f g:Zg->M Bool)(sd:Zg):M Bool:=(f sd).bind λb=>if b then g sd else .ok false
def tO (f g:Zg->M Bool)(sd:Zg):M Bool:=(f sd).bind λb=>if b then .ok true else g sd
def Xg {e:Expr}{f:Zg->M D}(h:Xq X E e f)(he:∀whole,isTrue e X.env whole=(do let v <-whole;standAt e.pos;holding [v] (truthy v)):=by intro _;rfl):M7 X E e (tB f):=by
 obtain⟨t,p,q⟩:=h
 refine⟨_,za p he,λH0 B Hf sd σ H Q sr h=>?_⟩
 refine q H0 B Hf sd σ H _ sr (Po.bind h λd v ML H1 _ g1 rv h1=>?_)
 unfold asB at h1
 split at h1
 .exact⟨_,rep_bl.mp rv,Po.ret (R:=rQ) g1.sub h1 rfl⟩
 .exact h1.elim
def Z0 {op:CmpOp}{g:D->D->M D}{fa fb:Zg->M D}(ho:Rc X E (compareOp op) g)(ha:Xq X E a fa)(hb:Xq X E b fb)(hm:behindInMarks op b=false):M7 X E (.Compare a [op] [b] pos) (tB (Zn g fa fb)):=by
 obtain⟨r,hr,qr⟩:=ho
 obtain⟨ta,pa,qa⟩:=ha
 obtain⟨tb,pb,qb⟩:=hb
 refine⟨_,B8 hr pa pb hm,λH0 B Hf sd σ H Q sr h=>?_⟩
 refine two qa qb qr sr (Po.bind h λd v ML H1 _ g1 rv h1=>?_)
 unfold asB at h1
 split at h1
 .exact⟨_,rep_bl.mp rv,Po.ret (R:=rQ) g1.sub h1 rfl⟩
 .exact h1.elim
def K7 {f:Zg->M Bool}(h:M7 X E a f):M7 X E (.UnaryOp .Not a pos) (tN f):=by
 obtain⟨t,p,q⟩:=h
 refine⟨_,zX p,λH0 B Hf sd σ H Q sr h=>?_⟩
 refine q H0 B Hf sd σ H _ sr (Po.bind h λb v ML H1 _ g1 rv h1=>?_)
 have e:b=v:=rv
 subst e
 exact Po.ret (R:=rQ) g1.sub h1 rfl
theorem PWd.pt {f:Zg->M Bool}{e:Expr}(h:PWd X E e f):M7 X E e f:=by
 obtain⟨t,p,q⟩:=h
 exact⟨t,p.pt,q⟩
def Vn {f:Zg->M Bool}(h:M7 X E a f):PWd X E (.BoolOp .And [a] pos) f:=by
 obtain⟨t,p,q⟩:=h
 exact⟨t,Zf9 p,q⟩
def V8 {f:Zg->M Bool}(h:M7 X E a f):PWd X E (.BoolOp .Or [a] pos) f:=by
 obtain⟨t,p,q⟩:=h
 exact⟨t,zZ p,q⟩
def V9 {rest:List Expr}{f g:Zg->M Bool}(h:M7 X E a f)(h2:PWd X E (.BoolOp .And (b::rest) pos) g):PWd X E (.BoolOp .And (a::b::rest) pos) (tA f g):=by
 obtain⟨t,p,q⟩:=h
 obtain⟨t2,p2,q2⟩:=h2
 refine⟨_,zY p p2,λH0 B Hf sd σ H Q sr h=>?_⟩
 refine q H0 B Hf sd σ H _ sr (Po.bind h λb v ML H1 _ g1 rv h1=>?_)
 have e:b=v:=rv
 subst e
 cases b with
 |true=>rw[AD rfl] at h1 ⊢;exact q2 H0 B ML sd σ H1 Q (sr.gr g1) h1
 |false=>rw[AF CB] at h1 ⊢;exact Po.ret (R:=rQ) g1.sub h1 rfl
def Wv {rest:List Expr}{f g:Zg->M Bool}(h:M7 X E a f)(h2:PWd X E (.BoolOp .Or (b::rest) pos) g):PWd X E (.BoolOp .Or (a::b::rest) pos) (tO f g):=by
 obtain⟨t,p,q⟩:=h
 obtain⟨t2,p2,q2⟩:=h2
 refine⟨_,yL p p2,λH0 B Hf sd σ H Q sr h=>?_⟩
 refine q H0 B Hf sd σ H _ sr (Po.bind h λb v ML H1 _ g1 rv h1=>?_)
 have e:b=v:=rv
 subst e
 cases b with
 |true=>rw[AD rfl] at h1 ⊢;exact Po.ret (R:=rQ) g1.sub h1 rfl
 |false=>rw[AF CB] at h1 ⊢;exact q2 H0 B ML sd σ H1 Q (sr.gr g1) h1
def Re (f g:Zg->M D)(sd:Zg):M D:=(f sd).bind λd=>(asB d).bind λb=>if b then g sd else .ok (.bl false)
def oN (f:Zg->M D)(sd:Zg):M D:=(f sd).bind λd=>(asB d).bind λb=>.ok (.bl (!b))
def Cu (c:Zg->M Bool)(f g:Zg->M D)(sd:Zg):M D:=(c sd).bind λb=>if b then f sd else g sd
def Ah {op}{f:Zg->M D}(h:Xq X E a f):Xq X E (.BoolOp op [a] pos) f:=by
 obtain⟨t,p,q⟩:=h
 exact⟨t,zW p,q⟩
def zQ {d:D}{b:Bool}(h:asB d=.ok b):d=.bl b:=by
 unfold asB at h
 split at h
 .cases h;rfl
 .cases h
def Zdg {d:D}{x:XV}(h:asB d=.ex x):False:=by
 unfold asB at h
 split at h<;>cases h
theorem Po.asB {K:PySem.W.Frag}{α β:Type}{R:Hp->Hp->α->β->Prop}{Hf H:Hp}{d:D}{k:Bool->M α}{Q:β->Hp->Prop}(h:Po K E R Hf H ((asB d).bind k) Q):∃b,d=.bl b/\Po K E R Hf H (k b) Q:=by
 cases q:DL.asB d with
 |ok b=>rw[q] at h;exact⟨b,zQ q,h⟩
 |ex x=>exact(Zdg q).elim
 |bad=>rw[q] at h;exact h.elim
def Tp {rest:List Expr}{f g:Zg->M D}(h:Xq X E a f)(h2:Xq X E (.BoolOp .And (b::rest) pos) g):Xq X E (.BoolOp .And (a::b::rest) pos) (Re f g):=by
 obtain⟨t,p,q⟩:=h
 obtain⟨t2,p2,q2⟩:=h2
 refine⟨_,zJ p p2,λH0 B Hf sd σ H Q sr h=>?_⟩
 refine q H0 B Hf sd σ H _ sr (Po.bind h λd v ML H1 _ g1 rv h1=>?_)
 obtain⟨c,rfl,h2⟩:=Po.asB h1
 refine⟨c,rep_bl.mp rv,?_⟩
 cases c with
 |true=>rw[AD rfl] at h2 ⊢;exact q2 H0 B ML sd σ H1 Q (sr.gr g1) h2
 |false=>rw[AF CB] at h2 ⊢;exact Po.ret (R:=rV X.K) g1.sub h2 (rep_bl.mpr rfl)
def zP {f:Zg->M D}(h:Xq X E a f):Xq X E (.UnaryOp .Not a pos) (oN f):=by
 obtain⟨t,p,q⟩:=h
 refine⟨_,zI p,λH0 B Hf sd σ H Q sr h=>?_⟩
 refine q H0 B Hf sd σ H _ sr (Po.bind h λd v ML H1 _ g1 rv h1=>?_)
 obtain⟨c,rfl,h2⟩:=Po.asB h1
 exact⟨c,rep_bl.mp rv,Po.ret (R:=rV X.K) g1.sub h2 (rep_bl.mpr rfl)⟩
def Kv {c:Expr}{f g:Zg->M D}{k:Zg->M Bool}(hc:M7 X E c k)(h:Xq X E a f)(h2:Xq X E b g):Xq X E (.IfExp c a b pos) (Cu k f g):=by
 obtain⟨t,p,q⟩:=hc
 obtain⟨t1,p1,q1⟩:=h
 obtain⟨t2,p2,q2⟩:=h2
 refine⟨_,C3 p p1 p2,λH0 B Hf sd σ H Q sr h=>?_⟩
 refine q H0 B Hf sd σ H _ sr (Po.bind h λc v ML H1 _ g1 rv h1=>?_)
 have e:c=v:=rv
 subst e
 cases c with
 |true=>rw[AD rfl] at h1 ⊢;exact q1 H0 B ML sd σ H1 Q (sr.gr g1) h1
 |false=>rw[AF CB] at h1 ⊢;exact q2 H0 B ML sd σ H1 Q (sr.gr g1) h1
end
section
variable {X:Cx}{E:XK}{pos:Pos}{a b:Expr}
def Yp (sd:Zg):M O:=.ok (.nx sd)
def Zz (f g:Zg->M O)(sd:Zg):M O:=(f sd).bind λo=>match o with
 |.nx sd'=>g sd'
 |o=>.ok o
def Qd:N5 X E [] Yp:=⟨_,Sz,λ_ _ Hf _ _ _ _ sr h=>h _ Hf _ (Same.refl _) sr⟩
def Zl {st:Stmt}{f:Zg->M O}(h:N4 X E st f):N5 X E [st] f:=by
 obtain⟨t,p,q⟩:=h
 exact⟨t,Xu p,q⟩
def Zh {st:Stmt}{rest:List Stmt}{f g:Zg->M O}(h:N4 X E st f)(h2:N5 X E rest g):N5 X E (st::rest) (Zz f g):=by
 obtain⟨t,p,q⟩:=h
 obtain⟨t2,p2,q2⟩:=h2
 refine⟨_,Qg p p2,λH0 B Hf sd σ H D sr h=>?_⟩
 refine q H0 B Hf sd σ H _ sr ?_
 unfold Zz at h
 cases e:f sd with
 |ok o=>
  rw[e] at h
  cases o with
  |nx sd'=>exact λσ' MJ H' e' sr'=>q2 H0 B MJ sd' σ' H' D sr' (PoS.weak e' h)
  |rt s=>exact h
  |bk sd'=>exact h
  |ct sd'=>exact h
 |ex x=>rw[e] at h;exact h
 |bad=>rw[e] at h;exact h
def Qa (i:Nat)(f:Zg->M D)(sd:Zg):M O:=(f sd).bind λd=>.ok (.nx (sd.set i (some (.im d))))
def Zs (i:Nat){x:Str}{e:Expr}{f:Zg->M D}{pos':Pos}(hN:X.N.Nodup)(h:Xq X E e f)(hi:X.N[i]?=some x:=by rfl)(hx:WN X.env.scope x:=by trivial)(hs:swapsWith e (some (.Name x pos')) pos.line X.env=pure false:=by rfl)(hf:X.fn x=true\/X.env.scope.names.lookup x=some .local:=by first|exact .inl rfl|exact .inr rfl|assumption):
  N4 X E (.Assign [.Name x pos'] e pos) (Qa i f):=by
 obtain⟨t,p,q⟩:=h
 refine⟨_,K3 hN hi hx p hs hf,λH0 B Hf sd σ H D sr h=>?_⟩
 refine q H0 B Hf sd σ H _ sr (PoS.bind sr h λd v ML H1 _ g1 sr1 rv h1=>?_)
 exact h1 _ ML H1 (Same.refl _) (sr1.set_im i rv)
def Qs (f:Zg->M D)(sd:Zg):M O:=(f sd).bind λd=>.ok (.rt (.im d))
def Zv {e:Expr}{f:Zg->M D}(h:Xq X E e f):N4 X E (.Return (some e) pos) (Qs f):=by
 obtain⟨t,p,q⟩:=h
 refine⟨_,G8 p,λH0 B Hf sd σ H D sr h=>?_⟩
 refine q H0 B Hf sd σ H _ sr (PoS.bind sr h λd v ML H1 _ g1 sr1 rv h1=>?_)
 exact h1 v ML H1 (Same.refl _) sr1.fin rv
def Js (c:Zg->M Bool)(f g:Zg->M O)(sd:Zg):M O:=(c sd).bind λb=>if b then f sd else g sd
def Ql {c:Expr}{xs ys:List Stmt}{k:Zg->M Bool}{f g:Zg->M O}(hc:M7 X E c k)(h:N5 X E xs f)(h2:N5 X E ys g):N4 X E (.If c xs ys pos) (Js k f g):=by
 obtain⟨t,p,q⟩:=hc
 obtain⟨t1,p1,q1⟩:=h
 obtain⟨t2,p2,q2⟩:=h2
 refine⟨_,Ih p p1 p2,λH0 B Hf sd σ H D sr h=>?_⟩
 refine q H0 B Hf sd σ H _ sr (PoS.bind (R:=rQ) sr h λc v ML H1 _ g1 sr1 rv h1=>?_)
 have e:c=v:=rv
 subst e
 cases c with
 |true=>rw[AD rfl] at h1 ⊢;exact q1 H0 B ML sd σ H1 D sr1 h1
 |false=>rw[AF CB] at h1 ⊢;exact q2 H0 B ML sd σ H1 D sr1 h1
def Y9 (c:Zg->M Bool)(f:Zg->M O):Nat->Zg->M O
 |0,_=>.bad
 |n+1,sd=>(c sd).bind λb=>if b then((f sd).bind λo=>match o with
   |.nx sd'=>Y9 c f n sd'
   |.ct sd'=>Y9 c f n sd'
   |.bk sd'=>.ok (.nx sd')
   |.rt s=>.ok (.rt s)) else .ok (.nx sd)
open Classical in
noncomputable def Nb (c:Zg->M Bool)(f:Zg->M O)(sd:Zg):M O:=if h:∃n,Y9 c f n sd≠.bad then Y9 c f (choose h) sd else .bad
theorem Ua (c:Zg->M Bool)(f:Zg->M O):∀(n m:Nat) (sd:Zg),n<=m->Y9 c f n sd≠.bad->Y9 c f m sd=Y9 c f n sd
 |0,_,_,_,h=>absurd rfl h
 |n+1,0,_,hm,_=>absurd hm (by lia)
 |n+1,m+1,sd,hm,h=>by
  unfold Y9 at h ⊢
  cases e:c sd with
  |ok b=>
   rw[e] at h
   simp only[M.bind_ok] at h ⊢
   cases b with
   |false=>rfl
   |true=>
    simp only[DW] at h ⊢
    cases e2:f sd with
    |ok o=>
     rw[e2] at h
     simp only[M.bind_ok] at h ⊢
     cases o with
     |nx sd'=>exact Ua c f n m sd' (by lia) h
     |ct sd'=>exact Ua c f n m sd' (by lia) h
     |bk sd'=>rfl
     |rt s=>rfl
    |ex x=>rfl
    |bad=>rfl
  |ex x=>rfl
  |bad=>rfl
def M8 {c:Zg->M Bool}{f:Zg->M O}{n:Nat}{sd:Zg}(h:Y9 c f n sd≠.bad):Nb c f sd=Y9 c f n sd:=by
 unfold Nb
 have hx:∃n,Y9 c f n sd≠.bad:=⟨n,h⟩
 rw[dif_pos hx]
 have h2:=Classical.choose_spec hx
 rcases Nat.le_total n (Classical.choose hx) with l|l
 .exact Ua c f _ _ sd l h
 .exact(Ua c f _ _ sd l h2).symm
def M9 {c:Expr}{body:List Stmt}{k:Zg->M Bool}{f:Zg->M O}(hp:PassesOwn (model X.prog X.w) X.A X.env X.xe)(hc:M7 X E c k)(h:N5 X E body f):N4 X E (.While c body [] pos) (Nb k f):=by
 obtain⟨t,p,q⟩:=hc
 obtain⟨t1,p1,q1⟩:=h
 refine⟨_,C4 hp p p1,λH0 B Hf sd σ H D sr h=>?_⟩
 obtain⟨n,hn⟩:∃n,PoS X.K E H0 B Hf (Y9 k f n sd) D:=by
  unfold Nb at h
  split at h
  .exact⟨_,h⟩
  .exact h.elim
 refine⟨λm σ' H'=>∃MJ sd',Same Hf MJ/\SR X.K H0 B MJ sd' σ' H'/\PoS X.K E H0 B MJ (Y9 k f m sd') D,⟨n,Hf,sd,Same.refl _,sr,hn⟩,?_⟩
 rintro m σ1 H1 ⟨ML,sd1,e1,sr1,h1⟩
 cases m with
 |zero=>exact h1.elim
 |succ m=>
  unfold Y9 at h1
  refine q H0 B ML sd1 σ1 H1 _ sr1 (PoS.bind (R:=rQ) sr1 h1 λc v MT H2 _ g2 sr2 rv h2=>?_)
  have e:c=v:=rv
  subst e
  cases c with
  |false=>
   rw[AF CB] at h2 ⊢
   exact h2 σ1 MT H2 (Same.refl _) sr2
  |true=>
   rw[AD rfl] at h2 ⊢
   refine⟨λσ' H'=>∃MJ sd',Same Hf MJ/\SR X.K H0 B MJ sd' σ' H'/\PoS X.K E H0 B MJ (Y9 k f m sd') D,λσ' H' w=>⟨m,DS m,w⟩,?_⟩
   refine q1 H0 B MT sd1 σ1 H2 _ sr2 ?_
   cases e2:f sd1 with
   |ok o=>
    rw[e2] at h2
    cases o with
    |nx sd'=>exact λσ' MJ H' e' sr'=>⟨MJ,sd',e1.trans (g2.fz.trans e'),sr',PoS.weak e' h2⟩
    |ct sd'=>exact λσ' MJ H' e' sr'=>⟨MJ,sd',e1.trans (g2.fz.trans e'),sr',PoS.weak e' h2⟩
    |bk sd'=>exact h2
    |rt s=>exact h2
   |ex x=>rw[e2] at h2;exact h2
   |bad=>rw[e2] at h2;exact h2
end
section
variable {prog:Program}{w:World}{A:Around}{E:Value->Shared->Prop}
theorem Ba {it t:Addr}{items:Array Value}(hne:t≠it):∀(n i:Nat) (s:Shared) (Q:List Value->Shared->Prop),s.heap.IsListIter it t i->s.heap.IsList t items->i+n<=items.size ->
  (∀h',h'.IsListIter it t (i+n)->Heap.SameBut it s.heap h'->Q ((items.toList.drop i).take n) {s with heap:=h'})->wpAny (model prog w) A (draw (.ref it) n) Q E s
 |0,i,s,Q,hit,_,_,hQ=>by
  show wpAny _ _ (pure []) Q E s
  exact AG (by simpa using hQ s.heap hit (Heap.SameBut.refl ..))
 |n+1,i,s,Q,hit,ht,hle,hQ=>by
  have OF:i<items.size:=by lia
  show wpAny _ _ (pyNext (.ref it)>>=_) Q E s
  refine AA (LD hit ht (x:=items[i]) (by simp[OF]) λh₁ UX hs₁=>?_)
  refine AA (CO (Ba hne n (i+1) _ _ UX (ht.extBut hs₁.extBut hne) (by lia) λh₂ bK jZ=>AG ?_))
  have hd:items.toList.drop i=items[i]::items.toList.drop (i+1):=by simp[CM,OF]
  have:=hQ h₂ (by rw[show i+(n+1)=i+1+n by lia];exact bK) (hs₁.trans jZ)
  rw[hd,JY] at this
  exact this
def Rf {s:Shared}{t:Addr}{items:Array Value}{Q:List Value->Shared->Prop}(hh:A.handled=none)(ht:s.heap.IsList t items)(hQ:∀h',Heap.ExtBut s.heap.objs.size s.heap h'->Q items.toList {s with heap:=h'}):wpAny (model prog w) A (unpackItems (.ref t) items.size none) Q E s:=by
 have OF:t≠s.heap.objs.size:=by obtain⟨o,ho,_⟩:=ht;exact AK (AN ho)
 unfold unpackItems
 refine AA ?_
 .unfold notIterableAtAll
  refine AA (IY ht.typeIs slot_list_iter.lookup ?_)
  refine AG ?_
  simp only[CS,DM]
  refine AA (CO (EM ht ?_))
  refine AA (CO (Ba OF items.size 0 _ _ ⟨_,AO _ rfl,rfl,rfl⟩ (ht.push _) (by lia) λh₁ UX hs₁=>?_))
  have hall:List.take items.size (List.drop 0 items.toList)=items.toList:=by
   rw[GS];exact JE (by simp)
  rw[hall]
  rw[AF (by simp)]
  have uE:h₁.IsList t items:=(ht.push _).extBut hs₁.extBut OF
  refine AA (CO (LQ hh UX uE (by simp) λh₂ he₂=>?_))
  simp only[KG,CS,DM]
  refine AG (hQ h₂ λb o hb e=>he₂ b o hb (hs₁.extBut b o hb (AB _ e)))
def N9 {s:Shared}{env:Env}{elts:List Expr}{x1}{pos:Pos}{t:Addr}{items:Array Value}{Q:Unit->Shared->Prop}(hh:A.handled=none)(ht:s.heap.IsList t items)(hn:(assignEach elts env).length=items.size)(XE:(assignEach elts env).findIdx? (·.1)=none)(h:∀h',Heap.ExtBut s.heap.objs.size s.heap h'->wpAny (model prog w) A (assignInOrder ((assignEach elts env).map (·.2)) items.toList) Q E {s with heap:=h'}):
  wpAny (model prog w) A (assign (.Tuple elts x1 pos) env (.ref t)) Q E s:=by
 rw[assign_Tuple]
 refine AA (FQ ?_)
 unfold unpack
 rw[hn,XE]
 exact AA (CO (Rf hh ht h))
def Fv (x:Str):List V:=x.cps.toList.map λc=>V.str ⟨#[c]⟩
theorem Dg {it:Addr}{x:Str}{t:Tok}:∀(n i:Nat) (s:Shared) (Q:List Value->Shared->Prop),s.heap.IsStrIter it "str_ascii_iterator" x t i->i+n<=x.cps.size ->
  (∀h' tk us,h'.IsStrIter it "str_ascii_iterator" x t (i+n)->Heap.SameBut it s.heap h'->Vals (((Fv x).drop i).take n) us->Q us {s with heap:=h',toks:=tk})->wpAny (model prog w) A (draw (.ref it) n) Q E s
 |0,i,s,Q,hit,_,hQ=>by
  show wpAny _ _ (pure []) Q E s
  exact AG (hQ s.heap s.toks [] hit (Heap.SameBut.refl ..) (by simpa using Paired.nil))
 |n+1,i,s,Q,hit,hle,hQ=>by
  have OF:i<x.cps.size:=by lia
  show wpAny _ _ (pyNext (.ref it)>>=_) Q E s
  refine AA (wpAny_pyNext_ascii_item hit (c:=x.cps[i]) (by simp[OF]) λh₁ UX hs₁=>?_)
  refine AA (CO (Dg n (i+1) _ _ UX (by lia) λh₂ tk us bK jZ hv=>AG ?_))
  have hd:(Fv x).drop i=V.str ⟨#[x.cps[i]]⟩::(Fv x).drop (i+1):=by
   have hl:i<(Fv x).length:=by simp[Fv,OF]
   rw[CM hl];simp[Fv]
  refine hQ h₂ tk _ (by rw[show i+(n+1)=i+1+n by lia];exact bK) (hs₁.trans jZ) ?_
  rw[hd,JY]
  exact .cons ⟨_,rfl⟩ hv
def So {s:Shared}{x:Str}{t:Tok}{Q:List Value->Shared->Prop}(hh:A.handled=none)(ha:x.cps.all (·<128)=true)(hQ:∀h' tk us,Heap.ExtBut s.heap.objs.size s.heap h'->Vals (Fv x) us->Q us {s with heap:=h',toks:=tk}):wpAny (model prog w) A (unpackItems (.str x t) x.cps.size none) Q E s:=by
 unfold unpackItems
 refine AA ?_
 .unfold notIterableAtAll
  refine AA (IY (typeIs_str s x t) PySem.F.slot_str_iter.lookup ?_)
  refine AG ?_
  simp only[CS,DM]
  refine AA (CO (wpAny_pyIter_ascii ha ?_))
  refine AA (CO (Dg x.cps.size 0 _ _ ⟨_,AO _ rfl,rfl,rfl⟩ (by lia) λh₁ tk us UX hs₁ hv=>?_))
  have hall:List.take x.cps.size (List.drop 0 (Fv x))=Fv x:=by
   rw[GS];exact JE (by simp[Fv])
  rw[hall] at hv
  have hl:us.length=x.cps.size:=by rw[<-hv.length];simp[Fv]
  rw[AF (by simp[hl])]
  refine AA (CO (wpAny_pyNext_ascii_end hh UX (by simp) λh₂ he₂=>?_))
  simp only[KG,CS,DM]
  refine AG (hQ h₂ tk us (λb o hb e=>he₂ b o hb (hs₁.extBut b o hb (AB _ e))) hv)
def Rg {s:Shared}{env:Env}{elts:List Expr}{x1}{pos:Pos}{x:Str}{t:Tok}{Q:Unit->Shared->Prop}(hh:A.handled=none)(ha:x.cps.all (·<128)=true)(hn:(assignEach elts env).length=x.cps.size)(XE:(assignEach elts env).findIdx? (·.1)=none)(h:∀h' tk us,Heap.ExtBut s.heap.objs.size s.heap h'->Vals (Fv x) us->wpAny (model prog w) A (assignInOrder ((assignEach elts env).map (·.2)) us) Q E {s with heap:=h',toks:=tk}):
  wpAny (model prog w) A (assign (.Tuple elts x1 pos) env (.str x t)) Q E s:=by
 rw[assign_Tuple]
 refine AA (FQ ?_)
 unfold unpack
 rw[hn,XE]
 exact AA (CO (So hh ha h))
end
section
variable {X:Cx}{pos:Pos}
def oM (K:PySem.W.Frag)(n:Nat)(t:af):TG:=λv σ H Q=>(∃a xs,v=.ref a/\(SqT K H a xs\/SqL K H a xs)/\xs.length=n/\t xs σ H Q)\/∃x:Str,v=.str x/\x.cps.all (·<128)=true/\x.cps.size=n/\t (Fv x) σ H Q
def qy {es:List Expr}{k:Nat}{t:af}{n:Nat}(hc:X.calm=true)(h:fQ X es t)(hn:(assignEach es X.env).length=n:=by rfl)(P7:(assignEach es X.env).findIdx? (·.1)=none:=by rfl):PG X (.Tuple es k pos) (oM X.K n t):=by
 intro pins s σ H v u Q I r hw
 rcases hw with⟨a,xs,e1,hq,hl,hw⟩|⟨x,e1,ha,hl,hw⟩
 case inr=>
  subst e1
  obtain⟨tk,rfl⟩:=(show ∃t,u=Value.str x t from r)
  refine Rg (I.ok.hd hc) ha (by rw[hn,hl]) P7 λh' tk us hx hv=>?_
  have I1:Inv X pins σ H {s with heap:=h',toks:=tk}:=I.kept (t':=tk) λb o e=>hx b o (AK (AN e)) e
  exact h pins _ σ H (Fv x) _ Q I1 hv hw
 subst e1
 cases r
 rcases hq with hq|hq
 .obtain⟨its,rv,ht,hz⟩:=I.tuple hq
  refine assign_Tuple_tuple (I.ok.hd hc) ht (by simp[hn,<-hl,rv.length]) P7 λh' hx=>?_
  have I1:Inv X pins σ H {s with heap:=h'}:=I.kept (t':=s.toks) λb o e=>hx b o (AK (AN e)) e
  exact h pins _ σ H xs _ Q I1 (by simpa using rv) hw
 .obtain⟨its,rv,ht,hz⟩:=I.list hq
  refine N9 (I.ok.hd hc) ht.isList (by simp[hn,<-hl,rv.length]) P7 λh' hx=>?_
  have I1:Inv X pins σ H {s with heap:=h'}:=I.kept (t':=s.toks) λb o e=>hx b o (AK (AN e)) e
  exact h pins _ σ H xs _ Q I1 (by simpa using rv) hw
end
def aM (X:Cx)(tg:Expr)(g:D->Zg->M Zg):Prop:=
 ∃t:TG,PG X tg t/\∀(H0:Hp) (B:Addr->Prop) (Hf:Hp) (sd:Zg) (σ:L2.St) (H:Hp) (v:V) (d:D) (sd':Zg) (Q:L2.St->Hp->Prop),SR X.K H0 B Hf sd σ H->Rep X.K Hf d v->g d sd=.ok sd' ->
  (∀σ',SR X.K H0 B Hf sd' σ' H->Q σ' H)->t v σ H Q
def ij (X:Cx)(ts:List Expr)(g:List D->Zg->M Zg):Prop:=
 ∃t:af,fQ X ts t/\∀(H0:Hp) (B:Addr->Prop) (Hf:Hp) (sd:Zg) (σ:L2.St) (H:Hp) (vs:List V) (ds:List D) (sd':Zg) (Q:L2.St->Hp->Prop),SR X.K H0 B Hf sd σ H->Reps X.K Hf ds vs->g ds sd=.ok sd' ->
  (∀σ',SR X.K H0 B Hf sd' σ' H->Q σ' H)->t vs σ H Q
section
variable {X:Cx}{E:XK}{pos:Pos}{a b:Expr}
def Xd (i:Nat)(d:D)(sd:Zg):M Zg:=.ok (sd.set i (some (.im d)))
def Z5 (i:Nat){x:Str}(hN:X.N.Nodup)(hi:X.N[i]?=some x:=by rfl)(hx:WN X.env.scope x:=by trivial)(hf:X.fn x=true\/X.env.scope.names.lookup x=some .local:=by first|exact .inl rfl|exact .inr rfl|assumption):
  aM X (.Name x pos) (Xd i):=by
 refine⟨_,S0 hN hi hx hf,λH0 B Hf sd σ H v d sd' Q sr r e h=>?_⟩
 cases e
 exact h _ (sr.set_im i r)
def Ww:List D->Zg->M Zg
 |[],sd=>.ok sd
 |_,_=>.bad
def Q8 (g:D->Zg->M Zg)(gs:List D->Zg->M Zg):List D->Zg->M Zg
 |d::ds,sd=>(g d sd).bind λsd'=>gs ds sd'
 |_,_=>.bad
def Uu:ij X [] Ww:=by
 refine⟨_,Ij,λH0 B Hf sd σ H vs ds sd' Q sr r e h=>?_⟩
 cases ds with
 |nil=>cases e;exact⟨reps_nil.mp r,h σ sr⟩
 |cons d ds=>cases e
def Q5 {es:List Expr}{g:D->Zg->M Zg}{gs:List D->Zg->M Zg}(h1:aM X a g)(h2:ij X es gs)(hs:(assignEach (a::es) X.env).map (·.2)=assign a X.env::(assignEach es X.env).map (·.2):=by rfl):ij X (a::es) (Q8 g gs):=by
 obtain⟨t,p,q⟩:=h1
 obtain⟨t2,p2,q2⟩:=h2
 refine⟨_,Te p p2 hs,λH0 B Hf sd σ H vs ds sd' Q sr r e h=>?_⟩
 cases ds with
 |nil=>cases e
 |cons d ds=>
  obtain⟨v,vr,rfl,rv,rr⟩:=reps_cons.mp r
  cases e1:g d sd with
  |ok sd1=>
   have e':gs ds sd1=.ok sd':=by
    have e:(g d sd).bind (λsd'=>gs ds sd')=.ok sd':=e
    rw[e1] at e
    exact e
   exact⟨v,vr,rfl,q H0 B Hf sd σ H v d sd1 _ sr rv e1 λσ1 sr1=>q2 H0 B Hf sd1 σ1 H vr ds sd' Q sr1 rr e' h⟩
  |ex x=>have e:(g d sd).bind (λsd'=>gs ds sd')=.ok sd':=e;rw[e1] at e;cases e
  |bad=>have e:(g d sd).bind (λsd'=>gs ds sd')=.ok sd':=e;rw[e1] at e;cases e
def Wh (n:Nat)(gs:List D->Zg->M Zg):D->Zg->M Zg
 |.tup ds,sd=>if ds.length=n then gs ds sd else .bad
 |.lst ds,sd=>if ds.length=n then gs ds sd else .bad
 |.str x,sd=>if x.cps.size=n/\x.cps.all (·<128)=true then gs (x.cps.toList.map λc=>.str ⟨#[c]⟩) sd else .bad
 |_,_=>.bad
theorem Dh {K:PySem.W.Frag}{H:Hp}:∀l:List Nat,Reps K H (l.map λc=>D.str ⟨#[c]⟩) (l.map λc=>V.str ⟨#[c]⟩)
 |[]=>Reps.nil
 |_::l=>Reps.cons (rep_str.mpr rfl) (Dh l)
def Gj {es:List Expr}{k:Nat}{gs:List D->Zg->M Zg}{n:Nat}(hc:X.calm=true)(h:ij X es gs)(hn:(assignEach es X.env).length=n:=by rfl)(P7:(assignEach es X.env).findIdx? (·.1)=none:=by rfl):aM X (.Tuple es k pos) (Wh n gs):=by
 obtain⟨t,p,q⟩:=h
 refine⟨_,qy hc p hn P7,λH0 B Hf sd σ H v d sd' Q sr r e h=>?_⟩
 unfold Wh at e
 split at e
 .rename_i ds
  split at e
  .rename_i hl
   obtain⟨a,xs,rfl,ha,hr⟩:=Qh r
   exact .inl ⟨a,xs,rfl,.inl (Same.seqT sr.sub ha),by rw[<-hr.length];exact hl,q H0 B Hf sd σ H xs ds sd' Q sr hr e h⟩
  .cases e
 .rename_i ds
  split at e
  .rename_i hl
   obtain⟨a,xs,rfl,ha,hr⟩:=rep_lst.mp r
   exact .inl ⟨a,xs,rfl,.inr (sr.sub.seq ha),by rw[<-hr.length];exact hl,q H0 B Hf sd σ H xs ds sd' Q sr hr e h⟩
  .cases e
 .rename_i x
  split at e
  .rename_i hl
   exact .inr ⟨x,rep_str.mp r,hl.2,hl.1,q H0 B Hf sd σ H (Fv x) _ sd' Q sr (Dh x.cps.toList) e h⟩
  .cases e
 .cases e
def Sq (f:Zg->M D)(g:D->Zg->M Zg)(sd:Zg):M O:=(f sd).bind λd=>match g d sd with
 |.ok sd'=>.ok (.nx sd')
 |_=>.bad
def Pa {e tg:Expr}{f:Zg->M D}{g:D->Zg->M Zg}(h:Xq X E e f)(hg:aM X tg g)(hs:swapsWithSole [tg] e pos.line X.env=pure false:=by rfl)(hw:swappedStores [tg] e X.env=pure none:=by rfl)(h1:(assignEach [tg] X.env).map (·.2)=[assign tg X.env]:=by rfl):N4 X E (.Assign [tg] e pos) (Sq f g):=by
 obtain⟨t,p,q⟩:=h
 obtain⟨i7,pg,qg⟩:=hg
 refine⟨_,zH p pg hs hw h1,λH0 B Hf sd σ H D sr h=>?_⟩
 refine q H0 B Hf sd σ H _ sr (PoS.bind sr h λd v ML H1 _ g1 sr1 rv h1=>?_)
 split at h1
 .rename_i sd' e1
  exact qg H0 B ML sd σ H1 v d sd' _ sr1 rv e1 λσ' sr'=>h1 σ' ML H1 (Same.refl _) sr'
 .exact h1.elim
def Rh (i j:Nat)(fs:Zg->M (List D))(sd:Zg):M O:=(fs sd).bind λds=>match ds with
 |[d,e]=>.ok (.nx ((sd.set i (some (.im d))).set j (some (.im e))))
 |_=>.bad
def Ai (i j:Nat){x y:Str}{fs:Zg->M (List D)}{px py pt:Pos}{kt k2 WO}(hc:X.calm=true)(hN:X.N.Nodup)(ha:L9 X E [a,b] fs)(hw:swappedStores [.Tuple [.Name x px,.Name y py] kt pt] (.Tuple [a,b] k2 WO) X.env=pure (some [x,y]))(hi:X.N[i]?=some x:=by rfl)(hj:X.N[j]?=some y:=by rfl)(cM:i≠j:=by decide)(hx:X.env.scope.names.lookup x=some .local:=by rfl)(hy:X.env.scope.names.lookup y=some .local:=by rfl)(hs:swapsWithSole [.Tuple [.Name x px,.Name y py] kt pt] (.Tuple [a,b] k2 WO) pos.line X.env=pure false:=by rfl):
  N4 X E (.Assign [.Tuple [.Name x px,.Name y py] kt pt] (.Tuple [a,b] k2 WO) pos) (Rh i j fs):=by
 obtain⟨t,p,q⟩:=ha
 refine⟨_,zG hc hN hi hj cM hx hy p hw hs,λH0 B Hf sd σ H D sr h=>?_⟩
 refine q H0 B Hf sd σ H _ sr (PoS.bind sr h λds vs ML H1 _ g1 sr1 rs h1=>?_)
 split at h1
 .rename_i d e
  obtain⟨v,w,rfl,rv,QW⟩:=Df rs
  exact⟨v,w,rfl,h1 _ ML H1 (Same.refl _) ((sr1.set_im i rv).set_im j QW)⟩
 .exact h1.elim
def S.toD:S->M D
 |.im d=>.ok d
 |.ow ds=>.ok (.lst ds)
 |.od _=>.bad
 |.dk _=>.bad
 |.xc _=>.bad
 |.fn _=>.bad
 |.ob _ _ _=>.bad
 |.fl _ _ _=>.bad
def R9 (K:PySem.W.Frag)(F:List D->M S):Sp:=λvs H Q _=>∃Hf ds s,Same Hf H/\Reps K Hf ds vs/\F ds=.ok s/\∀v MJ H',Gr Hf H MJ H'->RS K H MJ H' s v->Q v H'
def Wx (r:M O):M S:=r.bind λo=>match o with
 |.rt s=>.ok s
 |.nx _=>.ok (.im .non)
 |_=>.bad
def V5 (n m:Nat)(f:Zg->M O)(ds:List D):M S:=if ds.length=n then Wx (f (ds.map (λd=>some (S.im d))++List.replicate m none)) else .bad
def Tq {K:PySem.W.Frag}{N:List Str}{Hf H:Hp}{ds:List D}{vs:List V}{m:Nat}(e:Same Hf H)(r:Reps K Hf ds vs)(hN:N.length=ds.length+m):
  SR K H (λa=>Lv H a/\Hf a=none) Hf (ds.map (λd=>some (S.im d))++List.replicate m none) (L2.Je N vs) H where
 sub:=e
 all:=Same.refl _
 ban:=λ_ h=>h.2
 bt:=λ_ h=>h.1
 len:=by
  unfold L2.Je
  have:=r.length
  simp only[AJ,AC,CP]
  lia
 imS:=λi d hi hz=>by
  unfold L2.Je
  by_cases hl:i<ds.length
  .rw[BC (by simpa using hl),BE] at hi
   cases q:ds[i]? with
   |none=>rw[q] at hi;cases hi
   |some d'=>
    rw[q] at hi
    cases hi
    obtain⟨v,e1,e2⟩:=r.get q
    refine⟨v,?_,e2⟩
    have:i<vs.length:=(AE.mp e1).1
    rw[BC (by simpa using this),BE,e1]
    rfl
  .rw[BW (by simpa using hl),CQ] at hi
   split at hi<;>cases hi
 ow:=λi t hi ho=>by
  by_cases hl:i<ds.length
  .rw[BC (by simpa using hl),BE] at hi
   cases q:ds[i]? with
   |none=>rw[q] at hi;cases hi
   |some d'=>rw[q] at hi;cases hi;cases ho
  .rw[BW (by simpa using hl),CQ] at hi
   split at hi<;>cases hi
 sep:=λi j t _ p _ hi ho _ _ _ _=>by
  by_cases hl:i<ds.length
  .rw[BC (by simpa using hl),BE] at hi
   cases q:ds[i]? with
   |none=>rw[q] at hi;cases hi
   |some d'=>rw[q] at hi;cases hi;cases ho
  .rw[BW (by simpa using hl),CQ] at hi
   split at hi<;>cases hi
def Jl {P:Program}{w:World}{K:PySem.W.Frag}{mg:Str->Option Value}{base:Heap}{x qual:Str}{st:Stmt}{f:Addr}{fd:FuncData}{N ps:List Str}{k m n:Nat}{fb:Zg->M O}(F:Fun K x qual st f fd)(sc:MK N ps (Zf st))(hn:ps.length=n)(hN:N.length=n+m)(OH:∀(MP:Value) (A:Around) (outer:List Env) (s:Shared) (H:Hp) (E:XK),Room k (A.deeper (envOfC qual (Zf st) s.heap.objs.size f MP)) ->
   N5 (Xo Yf P w K mg base N qual (Zf st) f MP A outer s H E).nox E0 (Xe st) fb):MM P w K mg base Yf (k+1) f fd ps (R9 K (V5 n m fb)):=by
 refine F.ok sc (λvs H Q E h=>?_) (λMP A outer s H vs Q E hr h=>?_)
 .obtain⟨Hf,ds,s,e,r,hF,_⟩:=h
  unfold V5 at hF
  split at hF
  .rename_i hl
   rw[<-r.length,hl,hn]
  .cases hF
 .obtain⟨Hf,ds,s',e,r,hF,q⟩:=h
  obtain⟨t,p,qt⟩:=OH MP A outer s H E hr
  unfold V5 at hF
  split at hF
  .rename_i hl
   refine⟨t,p,qt H _ Hf _ (L2.Je N vs) H _ (Tq (N:=N) (m:=m) e r (by lia)) ?_⟩
   generalize fb (List.map (λd=>some (S.im d)) ds++List.replicate m none)=ro at hF
   have back:∀{v:V}{MJ H':Hp}{s:DL.S},Same Hf MJ->UF H (λa=>Lv H a/\Hf a=none) MJ H'->RS K H MJ H' s v->s=s'->Q v H':=λ{v MJ H' s} e1 e2 e3 e4=>by
    subst e4
    exact q v MJ H' ⟨e1,e2.sub,e2.all,λa h1 h2=>e2.ban a ⟨h1,h2⟩⟩ e3
   cases ro with
   |ok o=>
    cases o with
    |rt s2=>
     have e':s2=s':=by cases hF;rfl
     exact λv MJ H' e1 e2 e3=>back e1 e2 e3 e'
    |nx sd'=>
     have e':DL.S.im .non=s':=by cases hF;rfl
     exact λσ' MJ H' e1 sr'=>back (v:=.non) (s:=DL.S.im .non) e1 sr'.fin (show Rep K MJ .non .non from rep_non.mpr rfl) e'
    |bk sd'=>cases hF
    |ct sd'=>cases hF
   |ex x=>cases hF
   |bad=>cases hF
  .cases hF
def Zu (F:List D->M S)(fs:Zg->M (List D))(sd:Zg):M D:=(fs sd).bind λds=>match F ds with
 |.ok s=>s.toD
 |_=>.bad
def Xh {k:Nat}{f:Addr}{fd:FuncData}{ps:List Str}{F:List D->M S}{x:Str}{p:Pos}{es:List Expr}{fs:Zg->M (List D)}(G:MM X.prog X.w X.K X.mg X.base Yf k f fd ps (R9 X.K F))(hr:Room k X.A)(hm:X.mg x=some (.ref f))(hk:PySem.W.keepIn X.K (.ref f)=true)(hb:Binds X.K fd ps [])(ha:L9 X E (a::es) fs)(hg:Gl X x:=by rfl) (QA:(x==("__debug__":Str))=false:=by decide) (he:starEach (a::es) X.env=(false,eval a X.env)::starEach es X.env:=by rfl) (ND:(backTo pos (starEach es X.env)).any (·.1)=false:=by rfl):
  Xq X E (.Call (.Name x p) (a::es) [] pos) (Zu F fs):=by
 obtain⟨t,pt,qt⟩:=ha
 refine⟨_,Ka (dvs:=[]) (E:=E0) G hr hg hm hk hb .nil Jj pt QA he ND,λH0 B Hf sd σ H Q sr h=>?_⟩
 refine qt H0 B Hf sd σ H _ sr (Po.bind h λds vs ML H1 _ g1 rs h1=>?_)
 split at h1
 .rename_i s e
  refine⟨ML,ds,s,g1.sub,by rw[BP];exact rs,e,λv MJ H' g2 rv=>?_⟩
  cases s with
  |im d=>exact h1 v MJ H' g2 rv
  |ow es=>
   obtain⟨p,rfl,e1,e2,xs,e3,e4⟩:=rv
   refine h1 _ (upd MJ p (.lst xs)) H' ⟨g2.fz.trans (Qc e2 _),λb u q=>?_,g2.all,λa h1 h2=>?_⟩ (rep_lst.mpr ⟨p,xs,rfl,SqL.of Zq,e4.mono (Qc e2 _)⟩)
   .by_cases hb:b=p
    .subst hb;rw[Zq] at q;rw[e3];exact q
    .rw[Zm hb] at q;exact g2.sub b u q
   .have:a≠p:=λz=>h1.nn (z▸e1)
    rw[Zm this];exact g2.ban a h1 h2
  |od kvs=>exact h1.elim
  |dk kvs=>exact h1.elim
  |xc x=>exact h1.elim
  |fn x=>exact h1.elim
  |ob a c r=>exact h1.elim
  |fl a g q=>exact h1.elim
 .exact h1.elim
end
mutual
def D.eq:D->D->Bool
 |.non,.non=>true
 |.bl a,.bl b=>a==b
 |.bl a,.int b=>(if a then 1 else 0)==b
 |.int a,.bl b=>a==(if b then 1 else 0)
 |.int a,.int b=>a==b
 |.str a,.str b=>a==b
 |.tup xs,.tup ys=>D.eqs xs ys
 |.lst xs,.lst ys=>D.eqs xs ys
 |_,_=>false
def D.eqs:List D->List D->Bool
 |[],[]=>true
 |x::xs,y::ys=>D.eq x y&&D.eqs xs ys
 |_,_=>false
end
mutual
def D.dep:D->Nat
 |.tup ds=>D.deps ds+1
 |.lst ds=>D.deps ds+1
 |_=>0
def D.deps:List D->Nat
 |[]=>0
 |d::ds=>max (D.dep d) (D.deps ds)
end
mutual
theorem D.eq_refl:∀d:D,D.eq d d=true
 |.non=>by rw[D.eq]
 |.bl b=>by rw[D.eq];simp
 |.int i=>by rw[D.eq];simp
 |.str x=>by rw[D.eq];simp
 |.tup ds=>by rw[D.eq];exact D.eqs_refl ds
 |.lst ds=>by rw[D.eq];exact D.eqs_refl ds
theorem D.eqs_refl:∀ds:List D,D.eqs ds ds=true
 |[]=>by rw[D.eqs]
 |d::ds=>by rw[D.eqs,D.eq_refl d,D.eqs_refl ds];rfl
end
theorem D.eqs_all:∀ds es:List D,D.eqs ds es=((List.range (min ds.length es.length)).all (λj=>D.eq (ds.getD j .non) (es.getD j .non))&&ds.length==es.length)
 |[],[]=>by rw[D.eqs];rfl
 |[],_::_=>by rw[D.eqs];simp;all_goals (intros;simp_all)
 |_::_,[]=>by rw[D.eqs];simp;all_goals (intros;simp_all)
 |d::ds,e::es=>by
  have h:min (d::ds).length (e::es).length=min ds.length es.length+1:=by simp only[AH];lia
  rw[D.eqs,D.eqs_all ds es,h,GI,FK,JH,IE]
  congr 1
  simp only[AH]
  congr 1
  by_cases q:ds.length=es.length
  .simp[q]
  .have q':¬ds.length+1=es.length+1:=by lia
   simp[q]
section
variable {X:Cx}{pins:List (Addr×Obj)}{σ:L2.St}{H:Hp}{s:Shared}
def qx (I:Inv X pins σ H s){a:Addr}{xs ys:List V}(h1:SqT X.K H a xs)(h2:SqL X.K H a ys):False:=by
 obtain⟨its,_,⟨o,e,c,_⟩,_⟩:=I.tuple h1
 obtain⟨its2,_,p,_⟩:=I.list h2
 obtain⟨o2,e2,c2,_⟩:=p.isList
 rw[e] at e2
 cases e2
 rw[c] at c2
 exact absurd c2 (by decide)
mutual
theorem Pb (I:Inv X pins σ H s):∀(d d':D) (v:V),Rep X.K H d v->Rep X.K H d' v->d=d'
 |.non,d',v,h1,h2=>by
  rw[rep_non] at h1;subst h1
  cases d' with
  |non=>rfl
  |bl b=>rw[rep_bl] at h2;cases h2
  |int b=>rw[rep_int] at h2;cases h2
  |str b=>rw[rep_str] at h2;cases h2
  |tup b=>rw[rep_tup] at h2;obtain⟨_,_,e,_⟩:=h2;cases e
  |lst b=>rw[rep_lst] at h2;obtain⟨_,_,e,_⟩:=h2;cases e
 |.bl a,d',v,h1,h2=>by
  rw[rep_bl] at h1;subst h1
  cases d' with
  |non=>rw[rep_non] at h2;cases h2
  |bl b=>rw[rep_bl] at h2;cases h2;rfl
  |int b=>rw[rep_int] at h2;cases h2
  |str b=>rw[rep_str] at h2;cases h2
  |tup b=>rw[rep_tup] at h2;obtain⟨_,_,e,_⟩:=h2;cases e
  |lst b=>rw[rep_lst] at h2;obtain⟨_,_,e,_⟩:=h2;cases e
 |.int a,d',v,h1,h2=>by
  rw[rep_int] at h1;subst h1
  cases d' with
  |non=>rw[rep_non] at h2;cases h2
  |bl b=>rw[rep_bl] at h2;cases h2
  |int b=>rw[rep_int] at h2;cases h2;rfl
  |str b=>rw[rep_str] at h2;cases h2
  |tup b=>rw[rep_tup] at h2;obtain⟨_,_,e,_⟩:=h2;cases e
  |lst b=>rw[rep_lst] at h2;obtain⟨_,_,e,_⟩:=h2;cases e
 |.str a,d',v,h1,h2=>by
  rw[rep_str] at h1;subst h1
  cases d' with
  |non=>rw[rep_non] at h2;cases h2
  |bl b=>rw[rep_bl] at h2;cases h2
  |int b=>rw[rep_int] at h2;cases h2
  |str b=>rw[rep_str] at h2;cases h2;rfl
  |tup b=>rw[rep_tup] at h2;obtain⟨_,_,e,_⟩:=h2;cases e
  |lst b=>rw[rep_lst] at h2;obtain⟨_,_,e,_⟩:=h2;cases e
 |.tup ds,d',v,h1,h2=>by
  obtain⟨a,xs,rfl,ha,hr⟩:=Qh h1
  cases d' with
  |non=>rw[rep_non] at h2;cases h2
  |bl b=>rw[rep_bl] at h2;cases h2
  |int b=>rw[rep_int] at h2;cases h2
  |str b=>rw[rep_str] at h2;cases h2
  |tup es=>
   obtain⟨b,ys,e,hb,hr2⟩:=Qh h2
   cases e
   have:=I.tuple_inj ha hb
   subst this
   rw[Tr I ds es xs hr hr2]
  |lst es=>
   obtain⟨b,ys,e,hb,hr2⟩:=rep_lst.mp h2
   cases e
   exact(qx I ha hb).elim
 |.lst ds,d',v,h1,h2=>by
  obtain⟨a,xs,rfl,ha,hr⟩:=rep_lst.mp h1
  cases d' with
  |non=>rw[rep_non] at h2;cases h2
  |bl b=>rw[rep_bl] at h2;cases h2
  |int b=>rw[rep_int] at h2;cases h2
  |str b=>rw[rep_str] at h2;cases h2
  |tup es=>
   obtain⟨b,ys,e,hb,hr2⟩:=Qh h2
   cases e
   exact(qx I hb ha).elim
  |lst es=>
   obtain⟨b,ys,e,hb,hr2⟩:=rep_lst.mp h2
   cases e
   have:=I.list_inj ha hb
   subst this
   rw[Tr I ds es xs hr hr2]
theorem Tr (I:Inv X pins σ H s):∀(ds es:List D) (vs:List V),Reps X.K H ds vs->Reps X.K H es vs->ds=es
 |[],[],_,_,_=>rfl
 |[],e::es,vs,h1,h2=>by
  rw[reps_nil] at h1;subst h1
  obtain⟨_,_,z,_⟩:=reps_cons.mp h2
  cases z
 |d::ds,[],vs,h1,h2=>by
  rw[reps_nil] at h2;subst h2
  obtain⟨_,_,z,_⟩:=reps_cons.mp h1
  cases z
 |d::ds,e::es,vs,h1,h2=>by
  obtain⟨v,r,rfl,a1,a2⟩:=reps_cons.mp h1
  obtain⟨v',r',z,b1,b2⟩:=reps_cons.mp h2
  cases z
  rw[Pb I d e v a1 b1,Tr I ds es r a2 b2]
end
structure Cm (A:Around) (s:Shared) (u v:Value) (b:Bool):Prop where
 rc:SeqAt.RcAt A s u v b
 ne:SeqAt.RcNeAt A s u v (!b)
 eq:SeqAt.EqAt A s u v b
mutual
theorem Ts (I:Inv X pins σ H s):∀(x y:D) (A:Around) (v w:V) (u1 u2:Value),A.units+x.dep<cLine->Rep X.K H x v->Rep X.K H y w->RelV v u1->RelV w u2->Cm A s u1 u2 (D.eq x y)
 |.non,y,A,v,w,u1,u2,hu,rx,ry,r1,r2=>by
  rw[rep_non] at rx;subst rx
  have r1:u1=Value.none:=r1
  subst r1
  have MY:A.units<cLine:=by lia
  cases y with
  |non=>rw[rep_non] at ry;subst ry;cases (show u2=Value.none from r2);rw[D.eq];exact⟨.none_none,.none_none,.same _⟩
  |bl b=>rw[rep_bl] at ry;subst ry;cases (show u2=Value.bool b from r2);rw[D.eq];exact⟨.none_bool b,.none_bool b,.none_bool b⟩;all_goals (intros;simp_all)
  |int b=>rw[rep_int] at ry;subst ry;obtain⟨t,q⟩:=(show ∃t,u2=Value.int b t from r2);subst q;rw[D.eq];exact⟨.none_int b t,.none_int b t,.none_int b t⟩;all_goals (intros;simp_all)
  |str b=>rw[rep_str] at ry;subst ry;obtain⟨t,q⟩:=(show ∃t,u2=Value.str b t from r2);subst q;rw[D.eq];exact⟨.none_str b t,.none_str b t,.none_str b t⟩;all_goals (intros;simp_all)
  |tup es=>
   obtain⟨p,xs,rfl,hp,hr⟩:=Qh ry
   cases (show u2=Value.ref p from r2)
   obtain⟨its,_,ht,_⟩:=I.tuple hp
   rw[D.eq]
   exact⟨.none_tuple ht MY,.none_tuple ht MY,.none_tuple ht MY⟩
   all_goals (intros;simp_all)
  |lst es=>
   obtain⟨p,xs,rfl,hp,hr⟩:=rep_lst.mp ry
   cases (show u2=Value.ref p from r2)
   obtain⟨its,_,ht,_⟩:=I.list hp
   rw[D.eq]
   exact⟨.none_list ht.isList MY,.none_list ht.isList MY,.none_list ht.isList MY⟩
   all_goals (intros;simp_all)
 |.bl a,y,A,v,w,u1,u2,hu,rx,ry,r1,r2=>by
  rw[rep_bl] at rx;subst rx
  have r1:u1=Value.bool a:=r1
  subst r1
  have MY:A.units<cLine:=by lia
  cases y with
  |non=>rw[rep_non] at ry;subst ry;cases (show u2=Value.none from r2);rw[D.eq];exact⟨.bool_none a,.bool_none a,.bool_none a⟩;all_goals (intros;simp_all)
  |bl b=>rw[rep_bl] at ry;subst ry;cases (show u2=Value.bool b from r2);rw[D.eq];exact⟨.bool_bool a b,.bool_bool a b,.bool_bool a b⟩
  |int b=>rw[rep_int] at ry;subst ry;obtain⟨t,q⟩:=(show ∃t,u2=Value.int b t from r2);subst q;rw[D.eq];exact⟨.bool_int a b t,.bool_int a b t,.bool_int a b t⟩
  |str b=>rw[rep_str] at ry;subst ry;obtain⟨t,q⟩:=(show ∃t,u2=Value.str b t from r2);subst q;rw[D.eq];exact⟨.bool_str a b t,.bool_str a b t,.bool_str a b t⟩;all_goals (intros;simp_all)
  |tup es=>
   obtain⟨p,xs,rfl,hp,hr⟩:=Qh ry
   cases (show u2=Value.ref p from r2)
   obtain⟨its,_,ht,_⟩:=I.tuple hp
   rw[D.eq]
   exact⟨.bool_tuple a ht MY,.bool_tuple a ht MY,.bool_tuple a ht MY⟩
   all_goals (intros;simp_all)
  |lst es=>
   obtain⟨p,xs,rfl,hp,hr⟩:=rep_lst.mp ry
   cases (show u2=Value.ref p from r2)
   obtain⟨its,_,ht,_⟩:=I.list hp
   rw[D.eq]
   exact⟨.bool_list a ht.isList MY,.bool_list a ht.isList MY,.bool_list a ht.isList MY⟩
   all_goals (intros;simp_all)
 |.int a,y,A,v,w,u1,u2,hu,rx,ry,r1,r2=>by
  rw[rep_int] at rx;subst rx
  obtain⟨t1,q1⟩:=(show ∃t,u1=Value.int a t from r1)
  subst q1
  have MY:A.units<cLine:=by lia
  cases y with
  |non=>rw[rep_non] at ry;subst ry;cases (show u2=Value.none from r2);rw[D.eq];exact⟨.int_none a t1,.int_none a t1,.int_none a t1⟩;all_goals (intros;simp_all)
  |bl b=>rw[rep_bl] at ry;subst ry;cases (show u2=Value.bool b from r2);rw[D.eq];exact⟨.int_bool a t1 b,.int_bool a t1 b,.int_bool a t1 b⟩
  |int b=>rw[rep_int] at ry;subst ry;obtain⟨t,q⟩:=(show ∃t,u2=Value.int b t from r2);subst q;rw[D.eq];exact⟨.int_int a t1 b t,.int_int a t1 b t,.int_int a t1 b t⟩
  |str b=>rw[rep_str] at ry;subst ry;obtain⟨t,q⟩:=(show ∃t,u2=Value.str b t from r2);subst q;rw[D.eq];exact⟨.int_str a t1 b t,.int_str a t1 b t,.int_str a t1 b t⟩;all_goals (intros;simp_all)
  |tup es=>
   obtain⟨p,xs,rfl,hp,hr⟩:=Qh ry
   cases (show u2=Value.ref p from r2)
   obtain⟨its,_,ht,_⟩:=I.tuple hp
   rw[D.eq]
   exact⟨.int_tuple a t1 ht MY,.int_tuple a t1 ht MY,.int_tuple a t1 ht MY⟩
   all_goals (intros;simp_all)
  |lst es=>
   obtain⟨p,xs,rfl,hp,hr⟩:=rep_lst.mp ry
   cases (show u2=Value.ref p from r2)
   obtain⟨its,_,ht,_⟩:=I.list hp
   rw[D.eq]
   exact⟨.int_list a t1 ht.isList MY,.int_list a t1 ht.isList MY,.int_list a t1 ht.isList MY⟩
   all_goals (intros;simp_all)
 |.str a,y,A,v,w,u1,u2,hu,rx,ry,r1,r2=>by
  rw[rep_str] at rx;subst rx
  obtain⟨t1,q1⟩:=(show ∃t,u1=Value.str a t from r1)
  subst q1
  have MY:A.units<cLine:=by lia
  cases y with
  |non=>rw[rep_non] at ry;subst ry;cases (show u2=Value.none from r2);rw[D.eq];exact⟨.str_none a t1,.str_none a t1,.str_none a t1⟩;all_goals (intros;simp_all)
  |bl b=>rw[rep_bl] at ry;subst ry;cases (show u2=Value.bool b from r2);rw[D.eq];exact⟨.str_bool a t1 b,.str_bool a t1 b,.str_bool a t1 b⟩;all_goals (intros;simp_all)
  |int b=>rw[rep_int] at ry;subst ry;obtain⟨t,q⟩:=(show ∃t,u2=Value.int b t from r2);subst q;rw[D.eq];exact⟨.str_int a t1 b t,.str_int a t1 b t,.str_int a t1 b t⟩;all_goals (intros;simp_all)
  |str b=>rw[rep_str] at ry;subst ry;obtain⟨t,q⟩:=(show ∃t,u2=Value.str b t from r2);subst q;rw[D.eq];exact⟨.str_str a t1 b t,.str_str a t1 b t,.str_str a t1 b t⟩
  |tup es=>
   obtain⟨p,xs,rfl,hp,hr⟩:=Qh ry
   cases (show u2=Value.ref p from r2)
   obtain⟨its,_,ht,_⟩:=I.tuple hp
   rw[D.eq]
   exact⟨.str_tuple a t1 ht MY,.str_tuple a t1 ht MY,.str_tuple a t1 ht MY⟩
   all_goals (intros;simp_all)
  |lst es=>
   obtain⟨p,xs,rfl,hp,hr⟩:=rep_lst.mp ry
   cases (show u2=Value.ref p from r2)
   obtain⟨its,_,ht,_⟩:=I.list hp
   rw[D.eq]
   exact⟨.str_list a t1 ht.isList MY,.str_list a t1 ht.isList MY,.str_list a t1 ht.isList MY⟩
   all_goals (intros;simp_all)
 |.tup ds,y,A,v,w,u1,u2,hu,rx,ry,r1,r2=>by
  rw[D.dep] at hu
  have MY:A.units<cLine:=by lia
  obtain⟨p1,cD,rfl,dn,hr1⟩:=Qh rx
  cases (show u1=Value.ref p1 from r1)
  obtain⟨its1,rv1,OC,_⟩:=I.tuple dn
  cases y with
  |non=>rw[rep_non] at ry;subst ry;cases (show u2=Value.none from r2);rw[D.eq];exact⟨.tuple_none OC MY,.tuple_none OC MY,.tuple_none OC MY⟩;all_goals (intros;simp_all)
  |bl b=>rw[rep_bl] at ry;subst ry;cases (show u2=Value.bool b from r2);rw[D.eq];exact⟨.tuple_bool b OC MY,.tuple_bool b OC MY,.tuple_bool b OC MY⟩;all_goals (intros;simp_all)
  |int b=>rw[rep_int] at ry;subst ry;obtain⟨t,q⟩:=(show ∃t,u2=Value.int b t from r2);subst q;rw[D.eq];exact⟨.tuple_int b t OC MY,.tuple_int b t OC MY,.tuple_int b t OC MY⟩;all_goals (intros;simp_all)
  |str b=>rw[rep_str] at ry;subst ry;obtain⟨t,q⟩:=(show ∃t,u2=Value.str b t from r2);subst q;rw[D.eq];exact⟨.tuple_str b t OC MY,.tuple_str b t OC MY,.tuple_str b t OC MY⟩;all_goals (intros;simp_all)
  |tup es=>
   obtain⟨p2,dJ,rfl,ZP,hr2⟩:=Qh ry
   cases (show u2=Value.ref p2 from r2)
   obtain⟨its2,rv2,ht2,_⟩:=I.tuple ZP
   have l1:its1.toArray.size=ds.length:=by rw[AL,<-rv1.length,<-hr1.length]
   have l2:its2.toArray.size=es.length:=by rw[AL,<-rv2.length,<-hr2.length]
   have items:=Aj I ds es A.in1 cD dJ its1 its2 (by show A.units+1+_<_;lia) hr1 hr2 rv1 rv2
   have he:∀j (h1:j<its1.toArray.size) (h2:j<its2.toArray.size),SeqAt.EqAt A.in1 s its1.toArray[j] its2.toArray[j] (D.eq (ds.getD j .non) (es.getD j .non)):=λj h1 h2=>by
    refine items j _ _ _ _ ?_ ?_ ?_ ?_
    .rw[BO,AU (by lia)];simp
    .rw[BO,AU (by lia)];simp
    .simp
    .simp
   have rc:=SeqAt.RcAt.tuples OC ht2 MY he
   have ne:=SeqAt.RcNeAt.tuples OC ht2 MY he
   rw[l1,l2,<-D.eqs_all] at rc ne
   rw[D.eq]
   refine⟨rc,ne,?_⟩
   by_cases dh:p1=p2
   .subst dh
    have:=Pb I _ _ _ rx ry
    cases this
    rw[D.eqs_refl]
    exact .same _
   .exact .of_refs dh rc
  |lst es=>
   obtain⟨p2,dJ,rfl,ZP,hr2⟩:=rep_lst.mp ry
   cases (show u2=Value.ref p2 from r2)
   obtain⟨its2,rv2,ht2,_⟩:=I.list ZP
   rw[D.eq]
   exact⟨.tuple_list OC ht2.isList MY,.tuple_list OC ht2.isList MY,.tuple_list OC ht2.isList MY⟩
   all_goals (intros;simp_all)
 |.lst ds,y,A,v,w,u1,u2,hu,rx,ry,r1,r2=>by
  rw[D.dep] at hu
  have MY:A.units<cLine:=by lia
  obtain⟨p1,cD,rfl,dn,hr1⟩:=rep_lst.mp rx
  cases (show u1=Value.ref p1 from r1)
  obtain⟨its1,rv1,pl1,_⟩:=I.list dn
  have OC:=pl1.isList
  cases y with
  |non=>rw[rep_non] at ry;subst ry;cases (show u2=Value.none from r2);rw[D.eq];exact⟨.list_none OC MY,.list_none OC MY,.list_none OC MY⟩;all_goals (intros;simp_all)
  |bl b=>rw[rep_bl] at ry;subst ry;cases (show u2=Value.bool b from r2);rw[D.eq];exact⟨.list_bool b OC MY,.list_bool b OC MY,.list_bool b OC MY⟩;all_goals (intros;simp_all)
  |int b=>rw[rep_int] at ry;subst ry;obtain⟨t,q⟩:=(show ∃t,u2=Value.int b t from r2);subst q;rw[D.eq];exact⟨.list_int b t OC MY,.list_int b t OC MY,.list_int b t OC MY⟩;all_goals (intros;simp_all)
  |str b=>rw[rep_str] at ry;subst ry;obtain⟨t,q⟩:=(show ∃t,u2=Value.str b t from r2);subst q;rw[D.eq];exact⟨.list_str b t OC MY,.list_str b t OC MY,.list_str b t OC MY⟩;all_goals (intros;simp_all)
  |tup es=>
   obtain⟨p2,dJ,rfl,ZP,hr2⟩:=Qh ry
   cases (show u2=Value.ref p2 from r2)
   obtain⟨its2,rv2,ht2,_⟩:=I.tuple ZP
   rw[D.eq]
   exact⟨.list_tuple OC ht2 MY,.list_tuple OC ht2 MY,.list_tuple OC ht2 MY⟩
   all_goals (intros;simp_all)
  |lst es=>
   obtain⟨p2,dJ,rfl,ZP,hr2⟩:=rep_lst.mp ry
   cases (show u2=Value.ref p2 from r2)
   obtain⟨its2,rv2,pl2,_⟩:=I.list ZP
   have ht2:=pl2.isList
   have l1:its1.toArray.size=ds.length:=by rw[AL,<-rv1.length,<-hr1.length]
   have l2:its2.toArray.size=es.length:=by rw[AL,<-rv2.length,<-hr2.length]
   have items:=Aj I ds es A.in1 cD dJ its1 its2 (by show A.units+1+_<_;lia) hr1 hr2 rv1 rv2
   have he:∀j (h1:j<its1.toArray.size) (h2:j<its2.toArray.size),SeqAt.EqAt A.in1 s its1.toArray[j] its2.toArray[j] (D.eq (ds.getD j .non) (es.getD j .non)):=λj h1 h2=>by
    refine items j _ _ _ _ ?_ ?_ ?_ ?_
    .rw[BO,AU (by lia)];simp
    .rw[BO,AU (by lia)];simp
    .simp
    .simp
   have both:SeqAt.RcAt A s (.ref p1) (.ref p2) (D.eqs ds es)/\SeqAt.RcNeAt A s (.ref p1) (.ref p2) (!D.eqs ds es):=by
    by_cases hl:ds.length=es.length
    .have rc:=SeqAt.RcAt.lists OC ht2 (by lia) MY he
     have ne:=SeqAt.RcNeAt.lists OC ht2 (by lia) MY he
     have e:D.eqs ds es=(List.range its1.toArray.size).all λj=>D.eq (ds.getD j .non) (es.getD j .non):=by
      rw[D.eqs_all,l1,<-hl,Nat.min_self];simp
     rw[e]
     exact⟨rc,ne⟩
    .have e:D.eqs ds es=false:=by rw[D.eqs_all];simp[hl]
     rw[e]
     have hs:(its1.toArray.size != its2.toArray.size)=true:=by rw[l1,l2];simpa using hl
     exact⟨.lists_lengths OC ht2 hs MY,.lists_lengths OC ht2 hs MY⟩
   rw[D.eq]
   refine⟨both.1,both.2,?_⟩
   by_cases dh:p1=p2
   .subst dh
    have:=Pb I _ _ _ rx ry
    cases this
    rw[D.eqs_refl]
    exact .same _
   .exact .of_refs dh both.1
theorem Aj (I:Inv X pins σ H s):∀(ds es:List D) (A:Around) (vs ws:List V) (iz iw:List Value),A.units+D.deps ds<cLine->Reps X.K H ds vs->Reps X.K H es ws->Vals vs iz->Vals ws iw ->
  ∀(j:Nat) (d e:D) (u1 u2:Value),ds[j]?=some d->es[j]?=some e->iz[j]?=some u1->iw[j]?=some u2->SeqAt.EqAt A s u1 u2 (D.eq d e)
 |[],_,_,_,_,_,_,_,_,_,_,_,j,_,_,_,_,h,_,_,_=>by simp at h
 |_::_,[],_,_,_,_,_,_,_,_,_,_,j,_,_,_,_,_,h,_,_=>by simp at h
 |d0::ds,e0::es,A,vs,ws,iz,iw,hu,r1,r2,v1,v2,j,d,e,u1,u2,h1,h2,h3,h4=>by
  rw[D.deps] at hu
  obtain⟨x,xr,rfl,a1,a2⟩:=reps_cons.mp r1
  obtain⟨y,yr,rfl,b1,b2⟩:=reps_cons.mp r2
  cases v1 with
  |cons c1 c2=>
   cases v2 with
   |cons d1 d2=>
    cases j with
    |zero=>
     simp at h1 h2 h3 h4
     subst h1 h2 h3 h4
     exact(Ts I d0 e0 A x y _ _ (by lia) a1 b1 c1 d1).eq
    |succ j=>
     simp at h1 h2 h3 h4
     exact Aj I ds es A xr yr _ _ (by lia) a2 b2 c2 d2 j d e u1 u2 h1 h2 h3 h4
end
end
section
variable {X:Cx}{E:XK}{pos:Pos}{a b:Expr}
def Kp (x y:D):M D:=if x.dep<=60 then .ok (.bl (D.eq x y)) else .bad
def Gv (x y:D):M D:=if x.dep<=60 then .ok (.bl (!D.eq x y)) else .bad
def Y2 (hu:X.A.units+64<cLine):Rc X E (compareOp .Eq) Kp:=by
 refine⟨λx y H Q=>∃dx dy,Rep X.K H dx x/\Rep X.K H dy y/\dx.dep<=60/\Q (.bl (D.eq dx dy)) H,λpins s σ H x y v u Q I rx ry h=>?_,λHf H x y dx dy Q e rx ry q=>?_⟩
 .obtain⟨dx,dy,h1,h2,h3,q⟩:=h
  exact(Ts I dx dy X.A x y v u (by lia) h1 h2 rx ry).rc _ _ _ _ ⟨.bl _,H,I,rfl,q⟩
 .unfold Kp at q
  split at q
  .rename_i hd
   exact⟨dx,dy,rx.mono e,ry.mono e,hd,Po.ret e q (rep_bl.mpr rfl)⟩
  .exact q.elim
def Wy (hu:X.A.units+64<cLine):Rc X E (compareOp .NotEq) Gv:=by
 refine⟨λx y H Q=>∃dx dy,Rep X.K H dx x/\Rep X.K H dy y/\dx.dep<=60/\Q (.bl (!D.eq dx dy)) H,λpins s σ H x y v u Q I rx ry h=>?_,λHf H x y dx dy Q e rx ry q=>?_⟩
 .obtain⟨dx,dy,h1,h2,h3,q⟩:=h
  exact(Ts I dx dy X.A x y v u (by lia) h1 h2 rx ry).ne _ _ _ _ ⟨.bl _,H,I,rfl,q⟩
 .unfold Gv at q
  split at q
  .rename_i hd
   exact⟨dx,dy,rx.mono e,ry.mono e,hd,Po.ret e q (rep_bl.mpr rfl)⟩
  .exact q.elim
end
def wG:D->String
 |.non=>"NoneType"
 |.bl _=>"bool"
 |.int _=>"int"
 |.str _=>"str"
 |.tup _=>"tuple"
 |.lst _=>"list"
def hJ (T:String):D->Bool
 |.non=>false
 |.bl _=>T=="bool" || T=="int"
 |.int _=>T=="int"
 |.str _=>T=="str"
 |.tup _=>T=="tuple"
 |.lst _=>T=="list"
def zO (K:PySem.W.Frag)(d:D){T:String} (hT:T∈["int","bool","tuple","list","str"]):PySem.W.kitOne K (.type (wG d)) (.type T)=some (hJ T d):=by
 simp only[AW,LM,or_false] at hT
 rcases hT with rfl|rfl|rfl|rfl|rfl<;>cases d<;>rfl
section
variable {X:Cx}{E:XK}{pos:Pos}{a b:Expr}
def Di {T:String} (hT:T∈["int","bool","tuple","list","str"]):CallR X (.builtin "isinstance") (λxs H Q=>∃x d,xs=[x,.ty T]/\Rep X.K H d x/\Q (.bl (hJ T d)) H):=by
 intro pins s σ H xs us Q I r h
 obtain⟨x,d,rfl,hx,q⟩:=h
 obtain⟨u,w',rfl,r1,r2⟩:=Tj r
 cases (show w'=Value.type T from r2)
 have e:=zO X.K d hT
 have fin:∀tk,EP X pins σ Q (.bool (hJ T d)) {s with toks:=tk}:=λtk=>⟨.bl _,H,I.tok _,rfl,q⟩
 cases d with
 |non=>rw[rep_non] at hx;subst hx;cases (show u=Value.none from r1);exact ER PySem.W.kitx_none I.kIn True.intro e (λz=>nomatch z) fin
 |bl y=>rw[rep_bl] at hx;subst hx;cases (show u=Value.bool y from r1);exact ER PySem.W.kitx_bool I.kIn True.intro e (λz=>nomatch z) fin
 |int y=>rw[rep_int] at hx;subst hx;obtain⟨t,z⟩:=(show ∃t,u=Value.int y t from r1);subst z;exact ER PySem.W.kitx_int I.kIn True.intro e (λz=>nomatch z) fin
 |str y=>rw[rep_str] at hx;subst hx;obtain⟨t,z⟩:=(show ∃t,u=Value.str y t from r1);subst z;exact ER PySem.W.kitx_str I.kIn True.intro e (λz=>nomatch z) fin
 |tup ds=>
  obtain⟨p,ys,rfl,hp,hr⟩:=Qh hx
  cases (show u=Value.ref p from r1)
  obtain⟨its,_,⟨o,h1,h2,_⟩,_⟩:=I.tuple hp
  exact ER PySem.W.kitx_tuple I.kIn ⟨o,h1,h2⟩ e (λz=>nomatch z) fin
 |lst ds=>
  obtain⟨p,ys,rfl,hp,hr⟩:=rep_lst.mp hx
  cases (show u=Value.ref p from r1)
  obtain⟨its,_,pl,_⟩:=I.list hp
  obtain⟨o,h1,h2,_⟩:=pl.isList
  exact ER PySem.W.kitx_list I.kIn ⟨o,h1,h2⟩ e (λz=>nomatch z) fin
def cC (T:String)(f:Zg->M D)(sd:Zg):M D:=(f sd).bind λd=>.ok (.bl (hJ T d))
def Gk (T:String){p p2:Pos}{f:Zg->M D} (hg:Gl X "isinstance") (hm:X.mg "isinstance"=none) (uS:X.mg (Str.ofString T)=none) (ue:Gl X (Str.ofString T)) (uB:bootBuiltins (Str.ofString T)=some (.type T)) (h:Xq X E a f)
  (hT:T∈["int","bool","tuple","list","str"]:=by decide) (uR:(Str.ofString T) ≠ "__name__":=by decide) (ui:((Str.ofString T)==("__debug__":Str))=false:=by decide)
  (he:starEach [a,.Name (Str.ofString T) p2] X.env=(false,eval a X.env)::starEach [.Name (Str.ofString T) p2] X.env:=by rfl) (XJ:starEach [.Name (Str.ofString T) p2] X.env=(false,eval (.Name (Str.ofString T) p2) X.env)::starEach [] X.env:=by rfl)
  (ND:(backTo pos (starEach [.Name (Str.ofString T) p2] X.env)).any (·.1)=false:=by rfl) (hv:bootBuiltins "isinstance"=some (.builtin "isinstance"):=by rfl):
  Xq X E (.Call (.Name "isinstance" p) [a,.Name (Str.ofString T) p2] [] pos) (cC T f):=by
 obtain⟨t,pt,qt⟩:=h
 refine⟨_,C6 (Di hT) hg hm hv (Qm pt (Qm (Zf8 (v:=.ty T) ue uS uB rfl uR ui) Ji XJ) he) (by decide) (by decide) he ND,λH0 B Hf sd σ H Q sr h=>?_⟩
 refine qt H0 B Hf sd σ H _ sr (Po.bind h λd v ML H1 _ g1 rv h1=>?_)
 exact⟨v,d,rfl,Rep.mono g1.sub rv,Po.ret (R:=rV X.K) g1.sub h1 (rep_bl.mpr rfl)⟩
def X9:List D->Option (List Bool)
 |[]=>some []
 |.bl b::r=>(X9 r).map (b::·)
 |_::_=>none
theorem U1 {K:PySem.W.Frag}{H:Hp}:∀{ds:List D}{bs:List Bool}{xs:List V},X9 ds=some bs->Reps K H ds xs->xs=bs.map V.bl
 |[],bs,xs,e,r=>by
  rw[reps_nil.mp r]
  cases e
  rfl
 |.bl b::ds,bs,xs,e,r=>by
  obtain⟨x,t,rfl,h1,h2⟩:=reps_cons.mp r
  unfold X9 at e
  cases q:X9 ds with
  |none=>rw[q] at e;cases e
  |some cs=>
   rw[q] at e
   cases e
   rw[rep_bl.mp h1,U1 q h2]
   rfl
 |.non::_,_,_,e,_=>by cases e
 |.int _::_,_,_,e,_=>by cases e
 |.str _::_,_,_,e,_=>by cases e
 |.tup _::_,_,_,e,_=>by cases e
 |.lst _::_,_,_,e,_=>by cases e
def Iu {bs:List Bool}:∀{us:List Value},Vals (bs.map V.bl) us->us=bs.map Value.bool:=by
 induction bs with
 |nil=>intro us r;cases r;rfl
 |cons b bs ih=>
  intro us r
  cases r with
  |cons r1 r2=>rw[ih r2];cases (show _=Value.bool b from r1);rfl
def Fw (bs:List Bool):((List.range bs.length).all λi=>(bs[i]?).getD true)=bs.all id:=by
 induction bs with
 |nil=>rfl
 |cons b bs ih=>
  rw[AH,GI,FK,JH,FK]
  have:(((λi=>((b::bs)[i]?).getD true)∘Nat.succ):Nat->Bool)=λi=>(bs[i]?).getD true:=by funext i;simp
  rw[this,ih]
  simp
def Fx (bs:List Bool):((List.range bs.length).any λi=>(bs[i]?).getD false)=bs.any id:=by
 induction bs with
 |nil=>rfl
 |cons b bs ih=>
  rw[AH,GI,DF,JG,DF]
  have:(((λi=>((b::bs)[i]?).getD false)∘Nat.succ):Nat->Bool)=λi=>(bs[i]?).getD false:=by funext i;simp
  rw[this,ih]
  simp
def Iv {s:Shared}{h':Heap}{o:Obj}(hk:∀b x,b ∉ [s.heap.objs.size]->(s.heap.push o).get? b=some x->h'.get? b=some x):∀b x,s.heap.get? b=some x->h'.get? b=some x:=
 λb x e=>hk b x (λhm=>by rw[CU.mp hm] at e;exact EO _ (AN e)) (AB _ e)
def Za6 (hc:X.calm=true):CallR X (.builtin "all") (λxs H Q=>∃(p:Addr) (bs:List Bool),xs=[.ref p]/\SqL X.K H p (bs.map V.bl)/\Q (.bl (bs.all id)) H):=by
 intro pins s σ H xs us Q I r h
 obtain⟨p,bs,rfl,hp,q⟩:=h
 obtain⟨u,rfl,rx⟩:=Wp r
 cases rx
 obtain⟨its,rv,pl,_⟩:=I.list hp
 have hl:=pl.isList
 have ei:=Iu rv
 have OF:p<s.heap.objs.size:=by obtain⟨_,e,_⟩:=hl;exact AN e
 refine call_all_walk (EM hl ?_)
 refine⟨s.heap.objs.size,[s.heap.objs.size,p],[s.heap.objs.size],its.toArray.size,_,_,λi=>(bs[i]?).getD true,rfl,Walks.list (A:=X.A.in1) (I.ok.hd hc) _ p (AK OF) its.toArray,
  ⟨⟨_,AO _ rfl,rfl,rfl⟩,hl.push _⟩,λi v s' Q' E' hP hQ=>?_,λh' tk hk=>?_⟩
 .have hv:its[i]?=some v:=by simpa using hP
  rw[ei,BE] at hv
  cases eb:bs[i]? with
  |none=>rw[eb] at hv;cases hv
  |some b=>
   rw[eb] at hv
   cases hv
   simp only[eb,LJ] at hQ
   exact DB hQ
 .have e:((List.range its.toArray.size).all λi=>(bs[i]?).getD true)=bs.all id:=by
   rw[AL,ei,AC];exact Fw bs
  rw[e]
  exact⟨.bl _,H,I.kept (Iv hk),rfl,q⟩
def Za7 (hc:X.calm=true):CallR X (.builtin "any") (λxs H Q=>∃(p:Addr) (bs:List Bool),xs=[.ref p]/\SqL X.K H p (bs.map V.bl)/\Q (.bl (bs.any id)) H):=by
 intro pins s σ H xs us Q I r h
 obtain⟨p,bs,rfl,hp,q⟩:=h
 obtain⟨u,rfl,rx⟩:=Wp r
 cases rx
 obtain⟨its,rv,pl,_⟩:=I.list hp
 have hl:=pl.isList
 have ei:=Iu rv
 have OF:p<s.heap.objs.size:=by obtain⟨_,e,_⟩:=hl;exact AN e
 refine call_any_walk (EM hl ?_)
 refine⟨s.heap.objs.size,[s.heap.objs.size,p],[s.heap.objs.size],its.toArray.size,_,_,λi=>(bs[i]?).getD false,rfl,Walks.list (A:=X.A.in1) (I.ok.hd hc) _ p (AK OF) its.toArray,
  ⟨⟨_,AO _ rfl,rfl,rfl⟩,hl.push _⟩,λi v s' Q' E' hP hQ=>?_,λh' tk hk=>?_⟩
 .have hv:its[i]?=some v:=by simpa using hP
  rw[ei,BE] at hv
  cases eb:bs[i]? with
  |none=>rw[eb] at hv;cases hv
  |some b=>
   rw[eb] at hv
   cases hv
   simp only[eb,LJ] at hQ
   exact DB hQ
 .have e:((List.range its.toArray.size).any λi=>(bs[i]?).getD false)=bs.any id:=by
   rw[AL,ei,AC];exact Fx bs
  rw[e]
  exact⟨.bl _,H,I.kept (Iv hk),rfl,q⟩
def ig:List D->M D
 |[.lst ds]=>match X9 ds with
  |some bs=>.ok (.bl (bs.all id))
  |none=>.bad
 |_=>.bad
def ff:List D->M D
 |[.lst ds]=>match X9 ds with
  |some bs=>.ok (.bl (bs.any id))
  |none=>.bad
 |_=>.bad
def zN (hc:X.calm=true):Wg X E (.builtin "all") ig:=by
 refine⟨_,Za6 hc,λHf H xs ds Q e r q=>?_⟩
 unfold ig at q
 split at q
 .split at q
  .rename_i bs hb
   obtain⟨x,rfl,h⟩:=Vm r
   obtain⟨p,ys,rfl,hp,hr⟩:=rep_lst.mp h
   have:=U1 hb hr
   subst this
   exact⟨p,bs,rfl,e.seq hp,Po.ret e q (rep_bl.mpr rfl)⟩
  .exact q.elim
 .exact q.elim
def qv (hc:X.calm=true):Wg X E (.builtin "any") ff:=by
 refine⟨_,Za7 hc,λHf H xs ds Q e r q=>?_⟩
 unfold ff at q
 split at q
 .split at q
  .rename_i bs hb
   obtain⟨x,rfl,h⟩:=Vm r
   obtain⟨p,ys,rfl,hp,hr⟩:=rep_lst.mp h
   have:=U1 hb hr
   subst this
   exact⟨p,bs,rfl,e.seq hp,Po.ret e q (rep_bl.mpr rfl)⟩
  .exact q.elim
 .exact q.elim
def Fy (x:Int):List Int->List Int
 |[]=>[x]
 |y::r=>if x<=y then x::y::r else y::Fy x r
def Vo:List Int->List Int
 |[]=>[]
 |x::r=>Fy x (Vo r)
theorem Ri (x:Int):∀l:List Int,(Fy x l).Perm (x::l)
 |[]=>GT _
 |y::r=>by
  unfold Fy
  split
  .exact GT _
  .exact((Ri x r).cons y).trans (List.Perm.swap x y r)
theorem U2:∀l:List Int,(Vo l).Perm l
 |[]=>GT _
 |x::r=>(Ri x _).trans ((U2 r).cons x)
theorem Sa (x:Int):∀l:List Int,l.Pairwise (·<=·)->(Fy x l).Pairwise (·<=·)
 |[],_=>by simp[Fy]
 |y::r,h=>by
  obtain⟨h1,h2⟩:=DE.mp h
  unfold Fy
  split
  .rename_i jU
   refine DE.mpr ⟨λz hz=>?_,h⟩
   rcases AW.mp hz with rfl|hz
   .exact jU
   .exact Int.le_trans jU (h1 z hz)
  .rename_i jU
   refine DE.mpr ⟨λz hz=>?_,Sa x r h2⟩
   rcases AW.mp ((Ri x r).mem_iff.mp hz) with rfl|hz
   .lia
   .exact h1 z hz
theorem U3:∀l:List Int,(Vo l).Pairwise (·<=·)
 |[]=>List.Pairwise.nil
 |x::r=>Sa x _ (U3 r)
def Wz:List D->Option (List Int)
 |[]=>some []
 |.int b::r=>(Wz r).map (b::·)
 |_::_=>none
theorem Sb {K:PySem.W.Frag}{H:Hp}:∀{ds:List D}{bs:List Int}{xs:List V},Wz ds=some bs->Reps K H ds xs->xs=bs.map V.int
 |[],bs,xs,e,r=>by
  rw[reps_nil.mp r]
  cases e
  rfl
 |.int b::ds,bs,xs,e,r=>by
  obtain⟨x,t,rfl,h1,h2⟩:=reps_cons.mp r
  unfold Wz at e
  cases q:Wz ds with
  |none=>rw[q] at e;cases e
  |some cs=>
   rw[q] at e
   cases e
   rw[rep_int.mp h1,Sb q h2]
   rfl
 |.non::_,_,_,e,_=>by cases e
 |.bl _::_,_,_,e,_=>by cases e
 |.str _::_,_,_,e,_=>by cases e
 |.tup _::_,_,_,e,_=>by cases e
 |.lst _::_,_,_,e,_=>by cases e
theorem Pc {K:PySem.W.Frag}{H:Hp}:∀ns:List Int,Reps K H (ns.map D.int) (ns.map V.int)
 |[]=>Reps.nil
 |_::ns=>Reps.cons (rep_int.mpr rfl) (Pc ns)
def Ak:CallR X (.builtin "sorted") (λxs H Q=>∃(p:Addr) (ns:List Int),xs=[.ref p]/\SqL X.K H p (ns.map V.int)/\ns.length<64/\∀l,H l=none->Q (.ref l) (upd H l (.lst ((Vo ns).map V.int)))):=by
 intro pins s σ H xs us Q I r h
 obtain⟨p,ns,rfl,hp,hl,q⟩:=h
 obtain⟨u,rfl,rx⟩:=Wp r
 cases rx
 obtain⟨its,rv,pl,hz⟩:=I.list hp
 have hi:IntsAre its ns:=Fs rv
 have hlen:its.length=ns.length:=by rw[<-rv.length,AC]
 refine sorted_ints pl.isList hi (by lia) λout ns' a1 a2 a3=>?_
 have e:ns'=Vo ns:=PySem.W.ksm_same (a2.trans (U2 ns).symm) a3 (U3 ns)
 subst e
 obtain⟨n,he⟩:=sortedAll_at s.heap its out
 refine⟨.ref (s.heap.objs.size+1),_,I.laid (t':=s.toks) (o:=.lst ((Vo ns).map V.int)) (λb o e=>sortedAll_old e) (EJ _) ?_,rfl,q _ (I.hok.fresh (EJ _))⟩
 refine⟨?_,out.toList,n,Rb a1,he⟩
 rw[AC,(U2 ns).length_eq,<-AC (f:=V.int)]
 exact hz
def S5:List D->M D
 |[.lst ds]=>match Wz ds with
  |some ns=>if ns.length<64 then .ok (.lst ((Vo ns).map D.int)) else .bad
  |none=>.bad
 |_=>.bad
def Za8:Wg X E (.builtin "sorted") S5:=by
 refine⟨_,Ak,λHf H xs ds Q e r q=>?_⟩
 unfold S5 at q
 split at q
 .split at q
  .rename_i ns hb
   split at q
   .rename_i hl
    obtain⟨x,rfl,h⟩:=Vm r
    obtain⟨p,ys,rfl,hp,hr⟩:=rep_lst.mp h
    have:=Sb hb hr
    subst this
    exact⟨p,ns,rfl,e.seq hp,hl,λl hl=>q _ _ _ (Gr.alloc e hl _) (Gr.lst e hl (Pc _))⟩
   .exact q.elim
  .exact q.elim
 .exact q.elim
def op_catS:OpR X (binaryOp .Add) (λx y H Q=>∃l b xs zs,x=.ref l/\y=.ref b/\SqL X.K H l xs/\SqL X.K H b zs/\xs.length+zs.length<=sizeLine/\∀p,H p=none->Q (.ref p) (upd H p (.lst (xs++zs)))):=by
 intro pins s σ H x y v u Q I rx ry h
 obtain⟨l,b,xs,zs,rfl,rfl,hH,hB,hz,q⟩:=h
 cases rx
 cases ry
 obtain⟨its,r,pl,z⟩:=I.list hH
 obtain⟨its2,r2,pl2,z2⟩:=I.list hB
 have l1:=r.length
 have l2:=r2.length
 obtain⟨⟨cls,dd,data,sl⟩,ho,hc,n,hd⟩:=pl.isList
 obtain⟨⟨kR,gg,data2,gE⟩,bH,XQ,n2,hd2⟩:=pl2.isList
 simp only at hc hd XQ hd2
 subst hc hd XQ hd2
 have e:its.toArray++its2.toArray=(its++its2).toArray:=by simp
 refine LG ⟨_,ho,rfl⟩ ⟨_,bH,rfl⟩ noFill_list_add seq_list_add PySem.F.slot_list_add PySem.F.entry_list_add (PySem.F.args_list_add_2 _ _) (list_addW l b its.toArray its2.toArray n n2 dd gg sl gE (by rw[AL,AL];lia)) ⟨ho,bH,?_⟩
 rw[e]
 exact⟨.ref _,_,I.lnew (t':=s.toks) (r.append r2) (by rw[AJ];lia),rfl,q _ I.fresh⟩
def Z8:D->D->M D
 |.int i,.int j=>.ok (.int (i+j))
 |.lst xs,.lst ys=>if few (xs++ys) then .ok (.lst (xs++ys)) else .bad
 |.tup (x::xs),.tup ys=>if few (x::xs++ys) then .ok (.tup (x::xs++ys)) else .bad
 |.str i,.str j=>if i.length+j.length<=sizeLine then .ok (.str (i++j)) else .bad
 |_,_=>.bad
def Qf:Rc X E (binaryOp .Add) Z8:=by
 refine⟨_,op_add.or (op_catS.or (op_catT.or Fk)),λHf H x y dx dy Q e rx ry q=>?_⟩
 unfold Z8 at q
 split at q
 .rename_i i j
  exact .inl ⟨i,j,rep_int.mp rx,rep_int.mp ry,Po.ret e q (rep_int.mpr rfl)⟩
 .rename_i xs ys
  split at q
  .rename_i hf
   obtain⟨p1,us,rfl,h1,r1⟩:=rep_lst.mp rx
   obtain⟨p2,ws,rfl,h2,r2⟩:=rep_lst.mp ry
   have hl:=Ws hf (r1.append r2)
   rw[AJ] at hl
   exact .inr (.inl ⟨p1,p2,us,ws,rfl,rfl,e.seq h1,e.seq h2,hl,λp hp=>q _ _ _ (Gr.alloc e hp _) (Gr.lst e hp (r1.append r2))⟩)
  .exact q.elim
 .rename_i x0 xs ys
  split at q
  .rename_i hf
   obtain⟨p1,us,rfl,h1,r1⟩:=Qh rx
   obtain⟨p2,ws,rfl,h2,r2⟩:=Qh ry
   have hl:=Ws hf (r1.append r2)
   rw[AJ] at hl
   have hne:us≠[]:=λz=>by
    have:=r1.length
    rw[z] at this
    cases this
   refine .inr (.inr (.inl ⟨p1,p2,us,ws,rfl,rfl,Same.seqT e h1,Same.seqT e h2,hne,hl,λz=>?_,λ_ p hp=>q _ _ _ (Gr.alloc e hp _) (Gr.tup e hp (r1.append r2))⟩))
   subst z
   have:ys=[]:=IV.mp r2.length
   subst this
   rw[BP] at q
   exact Po.ret e q rx
  .exact q.elim
 .rename_i i j
  split at q
  .rename_i hl
   exact .inr (.inr (.inr ⟨i,j,rep_str.mp rx,rep_str.mp ry,hl,Po.ret e q (rep_str.mpr rfl)⟩))
  .exact q.elim
 .exact q.elim
def Zt:D->D->M D:=oO
def Z2:Rc X E (binaryOp .Mult) Zt:=ym
def Fz (ds:List D)(lo hi:Option Int):List D:=(ds.drop (HT.sIx ds.length 0 lo)).take (HT.sIx ds.length ds.length hi-HT.sIx ds.length 0 lo)
def Dj {K:PySem.W.Frag}{H:Hp}{ds:List D}{xs:List V}(r:Reps K H ds xs)(lo hi:Option Int):Reps K H (Fz ds lo hi) (C7 xs lo hi):=by
 unfold Fz C7
 rw[<-r.length]
 exact(r.drop _).take _
def nv:D->Option Int->Option Int->M D
 |.lst ds,lo,hi=>.ok (.lst (Fz ds lo hi))
 |.tup ds,lo,hi=>if HT.sIx ds.length 0 lo=0/\HT.sIx ds.length ds.length hi=ds.length then .bad else .ok (.tup (Fz ds lo hi))
 |_,_,_=>.bad
def K5 (_:Zg):M (Option Int):=.ok none
def Xv (f:Zg->M D)(sd:Zg):M (Option Int):=(f sd).bind λd=>match d with
 |.int i=>.ok (some i)
 |_=>.bad
def Vp:hU X E none K5:=⟨_,Zgm,λ_ _ _ _ _ _ _ sr h=>Po.ret (R:=rQ) sr.sub h rfl⟩
def Kd {e:Expr}{f:Zg->M D}(h:Xq X E e f):hU X E (some e) (Xv f):=by
 obtain⟨t,p,q⟩:=h
 refine⟨_,Zgn p,λH0 B Hf sd σ H Q sr h=>?_⟩
 refine q H0 B Hf sd σ H _ sr (Po.bind h λd v ML H1 _ g1 rv h1=>?_)
 split at h1
 .exact⟨_,rep_int.mp rv,Po.ret (R:=rQ) g1.sub h1 rfl⟩
 .exact h1.elim
def Bb (f:Zg->M D)(lo hi:Zg->M (Option Int))(sd:Zg):M D:=(f sd).bind λd=>(lo sd).bind λl=>(hi sd).bind λh=>nv d l h
def Kw {e:Expr}{lo hi:Option Expr}{p2:Pos}{f:Zg->M D}{fl fh:Zg->M (Option Int)}(h:Xq X E e f)(hl:hU X E lo fl)(hh:hU X E hi fh):Xq X E (.Subscript e (.Slice lo hi none p2) pos) (Bb f fl fh):=by
 obtain⟨t,p,q⟩:=h
 obtain⟨tl,pl,ql⟩:=hl
 obtain⟨th,ph,qh⟩:=hh
 refine⟨_,Zc4 (sl_list.or yx) p pl ph,λH0 B Hf sd σ H Q sr h=>?_⟩
 refine q H0 B Hf sd σ H _ sr (Po.bind h λd v ML H1 _ g1 rv h1=>?_)
 refine ql H0 B ML sd σ H1 _ (sr.gr g1) (Po.bind h1 λl l' MT H2 _ g2 el h2=>?_)
 have el:l=l':=el
 subst el
 refine qh H0 B MT sd σ H2 _ ((sr.gr g1).gr g2) (Po.bind h2 λu u' QV H3 _ g3 eu h3=>?_)
 have eu:u=u':=eu
 subst eu
 have mO:=(Rep.mono g3.fz (Rep.mono g2.fz rv))
 unfold nv at h3
 split at h3
 .rename_i ds
  obtain⟨a,xs,rfl,ha,hr⟩:=rep_lst.mp mO
  exact .inl ⟨a,xs,rfl,g3.sub.seq ha,λp hp=>h3 _ _ _ (Gr.alloc g3.sub hp _) (Gr.lst g3.sub hp (Dj hr _ _))⟩
 .rename_i ds
  split at h3
  .exact h3.elim
  .rename_i hw
   obtain⟨a,xs,rfl,ha,hr⟩:=Qh mO
   exact .inr ⟨a,xs,rfl,Same.seqT g3.sub ha,by rw[<-hr.length];exact hw,λp hp=>h3 _ _ _ (Gr.alloc g3.sub hp _) (Gr.tup g3.sub hp (Dj hr _ _))⟩
 .exact h3.elim
def Tt (K:PySem.W.Frag)(Hf _H:Hp)(ds:List D)(J:It):Prop:=∀(i:Nat) (ML H1:Hp),Same Hf ML->Same ML H1->match ds[i]? with
 |some d=>J.go i H1/\∀x H2,J.yld i H1 x H2->∃MT,Gr ML H1 MT H2/\Rep K MT d x
 |none=>J.stop i H1
def ah (X:Cx)(E:XK)(tg iter:Expr)(fi:Zg->M (List D)):Prop:=
 ∃wi:TI,PI X tg iter wi/\∀(H0:Hp) (B:Addr->Prop) (Hf:Hp) (sd:Zg) (σ:L2.St) (H:Hp) (R:It->Hp->Prop),SR X.K H0 B Hf sd σ H->Po X.K E (Tt X.K) Hf H (fi sd) R->wi σ H R
def zM {K:PySem.W.Frag}{Hf H:Hp}{a:Addr}{xs:List V}{ds:List D}(h:SqL K Hf a xs)(r:Reps K Hf ds xs):Tt K Hf H ds (iD K a):=by
 intro i ML H1 e1 e2
 have h2:=e2.seq (e1.seq h)
 cases q:ds[i]? with
 |some d=>
  obtain⟨x,ex,rx⟩:=r.get q
  refine⟨⟨xs,x,h2,ex⟩,λy H2 hy=>?_⟩
  obtain⟨e,hy⟩:=hy
  subst e
  have ey:=hy xs h2
  rw[ex] at ey
  cases ey
  exact⟨ML,Gr.refl e2,rx.mono e1⟩
 |none=>
  refine⟨xs,h2,?_⟩
  have:=r.none_of q
  exact BL.mp this
def zL {K:PySem.W.Frag}{Hf H:Hp}{a:Addr}{xs:List V}{ds:List D}(h:SqT K Hf a xs)(r:Reps K Hf ds xs):Tt K Hf H ds (cx K a):=by
 intro i ML H1 e1 e2
 have h2:=Same.seqT e2 (Same.seqT e1 h)
 cases q:ds[i]? with
 |some d=>
  obtain⟨x,ex,rx⟩:=r.get q
  refine⟨⟨xs,x,h2,ex⟩,λy H2 hy=>?_⟩
  obtain⟨e,hy⟩:=hy
  subst e
  have ey:=hy xs h2
  rw[ex] at ey
  cases ey
  exact⟨ML,Gr.refl e2,rx.mono e1⟩
 |none=>
  refine⟨xs,h2,?_⟩
  have:=r.none_of q
  exact BL.mp this
def Tu (lo:Int)(n:Nat):List D:=(List.range n).map λk=>.int (lo+(k:Nat))
def zK {K:PySem.W.Frag}{Hf H:Hp}(lo:Int)(n:Nat):Tt K Hf H (Tu lo n) (iC lo n):=by
 intro i ML H1 e1 e2
 unfold Tu
 rw[BE]
 by_cases hi:i<n
 .rw[KB hi]
  refine⟨hi,λy H2 hy=>?_⟩
  obtain⟨e,hy⟩:=hy
  subst e
  exact⟨ML,Gr.refl e2,rep_int.mpr hy⟩
 .rw[FG (by simpa using hi)]
  exact FY hi
def Kl (f:Zg->M D)(sd:Zg):M (List D):=(f sd).bind λd=>match d with
 |.lst ds=>.ok ds
 |.tup ds=>.ok ds
 |_=>.bad
def ye {tg l:Expr}{tl:TE}(hl:PE X l tl):PI X tg l (λσ H R=>tl σ H λx H1=>(∃a,x=.ref a/\(∃xs,SqL X.K H1 a xs)/\R (iD X.K a) H1)\/∃a,x=.ref a/\(∃xs,SqT X.K H1 a xs)/\R (cx X.K a) H1):=by
 intro pins s σ H R I h
 refine Y8 (hl pins s σ H _ I h) λv s1 ⟨x,H1,I1,r1,q1⟩=>?_
 rcases q1 with⟨a,e,⟨xs,hq⟩,q⟩|⟨a,e,⟨xs,hq⟩,q⟩
 .subst e
  cases r1
  obtain⟨its,rv,p,hz⟩:=I1.list hq
  refine EM p.isList ?_
  refine⟨s1.heap.objs.size,[s1.heap.objs.size],_,_,H1,rfl,I1.kept (t':=s1.toks) λb o e=>AB _ e,Mw a _,⟨_,AO _ rfl,rfl,rfl⟩,λb hb=>?_,q⟩
  have e:b=s1.heap.objs.size:=by simpa using hb
  subst e
  exact I1.fpOk (AQ _) (I1.hok.fresh (AQ _))
 .subst e
  cases r1
  obtain⟨its,rv,p,hz⟩:=I1.tuple hq
  refine wpAny_pyIter_tuple (show s1.heap.IsTuple a its.toArray from p) ?_
  refine⟨s1.heap.objs.size,[s1.heap.objs.size],_,_,H1,rfl,I1.kept (t':=s1.toks) λb o e=>AB _ e,Tf a _,⟨_,AO _ rfl,rfl,rfl⟩,λb hb=>?_,q⟩
  have e:b=s1.heap.objs.size:=by simpa using hb
  subst e
  exact I1.fpOk (AQ _) (I1.hok.fresh (AQ _))
def Xw {tg l:Expr}{f:Zg->M D}(h:Xq X E l f):ah X E tg l (Kl f):=by
 obtain⟨t,p,q⟩:=h
 refine⟨_,ye p,λH0 B Hf sd σ H R sr h=>?_⟩
 refine q H0 B Hf sd σ H _ sr (Po.bind h λd v ML H1 _ g1 rv h1=>?_)
 split at h1
 .rename_i ds
  obtain⟨a,xs,rfl,ha,hr⟩:=rep_lst.mp rv
  exact .inl ⟨a,rfl,⟨xs,g1.sub.seq ha⟩,Po.ret (R:=Tt X.K) g1.sub h1 (zM ha hr)⟩
 .rename_i ds
  obtain⟨a,xs,rfl,ha,hr⟩:=Qh rv
  exact .inr ⟨a,rfl,⟨xs,Same.seqT g1.sub ha⟩,Po.ret (R:=Tt X.K) g1.sub h1 (zL ha hr)⟩
 .exact h1.elim
def Yc (fs:Zg->M (List D))(sd:Zg):M (List D):=(fs sd).bind λds=>match ds with
 |[.int j]=>if -1000000<=j/\j<=1000000 then .ok (Tu 0 j.toNat) else .bad
 |_=>.bad
def Yt {tg a:Expr}{p:Pos}{fs:Zg->M (List D)} (hg:Gl X "range") (hm:X.mg "range"=none) (h:L9 X E [a] fs) (hs:starEach [a] X.env=[(false,eval a X.env)]:=by rfl):ah X E tg (.Call (.Name "range" p) [a] [] pos) (Yc fs):=by
 obtain⟨t,pt,q⟩:=h
 refine⟨_,Zar hg hm pt hs,λH0 B Hf sd σ H R sr h=>?_⟩
 refine q H0 B Hf sd σ H _ sr (Po.bind h λds vs ML H1 _ g1 rs h1=>?_)
 split at h1
 .split at h1
  .rename_i hj
   obtain⟨v,rfl,rv⟩:=Vm rs
   rw[rep_int.mp rv]
   exact⟨_,rfl,by lia,by lia,Po.ret (R:=Tt X.K) g1.sub h1 (zK 0 _)⟩
  .exact h1.elim
 .exact h1.elim
def Xx (g:D->Zg->M Zg)(f:Zg->M O):List D->Zg->M O
 |[],sd=>.ok (.nx sd)
 |d::r,sd=>match g d sd with
  |.ok sd1=>(f sd1).bind λo=>match o with
   |.nx sd2=>Xx g f r sd2
   |.ct sd2=>Xx g f r sd2
   |.bk sd2=>.ok (.nx sd2)
   |.rt s=>.ok (.rt s)
  |_=>.bad
def Ke (fi:Zg->M (List D))(g:D->Zg->M Zg)(f:Zg->M O)(sd:Zg):M O:=(fi sd).bind λds=>Xx g f ds sd
def Xm {tg iter:Expr}{body:List Stmt}{fi:Zg->M (List D)}{g:D->Zg->M Zg}{f:Zg->M O}(hp:PassesOwn (model X.prog X.w) X.A X.env X.xe)(hc:X.calm=true)(hi:ah X E tg iter fi)(hg:aM X tg g)(hb:N5 X E body f)(hs:∀x,foldedSetIterable iter X.env x=pure x:=by intro _;rfl):N4 X E (.For tg iter body [] pos) (Ke fi g f):=by
 obtain⟨wi,pw,qw⟩:=hi
 obtain⟨i7,pg,qg⟩:=hg
 obtain⟨tb,pb,qb⟩:=hb
 refine⟨_,Tg hp hc pw pg pb hs,λH0 B Hf sd σ H D sr h=>?_⟩
 refine qw H0 B Hf sd σ H _ sr (PoS.bind sr h λds J ML H1 _ g1 sr1 J1 h1=>?_)
 refine⟨λi m σ' H'=>m=ds.length-i/\∃MJ sd',Same ML MJ/\SR X.K H0 B MJ sd' σ' H'/\PoS X.K E H0 B MJ (Xx g f (ds.drop i) sd') D,⟨ds.length,by simp,ML,sd,Same.refl _,sr1,by simpa using h1⟩,?_⟩
 rintro i m σ2 H2 ⟨rfl,MT,sd2,e2,sr2,h2⟩
 have jj:=J1 i MT H2 e2 sr2.sub
 cases q:ds[i]? with
 |none=>
  rw[q] at jj
  refine .inl ⟨jj,?_⟩
  rw[DY (BL.mp q)] at h2
  exact h2 σ2 MT H2 (Same.refl _) sr2
 |some d=>
  rw[q] at jj
  obtain⟨go,yl⟩:=jj
  have OF:i<ds.length:=(AE.mp q).1
  have hd:ds.drop i=d::ds.drop (i+1):=by
   rw[CM OF]
   congr 1
   exact(AE.mp q).2
  rw[hd] at h2
  refine .inr ⟨go,λσ' H'=>∃MJ sd',Same ML MJ/\SR X.K H0 B MJ sd' σ' H'/\PoS X.K E H0 B MJ (Xx g f (ds.drop (i+1)) sd') D,λσ' H' w=>⟨ds.length-(i+1),by lia,rfl,w⟩,λx H3 y3=>?_⟩
  obtain⟨QV,g3,rx⟩:=yl x H3 y3
  have sr3:=sr2.gr g3
  unfold Xx at h2
  split at h2
  .rename_i i9 eg
   refine qg H0 B QV sd2 σ2 H3 x d i9 _ sr3 rx eg λσ4 sr4=>?_
   refine qb H0 B QV i9 σ4 H3 _ sr4 ?_
   have h2:=PoS.weak g3.fz h2
   cases ef:f i9 with
   |ok o=>
    rw[ef] at h2
    cases o with
    |nx sd'=>exact λσ' MJ H' e' sr'=>⟨MJ,sd',e2.trans (g3.fz.trans e'),sr',PoS.weak e' h2⟩
    |ct sd'=>exact λσ' MJ H' e' sr'=>⟨MJ,sd',e2.trans (g3.fz.trans e'),sr',PoS.weak e' h2⟩
    |bk sd'=>exact h2
    |rt s=>exact h2
   |ex x=>rw[ef] at h2;exact h2
   |bad=>rw[ef] at h2;exact h2
  .exact h2.elim
end
def Rj {prog:Program}{w:World}{A:Around}{R:Result->Shared->Prop}{s:Shared}{elt target iter:Expr}{scope:Scope}{pos:Pos}{it acc:Value}{env:Env}(I:Nat->Shared->Prop)
  (turn:∀n s,I n s->wpAny (model prog w) A (pyNext it) (λr s₁=>match r with
   |none=>R (.ok .next) s₁
   |some v=>wpAny (model prog w) A (letOwnedTupleGo target it v) (λ_ s₂=>wpAny (model prog w) A (assign target env v) (λ_ s₃=>wpAny (model prog w) A (eval elt env) (λx s₄=>
     wpAny (model prog w) A (call (.builtin "list.append") [acc,x]) (λ_ s₅=>∃m,m<n/\I m s₅) (λ_ _=>False) s₄) (λ_ _=>False) s₃) (λ_ _=>False) s₂) (λ_ _=>False) s₁) (λ_ _=>False) s)
  (n:Nat) (h:I n s):
  codeAny (model prog w) A (.compLoop (.ListComp elt [⟨target,iter,[],0⟩] scope pos) 0 it acc env) R s:=by
 refine codeAny_loop rfl I (λn s hI=>?_) n h
 show wpAny _ A ((compTurn (.ListComp elt [⟨target,iter,[],0⟩] scope pos) 0 it acc env).onRaise (λx=>do noteFrame x env;theTreesLotGoes x)) _ _ s
 refine wpAny_noted ?_
 rw[compTurn_list]
 refine AA (FQ (AA (BR (turn n s hI) (λr s₁ h₁=>?_) λ_ _ h'=>h'.elim)))
 cases r with
 |none=>exact AG h₁
 |some v=>
  refine AA (BR h₁ (λ_ s₂ h₂=>?_) λ_ _ h'=>h'.elim)
  refine AA (BR h₂ (λ_ s₃ h₃=>?_) λ_ _ h'=>h'.elim)
  refine AA (wpAny_tests_nil ?_)
  exact AA (AA (BR h₃ (λx s₄ h₄=>AA (BR h₄ (λ_ s₅ h₅=>AG (AG ⟨rfl,h₅⟩)) λ_ _ h'=>h'.elim)) λ_ _ h'=>h'.elim))
def U4 (X:Cx)(Nc:List Str)(scope:Scope)(cl:List (Str×Addr))(s3:Shared)(H3:Hp)(C:Addr)(ex:List Addr):Cx:=
 {X with N:=Nc,s₀:=s3,H₀:=H3,env:=compEnvC scope cl C X.env,outer:=X.stack,stack:=X.stack,ex:=ex,fn:=λ_=>false,pn:=[],xe:=λ_ _=>False}
structure UG (X:Cx) (Nc:List Str) (n0:Nat) (caps:List Nat) (scope:Scope) (cl:List (Str×Addr)):Prop where
 sub:∀y c,cl.lookup y=some c->X.env.cells.lookup y=some c
 has:∀y,(relabel scope X.env).names.lookup y=some .cell\/(relabel scope X.env).names.lookup y=some .free->∃c,cl.lookup y=some c
 cap:∀(i j:Nat) (x:Str),Nc[n0+i]?=some x->caps[i]?=some j->X.N[j]?=some x/\X.env.scope.names.lookup x=some .cell/\(relabel scope X.env).names.lookup x=some .cell
 len:Nc.length=n0+caps.length
def Q9:Obj:={cls:=.type "list", dict:=none,data:=.seq ([]:List Value).toArray}
section
variable {X:Cx}{pins:List (Addr×Obj)}{σ:L2.St}{H2:Hp}{s2:Shared}{Nc:List Str}{n0:Nat}{caps:List Nat}{scope:Scope}{cl:List (Str×Addr)}{fp:List Addr}
def Dk (I2:Inv X pins σ H2 s2)(f2:∀b∈fp,Sm X pins H2 b)(hold:∀b∈fp,∃o,s2.heap.get? b=some o)(OG:scope.kind=.function)(cap:UG X Nc n0 caps scope cl){h1:Heap}{m0:Str->Option Value}{tk:Nat}(UI:h1.Ns (s2.heap.objs.size+1) m0)(hold1:∀b o,s2.heap.get? b=some o->h1.get? b=some o)(hD:h1.get? s2.heap.objs.size=some Q9):
  Inv (U4 X Nc scope cl {s2 with heap:=s2.heap.push Q9} (upd H2 s2.heap.objs.size (.lst [])) (s2.heap.objs.size+1) fp) [] (List.replicate n0 none++caps.map λj=>(σ[j]?).join) (upd H2 s2.heap.objs.size (.lst [])) {s2 with heap:=h1,toks:=tk}:=by
 have fresh:H2 s2.heap.objs.size=none:=I2.hok.fresh (AQ _)
 have bX:H2 (s2.heap.objs.size+1)=none:=I2.hok.fresh (EJ _)
 have sz:(s2.heap.push Q9).objs.size=s2.heap.objs.size+1:=DD _ _
 have lt:∀{b:Addr}{o:Obj},s2.heap.get? b=some o->b<s2.heap.objs.size:=λe=>AN e
 have tP:∀{b:Addr}{o:Obj},s2.heap.get? b=some o->b≠s2.heap.objs.size:=λe=>AK (lt e)
 have vR:∀y c,cl.lookup y=some c->c<s2.heap.objs.size:=λy c e=>by
  obtain⟨v,q⟩:=I2.cell y c (cap.sub y c e)
  exact q.lt
 have u7:∀b∈Ig X.stack,b<s2.heap.objs.size:=λb hb=>by
  obtain⟨_,o,ho,_⟩:=I2.stack.mem hb
  exact lt ho
 have kp:∀b o,(s2.heap.push Q9).get? b=some o->h1.get? b=some o:=λb o e=>by
  by_cases hb:b=s2.heap.objs.size
  .subst hb
   rw[AO _ rfl] at e
   cases e
   exact hD
  .rw[Heap.get?_push_ne _ _ _ hb] at e
   exact hold1 b o e
 have jh:HOk X.prog X.w (upd H2 s2.heap.objs.size (.lst [])) h1:=I2.hok.laid hold1 (AQ _) ⟨CL _,[],0,.nil,hD⟩
 refine⟨⟨I2.ok.mod,?_,I2.ok.glob,I2.ok.blt,?_,?_,?_,?_,I2.ok.hd,I2.ok.frames,.inl rfl,?_,?_,?_,?_,?_,?_,?_⟩,rfl,I2.bare,?_,⟨m0,UI,?_⟩,?_,?_,?_,?_,jh,?_⟩
 .show(relabel scope X.env).kind=.function
  exact OG
 .show(s2.heap.push Q9).objs.size<=s2.heap.objs.size+1
  rw[sz];exact AQ _
 .intro x y c h1 h2
  exact I2.ok.inj x y c (cap.sub x c h1) (cap.sub y c h2)
 .intro x h
  exact cap.has x h
 .intro x c h
  cases h
 .intro b hb
  refine⟨?_,λx c e=>?_⟩
  .obtain⟨o,e⟩:=hold b hb
   exact AK (DJ (lt e))
  .exact(f2 b hb).2.2.2.2.1 x c (cap.sub x c e)
 .intro b o e
  obtain⟨q1,q2⟩:=I2.bs b o e
  exact⟨AB _ q1,(Zm (tP q1)).trans q2⟩
 .show X.base.objs.size<=(s2.heap.push Q9).objs.size
  rw[sz]
  exact HJ (BA I2.ok.bsz I2.sz)
 .intro b o e hb
  obtain⟨_,_,_,f4,_,_⟩:=f2 b hb
  rcases f4 with z|z
  .exact I2.ok.noex b o e z
  .exact absurd (BB (BB (AN e) I2.ok.bsz) z) (EO _)
 .intro b hb hz
  rcases AW.mp (I2.stkSub b hz) with e|hz
  .exact(f2 b hb).2.1 e
  .exact(f2 b hb).2.2.1 hz
 .exact I2.stack.of_keeps λb o e _=>⟨o,AB _ e,rfl⟩
 .intro b hb
  show upd H2 s2.heap.objs.size (.lst []) b=none
  rw[Zm (AK (u7 b hb))]
  exact I2.stkFree b hb
 .exact Un.kept kp
 .intro i x v e1 e2 e3
  have hi:n0<=i:=by
   refine FY λOF=>?_
   rw[BC (by simpa using OF),CQ] at e2
   split at e2<;>cases e2
  obtain⟨k,rfl⟩:=IU hi
  rw[BW (by simp),CP,EV,BE] at e2
  cases ej:caps[k]? with
  |none=>rw[ej] at e2;cases e2
  |some j=>
   rw[ej] at e2
   have e2:(σ[j]?).join=some v:=by simpa using e2
   have es:σ[j]?=some (some v):=by
    cases z:σ[j]? with
    |none=>rw[z] at e2;cases e2
    |some q=>rw[z] at e2;have:q=some v:=e2;rw[this]
   obtain⟨a1,a2,a3⟩:=cap.cap k j x e1 ej
   obtain⟨m,hn,hl⟩:=I2.loc
   obtain⟨u,ru,lk⟩:=hl j x v a1 es (.inr (.inl a2))
   refine⟨u,ru,?_⟩
   rcases lk with⟨z,_⟩|⟨_,c,ec,cell⟩
   .have z:X.env.scope.names.lookup x=some .local:=z
    rw[a2] at z;cases z
   .obtain⟨c',nV⟩:=cap.has x (.inl a3)
    have:=cap.sub x c' nV
    rw[ec] at this
    cases this
    obtain⟨o,ho,hd⟩:=cell
    exact .inr ⟨.inl a3,c,nV,o,hold1 _ _ ho,hd⟩
 .intro x c e
  obtain⟨v,o,ho,hd⟩:=I2.cell x c (cap.sub x c e)
  exact⟨v,o,hold1 _ _ ho,hd⟩
 .show upd H2 s2.heap.objs.size (.lst []) (s2.heap.objs.size+1)=none
  rw[Zm (DX (DS _))]
  exact bX
 .intro x c e
  show upd H2 s2.heap.objs.size (.lst []) c=none
  rw[Zm (AK (vR x c e))]
  exact I2.freeC x c (cap.sub x c e)
 .intro p hp
  exact absurd (show p∈([]:List (Addr×Obj)) from hp) (by simp)
 .rw[AJ,CP,AC]
  exact cap.len.symm
def Bc (I2:Inv X pins σ H2 s2)(f2:∀b∈fp,Sm X pins H2 b){σ':L2.St}{H':Hp}{s':Shared}{h':Heap}(J:Inv (U4 X Nc scope cl {s2 with heap:=s2.heap.push Q9} (upd H2 s2.heap.objs.size (.lst [])) (s2.heap.objs.size+1) fp) [] σ' H' s')(sb:Heap.SameBut (s2.heap.objs.size+1) s'.heap h'):
  Inv X pins σ H' {s' with heap:=h'}:=by
 have I3:Inv X pins σ (upd H2 s2.heap.objs.size (.lst [])) {s2 with heap:=s2.heap.push Q9}:=I2.laid (t':=s2.toks) (λb u e=>AB _ e) (AQ _) ⟨CL _,[],0,.nil,AO _ rfl⟩
 have sz:(s2.heap.push Q9).objs.size=s2.heap.objs.size+1:=DD _ _
 have same:∀{b:Addr}{o:Obj},(s2.heap.push Q9).get? b=some o->h'.get? b=s'.heap.get? b:=λ{b o} e=>sb.2 b (by
  have:=AN e
  rw[sz] at this
  exact AK this)
 have u:Un (Ig X.stack) fp (upd H2 s2.heap.objs.size (.lst [])) H' (s2.heap.push Q9) s'.heap:=J.base
 refine I3.call' (s':={s' with heap:=h'}) (ch:=fp) J.os ⟨λb o e n h1 h2=>?_,λb o e n h1 h2=>?_,u.free,λb o e h1=>?_,u.tups,u.frzs,u.tbls⟩ (λb ob e=>?_) J.bare λb hb=>?_
 .show h'.get? b=_
  rw[same e];exact u.keep b o e n h1 h2
 .show ∃sl,h'.get? b=_
  rw[same e];exact u.slot b o e n h1 h2
 .show ∃o',h'.get? b=_
  rw[same e];exact u.there b o e h1
 .have fr:H' (s2.heap.objs.size+1)=none:=J.free
  refine(J.hok b ob e).stay (λc w hc q=>?_) (λ_ q=>q) (λ_ _ q=>q) λ_ _ _ q=>q
  refine(sb.2 c ?_).trans q
  rintro rfl
  rcases hc with rfl|hc
  .rw[fr] at e;cases e
  .rw[fr] at hc;cases hc
 .obtain⟨f0,f1,_,f3,f4,f5⟩:=f2 b hb
  exact⟨f3,f1,f4,f5⟩
end
def oK:Option S->Option S
 |some (.im d)=>some (.im d)
 |_=>none
def Ut (n0:Nat)(caps:List Nat)(sd:Zg):Zg:=List.replicate n0 none++caps.map λj=>oK (sd[j]?).join
def Wk (gt:D->Zg->M Zg)(fe:Zg->M D)(sd0:Zg):List D->M (List D)
 |[]=>.ok []
 |d::ds=>match gt d sd0 with
  |.ok sd1=>match fe sd1 with
   |.ok e=>match Wk gt fe sd0 ds with
    |.ok es=>.ok (e::es)
    |_=>.bad
   |_=>.bad
  |_=>.bad
def Kx (fi:Zg->M (List D))(n0:Nat)(caps:List Nat)(gt:D->Zg->M Zg)(fe:Zg->M D)(sd:Zg):M (List D):=(fi sd).bind λds=>if few ds then Wk gt fe (Ut n0 caps sd) ds else .bad
def PoF (K:PySem.W.Frag)(E:XK)(Hf H:Hp)(r:M (List D))(Q:VK):Prop:=match r with
 |.ok ds=>∀p xs MJ H',Gr Hf H MJ H'->H p=none->MJ p=none->H' p=some (.lst xs)->Reps K MJ ds xs->Q (.ref p) H'
 |.ex x=>∀c dx MJ H',Gr Hf H MJ H'->iV K MJ H' x c dx->E c dx H'
 |.bad=>False
def cA (X:Cx)(E:XK)(e:Expr)(f:Zg->M (List D)):Prop:=
 ∃t:TE,PE X e t/\∀(H0:Hp) (B:Addr->Prop) (Hf:Hp) (sd:Zg) (σ:L2.St) (H:Hp) (Q:VK),SR X.K H0 B Hf sd σ H->PoF X.K E Hf H (f sd) Q->t σ H Q
def PoF.weak {K:PySem.W.Frag}{E:XK}{Hf H ML H1:Hp}{r:M (List D)}{Q:VK}(g:Gr Hf H ML H1)(h:PoF K E Hf H r Q):PoF K E ML H1 r Q:=by
 cases r with
 |ok a=>exact λp xs MJ H' g' e1 e2 e3 e4=>h p xs MJ H' (g.trans g') (g.all.free e1) e2 e3 e4
 |ex x=>exact λc dx MJ H' g' q=>h c dx MJ H' (g.trans g') q
 |bad=>exact h
theorem PoF.bind {K:PySem.W.Frag}{E:XK}{Hf H:Hp}{α β:Type}{R:Hp->Hp->α->β->Prop}{r:M α}{k:α->M (List D)}{Q:VK}{Q1:β->Hp->Prop}(h:PoF K E Hf H (r.bind k) Q)(s:∀a b ML H1,r=.ok a->Gr Hf H ML H1->R ML H1 a b->PoF K E ML H1 (k a) Q->Q1 b H1):Po K E R Hf H r Q1:=by
 cases r with
 |ok a=>exact λb MJ H' g q=>s a b MJ H' rfl g q (PoF.weak g h)
 |ex x=>exact h
 |bad=>exact h
def Um (f:Zg->M (List D))(sd:Zg):M D:=(f sd).bind λds=>.ok (.lst ds)
def Nd {X:Cx}{E:XK}{e:Expr}{f:Zg->M (List D)}(h:cA X E e f):Xq X E e (Um f):=by
 obtain⟨t,p,q⟩:=h
 refine⟨t,p,λH0 B Hf sd σ H Q sr h=>q H0 B Hf sd σ H Q sr ?_⟩
 unfold Um at h
 cases e:f sd with
 |ok ds=>
  rw[e] at h
  intro p xs MJ H' g e1 e2 e3 e4
  refine h _ (upd MJ p (.lst xs)) H' ⟨g.fz.trans (Qc e2 _),λb u z=>?_,g.all,λa h1 h2=>?_⟩ (rep_lst.mpr ⟨p,xs,rfl,SqL.of Zq,e4.mono (Qc e2 _)⟩)
  .by_cases hb:b=p
   .subst hb;rw[Zq] at z;rw[e3];exact z
   .rw[Zm hb] at z;exact g.sub b u z
  .have:a≠p:=λz=>h1.nn (z▸e1)
   rw[Zm this];exact g.ban a h1 h2
 |ex x=>rw[e] at h;exact h
 |bad=>rw[e] at h;exact h
def Za9 {gt:D->Zg->M Zg}{fe:Zg->M D}{sd0:Zg}{x:XV}:∀{ds:List D},Wk gt fe sd0 ds=.ex x->False
 |[],h=>by cases h
 |d::ds,h=>by
  unfold Wk at h
  split at h
  .split at h
   .split at h<;>cases h
   .cases h
  .cases h
def SR.ofIm {K:PySem.W.Frag}{Hf H:Hp}{sd:Zg}{σ:L2.St}(e:Same Hf H)(hl:sd.length=σ.length)(uc:∀(i:Nat) (d:D),sd[i]?=some (some (.im d))->∃v,σ[i]?=some (some v)/\Rep K Hf d v)(QU:∀(i:Nat) (t:S),sd[i]?=some (some t)->∃d,t=.im d):
  SR K H (λa=>Lv H a/\Hf a=none) Hf sd σ H:=
 ⟨e,Same.refl _,λ_ h=>h.2,λ_ h=>h.1,hl,λi t h _=>(by obtain⟨d,rfl⟩:=QU i t h;exact uc i d h),λi t h ho=>(by obtain⟨d,rfl⟩:=QU i t h;cases ho),λi _ t _ _ _ h ho _ _ _ _=>(by obtain⟨d,rfl⟩:=QU i t h;cases ho)⟩
def Al {n0:Nat}{caps:List Nat}{sd:Zg}{i:Nat}{s:S}(h:(Ut n0 caps sd)[i]?=some (some s)):n0<=i:=by
 refine FY λOF=>?_
 unfold Ut at h
 rw[BC (by simpa using OF),CQ] at h
 split at h<;>cases h
def F2 {n0:Nat}{caps:List Nat}{sd:Zg}{i:Nat}{s:S}(h:(Ut n0 caps sd)[i]?=some (some s)):∃k j d,i=n0+k/\caps[k]?=some j/\sd[j]?=some (some (.im d))/\s=.im d:=by
 obtain⟨k,rfl⟩:=IU (Al h)
 unfold Ut at h
 rw[BW (by simp),CP,EV,BE] at h
 cases ej:caps[k]? with
 |none=>rw[ej] at h;cases h
 |some j=>
  rw[ej] at h
  have h:oK (sd[j]?).join=some s:=by simpa using h
  cases z:sd[j]? with
  |none=>rw[z] at h;cases h
  |some q=>
   rw[z] at h
   cases q with
   |none=>cases h
   |some q=>
    cases q with
    |im d=>cases h;exact⟨k,j,d,rfl,ej,z,rfl⟩
    |ow _=>cases h
    |od _=>cases h
    |dk _=>cases h
    |xc _=>cases h
    |fn _=>cases h
    |ob _ _ _=>cases h
    |fl _ _ _=>cases h
def qu {n0:Nat}{caps:List Nat}{sd:Zg}(i:Nat)(t:S)(h:(Ut n0 caps sd)[i]?=some (some t)):∃d,t=.im d:=by
 obtain⟨_,_,d,_,_,_,e⟩:=F2 h
 exact⟨d,e⟩
def lE (n0:Nat)(gt:D->Zg->M Zg):Prop:=∀d sd sd1,gt d sd=.ok sd1->sd1.length=sd.length/\(∀i:Nat,n0<=i->sd1[i]?=sd[i]?)/\True
def Ja {n0 k:Nat}(h:k<n0):lE n0 (Xd k):=λd sd sd1 e=>by
 cases e
 exact⟨CZ,λi hi=>AR (by lia),trivial⟩
def Ky {X:Cx}{E:XK}{pos:Pos}{tg elt iter:Expr}{scope:Scope}{Nc:List Str}{n0:Nat}{caps:List Nat}{cl:List (Str×Addr)}{fi:Zg->M (List D)}{gt:D->Zg->M Zg}{fe:Zg->M D}(hc:X.calm=true)(XN:closureFor scope X.env=pure cl)(cap:UG X Nc n0 caps scope cl)(OG:scope.kind=.function)(PQ:∀y∈scope.names,y.2≠.cell)(UV:∀y∈scope.names,y.2=.local->scope.names.lookup y.1=some .local)(hk:lE n0 gt)(hi:ah X E tg iter fi)(hg:∀s3 H3 C ex,aM (U4 X Nc scope cl s3 H3 C ex) tg gt)(he:∀s3 H3 C ex,Xq (U4 X Nc scope cl s3 H3 C ex) E0 elt fe)(hs:∀x,foldedSetIterable iter X.env x=pure x:=by intro _;rfl):
  cA X E (.ListComp elt [⟨tg,iter,[],0⟩] scope pos) (Kx fi n0 caps gt fe):=by
 refine⟨λσ H Q=>∃H0 B Hf sd,SR X.K H0 B Hf sd σ H/\PoF X.K E Hf H (Kx fi n0 caps gt fe sd) Q,?_,λH0 B Hf sd σ H Q sr h=>⟨H0,B,Hf,sd,sr,h⟩⟩
 rintro pins s σ H Q I ⟨H0,B,Hf,sd,sr,h⟩
 obtain⟨wi,pw,qw⟩:=hi
 rw[eval_ListComp]
 refine KD (use:=none) rfl hs XN OG UV ?_
 have step:=pw pins s σ H (λJ H2=>∃ds MT,Gr Hf H MT H2/\Tt X.K MT H2 ds J/\PoF X.K E MT H2 (if few ds then Wk gt fe (Ut n0 caps sd) ds else .bad) Q) I
  (qw H0 B Hf sd σ H _ sr (PoF.bind h λds J MT H2 _ g2 bC h2=>⟨ds,MT,g2,bC,h2⟩))
 refine Y8 step λv s1 h1=>Y8 h1 λgH s2 h2=>?_
 obtain⟨it,fp,tn,J,H2,rfl,I2,T,VZ,f2,ds,MT,g2,bC,hq⟩:=h2
 have sr2:=sr.gr g2
 split at hq
 case isFalse=>exact hq.elim
 case isTrue hfew=>
 have fresh:H2 s2.heap.objs.size=none:=I2.hok.fresh (AQ _)
 have QK:∀b∈fp,∃o,s2.heap.get? b=some o:=λb hb=>let ⟨o,e,_⟩:=T.obj 0 _ VZ b hb;⟨o,e⟩
 refine DC (MA PQ (by intro y hy;simp at hy) (λh₁ bI bD=>?_) OG)
 have hC:(s2.heap.push Q9).objs.size=s2.heap.objs.size+1:=DD _ _
 have UI:h₁.Ns (s2.heap.objs.size+1) (λx=>([]:List (Str×Value)).reverse.lookup x):=hC▸bI
 have hsb:Heap.SameBut (s2.heap.objs.size+1) ((s2.heap.push Q9).push {cls:=.type "dict", data:=.dict #[]}) h₁:=hC▸bD
 have hold1:∀b o,s2.heap.get? b=some o->h₁.get? b=some o:=λb o e=>by
  have hb:b<s2.heap.objs.size:=AN e
  exact(hsb.2 b (AK (DJ hb))).trans (AB _ (AB _ e))
 have hD:h₁.get? s2.heap.objs.size=some Q9:=(hsb.2 _ (AK (DS _))).trans (AB _ (AO _ rfl))
 have J0:=Dk I2 f2 QK OG cap (tk:=s2.toks+([]:List (Str×Value)).length) UI hold1 hD
 have hg:=hg {s2 with heap:=s2.heap.push Q9} (upd H2 s2.heap.objs.size (.lst [])) (s2.heap.objs.size+1) fp
 have he:=he {s2 with heap:=s2.heap.push Q9} (upd H2 s2.heap.objs.size (.lst [])) (s2.heap.objs.size+1) fp
 generalize RN:U4 X Nc scope cl {s2 with heap:=s2.heap.push Q9} (upd H2 s2.heap.objs.size (.lst [])) (s2.heap.objs.size+1) fp=Xc at J0 hg he
 have eP:Xc.prog=X.prog:=by subst RN;rfl
 have eW:Xc.w=X.w:=by subst RN;rfl
 have eK:Xc.K=X.K:=by subst RN;rfl
 have eA:Xc.A=X.A:=by subst RN;rfl
 have eX:Xc.xe=λ_ _=>False:=by subst RN;rfl
 have eE:Xc.env=compEnvC scope cl (s2.heap.objs.size+1) X.env:=by subst RN;rfl
 have eC:Xc.calm=true:=by subst RN;exact hc
 have bY:∀{H':Hp},(∀b∈fp,H' b=none)->∀b∈fp,Sm Xc [] H' b:=λ{H'} hn b hb=>by
  subst RN
  obtain⟨f0,f1,kH,f3,f4,f5⟩:=f2 b hb
  obtain⟨o,eo⟩:=QK b hb
  refine⟨hn b hb,AK (DJ (AN eo)),λhz=>?_,.inl hb,λx c e=>f4 x c (cap.sub x c e),λp hp=>absurd (show p∈([]:List (Addr×Obj)) from hp) (by simp)⟩
  rcases AW.mp (I2.stkSub b hz) with e|hz
  .exact f1 e
  .exact kH hz
 have jK:∀b∈fp,b≠s2.heap.objs.size:=λb hb=>by
  obtain⟨o,eo⟩:=QK b hb
  exact AK (AN eo)
 obtain⟨i7,pg,qg⟩:=hg
 obtain⟨te,pe,qe⟩:=he
 have loop:∀s₃:Shared,s₃={s2 with heap:=h₁,toks:=s2.toks+([]:List (Str×Value)).length} ->
   codeAny (model X.prog X.w) X.A (.compLoop (.ListComp elt [⟨tg,iter,[],0⟩] scope pos) 0 (.ref it) (.ref s2.heap.objs.size) (compEnvC scope cl (s2.heap.objs.size+1) X.env))
    (compPost (model X.prog X.w) X.A X.xe none (EP X pins σ Q) (.ref s2.heap.objs.size) (s2.heap.objs.size+1)) s₃:=by
  rintro s₃ rfl
  refine Rj (λn s'=>∃i vs es H' MJ σ',n=ds.length-i/\i<=ds.length/\Inv Xc [] σ' H' s'/\tn i s'.heap/\(∀b∈fp,H' b=none) /\
   H' s2.heap.objs.size=some (.lst vs)/\MJ s2.heap.objs.size=none/\Gr MT H2 MJ H'/\Reps X.K MJ es vs/\vs.length=i /\
   (Ut n0 caps sd).length=σ'.length/\(∀(j:Nat) (d:D),(Ut n0 caps sd)[j]?=some (some (.im d))->∃v,σ'[j]?=some (some v)/\Rep X.K MJ d v) /\
   PoF X.K E MT H2 ((Wk gt fe (Ut n0 caps sd) (ds.drop i)).bind λfs=>.ok (es++fs)) Q) ?_ ds.length ?_
  .rintro n s' ⟨i,vs,es,H',MJ,σ',rfl,ud,J1,dM,eQ,bQ,ZQ,g1,rs1,jn,XG,bM,hq1⟩
   have jj:=bC i MJ H' g1.fz g1.sub
   cases q:ds[i]? with
   |none=>
    rw[q] at jj
    have SJ:=T.done Xc eP eW eK eC i [] s' _ H' (λ_ _=>False) J1 (bY eQ) dM jj
    rw[eA] at SJ
    refine BR SJ (λr s4 hr=>?_) λ_ _ z=>z
    obtain⟨rfl,J4⟩:=hr
    rw[DY (BL.mp q)] at hq1
    subst RN
    obtain⟨m,hn4,_⟩:=J4.loc
    refine⟨m,hn4,λh' sb=>?_⟩
    refine⟨.ref s2.heap.objs.size,H',Bc I2 f2 J4 sb,rfl,?_⟩
    have SA:PoF X.K E MT H2 (.ok es) Q:=by
     have:es++([]:List D)=es:=BP es
     rw[<-this];exact hq1
    exact SA _ vs MJ H' g1 fresh ZQ bQ rs1
   |some d=>
    rw[q] at jj
    obtain⟨go,yl⟩:=jj
    have OF:i<ds.length:=(AE.mp q).1
    have jw:ds.drop i=d::ds.drop (i+1):=by
     rw[CM OF]
     congr 1
     exact(AE.mp q).2
    obtain⟨sd1,e1,eg,ee,SA⟩:∃sd1 e1,gt d (Ut n0 caps sd)=.ok sd1/\fe sd1=.ok e1/\PoF X.K E MT H2 ((Wk gt fe (Ut n0 caps sd) (ds.drop (i+1))).bind λfs=>.ok ((es++[e1])++fs)) Q:=by
     rw[jw] at hq1
     unfold Wk at hq1
     split at hq1
     .rename_i sd1 eg
      split at hq1
      .rename_i e1 ee
       refine⟨sd1,e1,eg,ee,?_⟩
       cases em:Wk gt fe (Ut n0 caps sd) (ds.drop (i+1)) with
       |ok fs=>
        rw[em] at hq1
        have:(es++[e1])++fs=es++e1::fs:=by simp
        rw[M.bind_ok,this]
        exact hq1
       |ex x=>exact(Za9 em).elim
       |bad=>rw[em] at hq1;exact hq1.elim
      .exact hq1.elim
     .exact hq1.elim
    have SI:=T.item Xc eP eW eK eC i [] s' _ H' (λ_ _=>False) J1 (bY eQ) dM go
    rw[eA] at SI
    refine BR SI (λr s4 hr=>?_) λ_ _ z=>z
    obtain⟨u,rfl,h4⟩:=hr
    refine BR h4 (λ_ s5 h5=>?_) λ_ _ z=>z
    obtain⟨x,H5,J5,r5,y5,VR,eO⟩:=h5
    obtain⟨PV,g5,rx⟩:=yl x H5 y5
    have ik:=J5.pinned (bY eO) (T.obj _ _ VR)
    have bU:H5 s2.heap.objs.size=some (.lst vs):=g5.all _ _ bQ
    have gR:PV s2.heap.objs.size=none:=g5.ban _ (Lv.lst bQ) ZQ
    have bL:∀(j:Nat) (d:D),(Ut n0 caps sd)[j]?=some (some (.im d))->∃v,σ'[j]?=some (some v)/\Rep X.K PV d v:=λj d z=>let ⟨v,z1,z2⟩:=bM j d z;⟨v,z1,z2.mono g5.fz⟩
    have sr5:SR Xc.K H5 (λa=>Lv H5 a/\PV a=none) PV (Ut n0 caps sd) σ' H5:=eK▸SR.ofIm g5.sub XG bL qu
    obtain⟨kl,kk,kn⟩:=hk d _ sd1 eg
    have WD:=pg _ s5 σ' H5 x u (λσ6 H6=>te σ6 H6 λv7 H7=>∃PK,Gr PV H5 PK H7/\Rep X.K PK e1 v7/\(Ut n0 caps sd).length=σ6.length/\(∀(j:Nat) (d:D),(Ut n0 caps sd)[j]?=some (some (.im d))->∃v,σ6[j]?=some (some v)/\Rep X.K PK d v)) ik r5
     (qg H5 _ PV _ σ' H5 x d sd1 _ sr5 (eK▸rx) eg λσ6 sr6=>qe H5 _ PV sd1 σ6 H5 _ sr6 (by
      rw[ee]
      intro v7 PK H7 g7 r7
      have r7:Rep Xc.K PK e1 v7:=r7
      rw[eK] at r7
      refine⟨PK,g7,r7,by rw[<-kl];exact sr6.len,λj d z=>?_⟩
      have z2:sd1[j]?=some (some (.im d)):=by rw[kk j (Al z)];exact z
      obtain⟨v,z3,z4⟩:=sr6.im j d z2
      rw[eK] at z4
      exact⟨v,z3,z4.mono g7.fz⟩))
    rw[eP,eW,eA,eX,eE] at WD
    refine BR WD (λ_ s6 h6=>?_) λ_ _ z=>z
    obtain⟨σ6,H6,J6,q6⟩:=h6
    have XJ:=pe _ s6 σ6 H6 _ J6 q6
    rw[eP,eW,eA,eX,eE] at XJ
    refine BR XJ (λy s7 h7=>?_) λ_ _ z=>z
    obtain⟨v7,H7,J7,r7,PK,g7,jB,d7,XH⟩:=h7
    have eM:H7 s2.heap.objs.size=some (.lst vs):=g7.all _ _ bU
    have bO:PK s2.heap.objs.size=none:=g7.ban _ (Lv.lst bU) gR
    have XR:=Gh (X:=Xc) _ s7 σ6 H7 (.ref s2.heap.objs.size) [v7] (.ref s2.heap.objs.size) [y] (λ_ H8=>H8=upd H7 s2.heap.objs.size (.lst (vs++[v7]))) J7 rfl (.cons r7 .nil)
     ⟨_,vs,v7,rfl,rfl,eM,by
      have h1:=BS hfew
      have h2:=CG
      lia,rfl⟩
    rw[eP,eW,eA,eX] at XR
    refine BR XR (λ_ s8 h8=>?_) λ_ _ z=>z
    obtain⟨_,H8,J8,_,e8⟩:=h8
    subst e8
    have g17:=(g1.trans g5).trans g7
    refine⟨ds.length-(i+1),by lia,i+1,vs++[v7],es++[e1],_,PK,σ6,rfl,OF,J8.unpinned,?_,λb hb=>?_,Zq,bO,⟨g17.fz,λb o z=>?_,λb o z=>?_,g17.ban⟩,?_,by rw[AJ,jn];rfl,d7,XH,SA⟩
    .exact T.keep _ _ _ VR λb hb o e=>(J8.pin (b,o) (BF _ (BF _ (X0 hb e)))).1
    .obtain⟨o,e,_⟩:=T.obj _ _ VR b hb
     exact(J8.pin (b,o) (BF _ (BF _ (X0 hb e)))).2.1
    .have:b≠s2.heap.objs.size:=Z3 z bO
     rw[Zm this];exact g17.sub b o z
    .have:b≠s2.heap.objs.size:=Z3 z fresh
     rw[Zm this];exact g17.all b o z
    .exact(rs1.mono (g5.fz.trans g7.fz)).append (Reps.cons jB Reps.nil)
  .refine⟨0,[],[],_,MT,_,by simp,CL _,J0,T.keep 0 _ _ VZ λb hb o e=>hold1 b o e,λb hb=>?_,Zq,g2.sub.free fresh,⟨Same.refl _,λb o z=>?_,Qc fresh _,λ_ _ z=>z⟩,Reps.nil,rfl,?_,λj d z=>?_,?_⟩
   .rw[Zm (jK b hb)];exact(f2 b hb).1
   .have:b≠s2.heap.objs.size:=Z3 (g2.sub b o z) fresh
    rw[Zm this];exact g2.sub b o z
   .unfold Ut;simp only[AJ,CP,AC]
   .obtain⟨k,j',d',rfl,ej,es,ed⟩:=F2 z
    cases ed
    obtain⟨v,z1,z2⟩:=sr2.im j' d es
    refine⟨v,?_,z2⟩
    rw[BW (by simp),CP,EV,BE,ej]
    simp[z1]
   .have:∀r:M (List D),(r.bind λfs=>.ok ([]++fs))=r:=λr=>by cases r<;>simp
    rw[GS,this]
    exact hq
 show codeAny (model X.prog X.w) X.A (.compStart (.ListComp elt [⟨tg,iter,[],0⟩] scope pos) 0 (.ref it) (.ref s2.heap.objs.size) (compEnvC scope cl (s2.heap.push Q9).objs.size X.env))
  (compPost (model X.prog X.w) X.A X.xe none (EP X pins σ Q) (.ref s2.heap.objs.size) (s2.heap.push Q9).objs.size) {s2 with heap:=h₁,toks:=s2.toks+([]:List (Str×Value)).length}
 rw[hC]
 exact LH (loop _ rfl) (T.self X.A 0 _ _ _ (T.keep 0 _ _ VZ λb hb o e=>hold1 b o e) (loop _ rfl))
def oJ {X:Cx}{Nc:List Str}{n0:Nat}{scope:Scope}(hn:Nc.length=n0)(h:∀y∈scope.names,y.2≠.cell/\y.2≠.free):UG X Nc n0 [] scope []:=by
 have key:∀(l:List (Str×NameKind)) (y:Str) (k:NameKind),(∀p∈l,p.2≠.cell/\p.2≠.free)->(l.map fun(n,k)=>if(k==NameKind.free&&X.env.scope.kind==.function&&X.env.kindOf n==some .cell) then(n,NameKind.cell) else(n,k)).lookup y=some k->k≠.cell/\k≠.free:=by
  intro l y k
  induction l with
  |nil=>intro _ e;cases e
  |cons p r ih=>
   intro hp e
   obtain⟨n,kk⟩:=p
   have h0:=hp (n,kk) BH
   have hf:(kk==NameKind.free)=false:=by
    have:=h0.2
    cases kk<;>first|rfl|exact absurd rfl this
   rw[AM] at e
   simp only[hf,ID,CS,DM,DT] at e
   split at e
   .cases e;exact h0
   .exact ih (λq hq=>hp q (AV _ hq)) e
 refine⟨λy c e=>(nomatch e),λy e=>?_,λi j x _ e=>by simp at e,by simpa using hn⟩
 rcases e with e|e
 .exact absurd rfl (key _ y _ h e).1
 .exact absurd rfl (key _ y _ h e).2
section
variable {X:Cx}{E:XK}{pos:Pos}{a b:Expr}
def Dl (fs:Zg->M (List D))(sd:Zg):M (List D):=(fs sd).bind λds=>if few ds then .ok ds else .bad
def Ub {es:List Expr}{fs:Zg->M (List D)}(h:L9 X E es fs):cA X E (.List es pos) (Dl fs):=by
 obtain⟨t,p,q⟩:=h
 refine⟨_,Fn p,λH0 B Hf sd σ H Q sr h=>?_⟩
 refine q H0 B Hf sd σ H _ sr (PoF.bind h λds vs ML H1 _ g1 rs h1=>?_)
 split at h1
 .rename_i hf
  refine⟨Ws hf rs,λp hp=>h1 p vs ML _ ⟨Same.refl _,g1.sub.trans (Qc hp _),Qc hp _,λ_ _ e=>e⟩ hp (g1.sub.free hp) Zq rs⟩
 .exact h1.elim
def Do (F:List D->M S)(fs:Zg->M (List D))(sd:Zg):M (List D):=(fs sd).bind λds=>match F ds with
 |.ok (.ow es)=>.ok es
 |_=>.bad
def Zdm {k:Nat}{f:Addr}{fd:FuncData}{ps:List Str}{F:List D->M S}{x:Str}{p:Pos}{es:List Expr}{fs:Zg->M (List D)}(G:MM X.prog X.w X.K X.mg X.base Yf k f fd ps (R9 X.K F))(hr:Room k X.A)(hm:X.mg x=some (.ref f))(hk:PySem.W.keepIn X.K (.ref f)=true)(hb:Binds X.K fd ps [])(ha:L9 X E (a::es) fs)(hg:Gl X x:=by rfl) (QA:(x==("__debug__":Str))=false:=by decide) (he:starEach (a::es) X.env=(false,eval a X.env)::starEach es X.env:=by rfl) (ND:(backTo pos (starEach es X.env)).any (·.1)=false:=by rfl):
  cA X E (.Call (.Name x p) (a::es) [] pos) (Do F fs):=by
 obtain⟨t,pt,qt⟩:=ha
 refine⟨_,Ka (dvs:=[]) (E:=E0) G hr hg hm hk hb .nil Jj pt QA he ND,λH0 B Hf sd σ H Q sr h=>?_⟩
 refine qt H0 B Hf sd σ H _ sr (PoF.bind h λds vs ML H1 _ g1 rs h1=>?_)
 split at h1
 .rename_i es e
  refine⟨ML,ds,_,g1.sub,by rw[BP];exact rs,e,λv MJ H' g2 rv=>?_⟩
  obtain⟨p,rfl,e1,e2,xs,e3,e4⟩:=rv
  exact h1 p xs MJ H' g2 e1 e2 e3 e4
 .exact h1.elim
def PoS.bindF {K:PySem.W.Frag}{E:XK}{H0 Hf H:Hp}{B:Addr->Prop}{sd:Zg}{σ:L2.St}{r:M (List D)}{k:List D->M O}{D':Ends}{Q1:VK}(sr:SR K H0 B Hf sd σ H)(h:PoS K E H0 B Hf (r.bind k) D')(s:∀ds p xs ML H1,r=.ok ds->Gr Hf H ML H1->SR K H0 B ML sd σ H1->H p=none->ML p=none->H1 p=some (.lst xs)->Reps K ML ds xs->PoS K E H0 B ML (k ds) D'->Q1 (.ref p) H1):PoF K E Hf H r Q1:=by
 cases r with
 |ok ds=>exact λp xs MJ H' g e1 e2 e3 e4=>s ds p xs MJ H' rfl g (sr.gr g) e1 e2 e3 e4 (PoS.weak g.fz h)
 |ex x=>exact λc dx MJ H' g q=>h c dx MJ H' g.fz (sr.gr g).fin q
 |bad=>exact h
def SR.set_new {K:PySem.W.Frag}{H0 Hf H H1:Hp}{B:Addr->Prop}{sd:Zg}{σ:L2.St}(r0:SR K H0 B Hf sd σ H){ML:Hp}(r:SR K H0 B ML sd σ H1)(g:Same H H1)(i:Nat){p:Addr}{t:S}(hp:H p=none)(hf:ML p=none)(ho:t.own=true)(h:S.at K ML H1 p t):
  SR K H0 B ML (sd.set i (some t)) (σ.set i (some (.ref p))) H1 where
 sub:=r.sub
 all:=r.all
 ban:=r.ban
 bt:=r.bt
 len:=by rw[CZ,CZ];exact r.len
 imS:=λj d' e z=>by
  by_cases hj:i=j
  .subst hj
   have hi:i<sd.length:=by
    have:=(AE.mp e).1;simpa using this
   rw[AY hi] at e
   cases e
   rw[ho] at z;cases z
  .rw[AR hj] at e ⊢
   exact r.imS j d' e z
 ow:=λj u e hu=>by
  by_cases hj:i=j
  .subst hj
   have hi:i<sd.length:=by
    have:=(AE.mp e).1;simpa using this
   rw[AY hi] at e
   cases e
   exact⟨p,by rw[AY (by rw[<-r.len];exact hi)],r0.all.free hp,hf,h⟩
  .rw[AR hj] at e ⊢
   exact r.ow j u e hu
 sep:=λj k u w q hjk e1 o1 e2 o2 e3 e4=>by
  have new:∀{l:Nat},i=l->(σ.set i (some (V.ref p)))[l]?=some (some (.ref q))->q=p:=λ{l} z e=>by
   subst z
   have hi:i<σ.length:=by
    have:=(AE.mp e).1;simpa using this
   rw[AY hi] at e
   cases e;rfl
  have old:∀{l:Nat}{u:S},i≠l->(sd.set i (some t))[l]?=some (some u)->u.own=true->(σ.set i (some (V.ref p)))[l]?=some (some (.ref q))->q≠p:=λ{l u} n e ou z=>by
   rw[AR n] at e z
   obtain⟨q',e1,_,_,e4⟩:=r0.ow l u e ou
   rw[z] at e1
   cases e1
   obtain⟨o,eo⟩:=Ip e4
   exact Z3 eo hp
  by_cases n1:i=j
  .have n2:i≠k:=λz=>hjk (n1.symm.trans z)
   exact old n2 e2 o2 e4 (new n1 e3)
  .by_cases n2:i=k
   .exact old n1 e1 o1 e3 (new n2 e4)
   .rw[AR n1] at e1 e3
    rw[AR n2] at e2 e4
    exact r.sep j k u w q hjk e1 o1 e2 o2 e3 e4
def Tv (i:Nat)(f:Zg->M (List D))(sd:Zg):M O:=(f sd).bind λds=>.ok (.nx (sd.set i (some (.ow ds))))
def K8 (i:Nat){x:Str}{e:Expr}{f:Zg->M (List D)}{pos':Pos}(hN:X.N.Nodup)(h:cA X E e f)(hi:X.N[i]?=some x:=by rfl)(hx:WN X.env.scope x:=by trivial)(hs:swapsWith e (some (.Name x pos')) pos.line X.env=pure false:=by rfl)(hf:X.fn x=true\/X.env.scope.names.lookup x=some .local:=by first|exact .inl rfl|exact .inr rfl|assumption):
  N4 X E (.Assign [.Name x pos'] e pos) (Tv i f):=by
 obtain⟨t,p,q⟩:=h
 refine⟨_,K3 hN hi hx p hs hf,λH0 B Hf sd σ H D sr h=>?_⟩
 refine q H0 B Hf sd σ H _ sr (PoS.bindF sr h λds p xs ML H1 _ g1 sr1 e1 e2 e3 e4 h1=>?_)
 exact h1 _ ML H1 (Same.refl _) (sr.set_new sr1 g1.all i e1 e2 rfl ⟨xs,e3,e4⟩)
def Uv (i:Nat)(f:Zg->M D)(sd:Zg):M O:=match sd[i]? with
 |some (some (.ow ds))=>(f sd).bind λd=>if few ds then .ok (.nx (sd.set i (some (.ow (ds++[d]))))) else .bad
 |_=>.bad
def Uc (i:Nat){x:Str}{e:Expr}{f:Zg->M D}{p1 p2 p3:Pos}(h:Xq X E e f)(hi:X.N[i]?=some x:=by rfl)(hv:Mc X.env.scope x:=by trivial)
  (hd:(x==("__debug__":Str))=false:=by decide) (NL:(x==("__classdict__":Str))=false:=by decide)
  (md:starEach [e] X.env=(false,eval e X.env)::starEach [] X.env:=by rfl)
  (QL:attributeBase (.Name x p1) "append" X.env (eval (.Name x p1) X.env)=eval (.Name x p1) X.env:=by rfl)
  (hfew:((backTo p3 (starEach [e] X.env)).all (λx=>!x.1)&&(backToKw p3 (keywordEach [] X.env)).all (λx=>x.1.isSome)
   && decide ([e].length+([]:List Keyword).length+(if([]:List Keyword).isEmpty then 0 else 1)<30))=true:=by rfl)
  (hline:(p2.endLine==p3.line)=true:=by rfl) (UT:(backTo p3 (starEach ([]:List Expr) X.env)).any (·.1)=false:=by rfl)
  (ja:swapsWith (.Call (.Attribute (.Name x p1) "append" p2) [e] [] p3) none pos.line X.env=pure false:=by rfl):
  N4 X E (.Expr (.Call (.Attribute (.Name x p1) "append" p2) [e] [] p3) pos) (Uv i f):=by
 obtain⟨t,pt,q⟩:=h
 refine⟨_,Nz (pf FX II IH Gh (Qe hi hv hd NL) (Qm pt Ji md) QL hfew hline md UT) ja,λH0 B Hf sd σ H D sr h=>?_⟩
 unfold Uv at h
 split at h
 .rename_i ds ei
  obtain⟨p,z1,z2,z3,xs,z4,z5⟩:=sr.ow i _ ei rfl
  refine⟨_,z1,.inl ⟨rfl,xs,SqL.of z4⟩,?_⟩
  refine q H0 B Hf sd σ H _ sr (PoS.bind sr h λd v ML H1 _ g1 sr1 rv h1=>?_)
  split at h1
  .rename_i hf
   have z5':=z5.mono g1.fz
   have hl:xs.length<sizeLine:=by
    have h1:=BS hf
    have h2:=CG
    rw[<-z5.length,h2];lia
   refine⟨p,xs,v,rfl,rfl,g1.all _ _ z4,hl,?_⟩
   exact h1 _ ML _ (Same.refl _) (sr1.change ei rfl z1 rfl ⟨_,Zq,z5'.append (Reps.cons rv Reps.nil)⟩)
  .exact h1.elim
 .exact h.elim
def Dp (i:Nat)(sd:Zg):M O:=match sd[i]? with
 |some (some (.ow ds))=>.ok (.rt (.ow ds))
 |_=>.bad
def W0 (i:Nat){x:Str}{p1:Pos}(hi:X.N[i]?=some x:=by rfl)(hv:Mc X.env.scope x:=by trivial)
  (hd:(x==("__debug__":Str))=false:=by decide) (NL:(x==("__classdict__":Str))=false:=by decide):N4 X E (.Return (some (.Name x p1)) pos) (Dp i):=by
 refine⟨_,G8 (Qe hi hv hd NL),λH0 B Hf sd σ H D sr h=>?_⟩
 unfold Dp at h
 split at h
 .rename_i ds ei
  obtain⟨p,z1,z2,z3,z4⟩:=sr.ow i _ ei rfl
  exact⟨_,z1,h _ Hf H (Same.refl _) sr.fin ⟨p,rfl,z2,z3,z4⟩⟩
 .exact h.elim
def frz (i:Nat)(sd:Zg):Zg:=match sd[i]? with
 |some (some (.ow ds))=>sd.set i (some (.im (.lst ds)))
 |_=>sd
def Dq (i:Nat)(f:Zg->M O)(sd:Zg):M O:=f (frz i sd)
def S6 (i:Nat){st:List Stmt}{f:Zg->M O}(h:N5 X E st f):N5 X E st (Dq i f):=by
 obtain⟨t,p,q⟩:=h
 refine⟨t,p,λH0 B Hf sd σ H D sr h=>?_⟩
 unfold Dq frz at h
 split at h
 .rename_i ds ei
  obtain⟨MJ,e,sr'⟩:=sr.freeze ei
  exact q H0 B MJ _ σ H D sr' (PoS.weak e h)
 .exact q H0 B Hf sd σ H D sr h
theorem W1 {Xc:Cx}{pins:List (Addr×Obj)}{σ:L2.St}{H:Hp}{s:Shared}(I:Inv Xc pins σ H s)(dx:D)(e:Value->Bool)(he:∀d v u,Rep Xc.K H d v->RelV v u->e u=D.eq d dx):
  ∀{ds:List D}{xs:List V}{us:List Value},Reps Xc.K H ds xs->Vals xs us->us.any e=ds.any λd=>D.eq d dx
 |[],xs,us,r,v=>by
  rw[reps_nil.mp r] at v
  cases v
  rfl
 |d::ds,xs,us,r,v=>by
  obtain⟨x,xr,rfl,r1,r2⟩:=reps_cons.mp r
  cases v with
  |cons v1 v2=>rw[DF,DF,he d x _ r1 v1,W1 I dx e he r2 v2]
def Dr {Xc:Cx}{H:Hp}{ds:List D}:∀{xs:List V}{us:List Value}{u:Value},Reps Xc.K H ds xs->Vals xs us->u∈us->∃d v,d∈ds/\Rep Xc.K H d v/\RelV v u:=by
 induction ds with
 |nil=>
  intro xs us u r v hu
  rw[reps_nil.mp r] at v
  cases v
  cases hu
 |cons d ds ih=>
  intro xs us u r v hu
  obtain⟨x,xr,rfl,r1,r2⟩:=reps_cons.mp r
  cases v with
  |cons v1 v2=>
   rcases AW.mp hu with rfl|hu
   .exact⟨d,x,BH,r1,v1⟩
   .obtain⟨d',v',h1,h2,h3⟩:=ih r2 v2 hu
    exact⟨d',v',AV _ h1,h2,h3⟩
def Ds (dx:D)(ds:List D):Bool:=ds.any λd=>D.eq d dx
def oI (K:PySem.W.Frag)(neg:Bool):R2:=λx y H Q=>∃dx ds,Rep K H dx x/\(Rep K H (.lst ds) y\/Rep K H (.tup ds) y)/\D.deps ds<=60/\Q (.bl (if neg then !Ds dx ds else Ds dx ds)) H
theorem Tw:∀{ds:List D}{d:D},d∈ds->d.dep<=D.deps ds
 |e::ds,d,h=>by
  rw[D.deps]
  rcases AW.mp h with rfl|h
  .lia
  .have:=Tw h;lia
open Classical in
theorem yd (hu:X.A.units+64<cLine):OpR X (compareOp .In) (oI X.K false):=by
 intro pins s σ H x y v u Q I rx ry h
 obtain⟨dx,ds,hx,hy,hd,q⟩:=h
 let e:Value->Bool:=λu=>decide (∃d v,Rep X.K H d v/\RelV v u/\D.eq d dx=true)
 have he:∀d v u,Rep X.K H d v->RelV v u->e u=D.eq d dx:=λd v u r1 r2=>by
  cases z:D.eq d dx with
  |true=>exact BD ⟨d,v,r1,r2,z⟩
  |false=>
   refine BI ?_
   rintro⟨d',v',a1,a2,a3⟩
   have e1:v'=v:=RelV.inj a2 r2
   subst e1
   rw[Pb I d d' _ r1 a1,a3] at z
   cases z
 have each:∀{xs:List V}{us:List Value},Reps X.K H ds xs->Vals xs us->∀w∈us,SeqAt.EqAt X.A.in1 s w v (e w):=λ{xs us} r1 r2 w hw=>by
  obtain⟨d,z,m1,m2,m3⟩:=Dr r1 r2 hw
  rw[he d z w m2 m3]
  refine(Ts I d dx X.A.in1 z x w v ?_ m2 hx m3 rx).eq
  have:=Tw m1
  show X.A.units+1+_<_
  lia
 rcases hy with hy|hy
 .obtain⟨p,xs,rfl,hp,hr⟩:=rep_lst.mp hy
  cases ry
  obtain⟨its,r,pl,hz⟩:=I.list hp
  refine SeqAt.in_listAt e pl.isList (λw hw=>each hr r w (by simpa using hw)) ⟨.bl _,H,I,rfl,?_⟩
  rw[show its.toArray.any e=its.any e by simp,W1 I dx e he hr r]
  exact q
 .obtain⟨p,xs,rfl,hp,hr⟩:=Qh hy
  cases ry
  obtain⟨its,r,pl,hz⟩:=I.tuple hp
  refine SeqAt.in_tupleAt e pl (λw hw=>each hr r w (by simpa using hw)) ⟨.bl _,H,I,rfl,?_⟩
  rw[show its.toArray.any e=its.any e by simp,W1 I dx e he hr r]
  exact q
open Classical in
theorem Zba (hu:X.A.units+64<cLine):OpR X (compareOp .NotIn) (oI X.K true):=by
 intro pins s σ H x y v u Q I rx ry h
 obtain⟨dx,ds,hx,hy,hd,q⟩:=h
 let e:Value->Bool:=λu=>decide (∃d v,Rep X.K H d v/\RelV v u/\D.eq d dx=true)
 have he:∀d v u,Rep X.K H d v->RelV v u->e u=D.eq d dx:=λd v u r1 r2=>by
  cases z:D.eq d dx with
  |true=>exact BD ⟨d,v,r1,r2,z⟩
  |false=>
   refine BI ?_
   rintro⟨d',v',a1,a2,a3⟩
   have e1:v'=v:=RelV.inj a2 r2
   subst e1
   rw[Pb I d d' _ r1 a1,a3] at z
   cases z
 have each:∀{xs:List V}{us:List Value},Reps X.K H ds xs->Vals xs us->∀w∈us,SeqAt.EqAt X.A.in1 s w v (e w):=λ{xs us} r1 r2 w hw=>by
  obtain⟨d,z,m1,m2,m3⟩:=Dr r1 r2 hw
  rw[he d z w m2 m3]
  refine(Ts I d dx X.A.in1 z x w v ?_ m2 hx m3 rx).eq
  have:=Tw m1
  show X.A.units+1+_<_
  lia
 rcases hy with hy|hy
 .obtain⟨p,xs,rfl,hp,hr⟩:=rep_lst.mp hy
  cases ry
  obtain⟨its,r,pl,hz⟩:=I.list hp
  refine SeqAt.notIn_listAt e pl.isList (λw hw=>each hr r w (by simpa using hw)) ⟨.bl _,H,I,rfl,?_⟩
  rw[show its.toArray.any e=its.any e by simp,W1 I dx e he hr r]
  exact q
 .obtain⟨p,xs,rfl,hp,hr⟩:=Qh hy
  cases ry
  obtain⟨its,r,pl,hz⟩:=I.tuple hp
  refine SeqAt.notIn_tupleAt e pl (λw hw=>each hr r w (by simpa using hw)) ⟨.bl _,H,I,rfl,?_⟩
  rw[show its.toArray.any e=its.any e by simp,W1 I dx e he hr r]
  exact q
def aL:D->D->M D
 |x,.lst ds=>if D.deps ds<=60 then .ok (.bl (Ds x ds)) else .bad
 |x,.tup ds=>if D.deps ds<=60 then .ok (.bl (Ds x ds)) else .bad
 |_,_=>.bad
def Nf:D->D->M D
 |x,.lst ds=>if D.deps ds<=60 then .ok (.bl (!Ds x ds)) else .bad
 |x,.tup ds=>if D.deps ds<=60 then .ok (.bl (!Ds x ds)) else .bad
 |_,_=>.bad
def lX (hu:X.A.units+64<cLine):Rc X E (compareOp .In) aL:=by
 refine⟨_,yd hu,λHf H x y dx dy Q e rx ry q=>?_⟩
 unfold aL at q
 split at q
 .split at q
  .rename_i hd
   exact⟨_,_,rx.mono e,.inl (ry.mono e),hd,Po.ret e q (rep_bl.mpr rfl)⟩
  .exact q.elim
 .split at q
  .rename_i hd
   exact⟨_,_,rx.mono e,.inr (ry.mono e),hd,Po.ret e q (rep_bl.mpr rfl)⟩
  .exact q.elim
 .exact q.elim
def Dt (hu:X.A.units+64<cLine):Rc X E (compareOp .NotIn) Nf:=by
 refine⟨_,Zba hu,λHf H x y dx dy Q e rx ry q=>?_⟩
 unfold Nf at q
 split at q
 .split at q
  .rename_i hd
   exact⟨_,_,rx.mono e,.inl (ry.mono e),hd,Po.ret e q (rep_bl.mpr rfl)⟩
  .exact q.elim
 .split at q
  .rename_i hd
   exact⟨_,_,rx.mono e,.inr (ry.mono e),hd,Po.ret e q (rep_bl.mpr rfl)⟩
  .exact q.elim
 .exact q.elim
def D.isN:D->Bool
 |.non=>true
 |_=>false
def ie:D->D->M D
 |x,.non=>.ok (.bl x.isN)
 |_,_=>.bad
def K9:D->D->M D
 |x,.non=>.ok (.bl (!x.isN))
 |_,_=>.bad
def Iw {K:PySem.W.Frag}{H:Hp}{d:D}{v:V}(r:Rep K H d v):decide (v=.non)=d.isN:=by
 cases d with
 |non=>rw[rep_non.mp r];rfl
 |bl b=>rw[rep_bl.mp r];rfl
 |int b=>rw[rep_int.mp r];rfl
 |str b=>rw[rep_str.mp r];rfl
 |tup b=>obtain⟨_,_,e,_⟩:=rep_tup.mp r;rw[e];rfl
 |lst b=>obtain⟨_,_,e,_⟩:=rep_lst.mp r;rw[e];rfl
def qp:Rc X E (compareOp .Is) ie:=by
 refine⟨_,zA,λHf H x y dx dy Q e rx ry q=>?_⟩
 unfold ie at q
 split at q
 .exact⟨rep_non.mp ry,Po.ret e q (by rw[Iw rx];exact rep_bl.mpr rfl)⟩
 .exact q.elim
def Rk:Rc X E (compareOp .IsNot) K9:=by
 refine⟨_,Zgf,λHf H x y dx dy Q e rx ry q=>?_⟩
 unfold K9 at q
 split at q
 .exact⟨rep_non.mp ry,Po.ret e q (by rw[Iw rx];exact rep_bl.mpr rfl)⟩
 .exact q.elim
end
section
variable {X:Cx}{pins:List (Addr×Obj)}{σ:L2.St}{H:Hp}{s:Shared}{h':Heap}{t':Nat}{fp:List Addr}
def _root_.L2.Inv.turnedT {T:Addr}{o:HO}(I:Inv X pins σ H s)(hf:∀b∈fp,Sm X pins H b)(k:∀b u,b ∉ fp->s.heap.get? b=some u->h'.get? b=some u)(hT:s.heap.objs.size<=T)(new:ObjOk X.prog X.w (upd H T o) h' T o):
  Inv X pins σ (upd H T o) {s with heap:=h',toks:=t'}:=by
 have hn:=I.hok.fresh hT
 have ne:∀b u,s.heap.get? b=some u->b≠T:=λb u e=>AK (BB (AN e) hT)
 refine I.step (g':=s.gens) (d':=s.drawn) (ch:=fp) (λb hb=>?_) (λb u _ _ hc e _=>k b u hc e) (λb u _ _ hc e _=>⟨u.slots,k b u hc e⟩) (λb u _ e n=>by rw[Zm (ne b u e)];exact n) (λb u hc e=>⟨u,k b u hc e⟩)
  (λb xs e=>by rw[Zm (Z3 e hn)];exact e) (λb u xs e=>by rw[Zm (Z3 e hn)];exact e) (λb l c q e=>by rw[Zm (Z3 e hn)];exact e) (λm hm=>?_) (λb u e=>?_) I.bare
 .obtain⟨f0,f1,f2,f3,f4,f5⟩:=hf b hb
  exact⟨f3,f1,f4,f5⟩
 .obtain⟨ob,es,ep,ho,r⟩:=hm
  exact⟨ob,es,ep,k _ ob (λz=>(hf _ z).2.1 rfl) ho,r⟩
 .by_cases hb:b=T
  .subst hb;rw[Zq] at e;cases e;exact new
  .rw[Zm hb] at e
   have nf:∀c v,H c=some v->c ∉ fp:=λc v e z=>by rw[(hf c z).1] at e;cases e
   refine(I.hok b u e).stay (λc v hc q=>k c v ?_ q) (λc q=>by rw[Zm (Z3 q hn)];exact q) (λc xs q=>by rw[Zm (Z3 q hn)];exact q) λc _ _ q=>by rw[Zm (Z3 q hn)];exact q
   rcases hc with rfl|hc
   .exact nf _ _ e
   .exact nf _ _ hc
def _root_.L2.Inv.turnedF (I:Inv X pins σ H s)(hf:∀b∈fp,Sm X pins H b)(k:∀b u,b ∉ fp->s.heap.get? b=some u->h'.get? b=some u):Inv X pins σ H {s with heap:=h',toks:=t'}:=by
 refine I.step (g':=s.gens) (d':=s.drawn) (ch:=fp) (λb hb=>?_) (λb u _ _ hc e _=>k b u hc e) (λb u _ _ hc e _=>⟨u.slots,k b u hc e⟩) (λb u _ e n=>n) (λb u hc e=>⟨u,k b u hc e⟩)
  (λb xs e=>e) (λb u xs e=>e) (λ_ _ _ _ e=>e) (λm hm=>?_) (λb u e=>?_) I.bare
 .obtain⟨f0,f1,f2,f3,f4,f5⟩:=hf b hb
  exact⟨f3,f1,f4,f5⟩
 .obtain⟨ob,es,ep,ho,r⟩:=hm
  exact⟨ob,es,ep,k _ ob (λz=>(hf _ z).2.1 rfl) ho,r⟩
 .have nf:∀c v,H c=some v->c ∉ fp:=λc v e z=>by rw[(hf c z).1] at e;cases e
  refine(I.hok b u e).stay (λc v hc q=>k c v ?_ q) (λc q=>q) (λc xs q=>q) λ_ _ _ q=>q
  rcases hc with rfl|hc
  .exact nf _ _ e
  .exact nf _ _ hc
end
structure ZA (z TI TO i1 i2:Addr):Prop where
 TIz:TI≠z
 TOz:TO≠z
 i1z:i1≠z
 i2z:i2≠z
 TITO:TI≠TO
 TIi1:TI≠i1
 TIi2:TI≠i2
 TOi1:TO≠i1
 TOi2:TO≠i2
 i12:i1≠i2
def wF (n:Nat):ZA (n+4) (n+2) (n+3) n (n+1):=
 ⟨AK (by lia),AK (by lia),AK (by lia),AK (by lia),AK (by lia),DX (by lia),DX (by lia),DX (by lia),DX (by lia),AK (by lia)⟩
section
variable {X:Cx}{E:XK}{pos p p2:Pos}{es:List Expr}{k:Nat}
def ia:List D->List D->List D:=List.zipWith λx y=>.tup [x,y]
def Zdp (xs ys:List D)(i:Nat):(ia xs ys)[i]?=match xs[i]?,ys[i]? with
  |some x,some y=>some (.tup [x,y])
  |_,_=>none:=by
 unfold ia
 rw[List.getElem?_zipWith]
 cases xs[i]?<;>cases ys[i]?<;>rfl
end
def iZ:D->Option Yx
 |.int i=>some (.inl i)
 |.str x=>some (.inr x)
 |_=>none
def Vq:List D->Option (List Yx)
 |[]=>some []
 |d::r=>match iZ d,Vq r with
  |some k,some ks=>some (k::ks)
  |_,_=>none
def Zdq {K:PySem.W.Frag}{H:Hp}{d:D}{k:Yx}{v:V}(e:iZ d=some k)(r:Rep K H d v):v=kV k:=by
 cases d with
 |int i=>cases e;exact rep_int.mp r
 |str x=>cases e;exact rep_str.mp r
 |non=>cases e
 |bl _=>cases e
 |tup _=>cases e
 |lst _=>cases e
theorem Tx {K:PySem.W.Frag}{H:Hp}:∀{ds:List D}{ks:List Yx}{vs:List V},Vq ds=some ks->Reps K H ds vs->vs=ks.map kV
 |[],ks,vs,e,r=>by cases e;rw[reps_nil.mp r];rfl
 |d::ds,ks,vs,e,r=>by
  obtain⟨x,xr,rfl,r1,r2⟩:=reps_cons.mp r
  unfold Vq at e
  split at e
  .rename_i k ZL e1 e2
   cases e
   rw[Zdq e1 r1,Tx e2 r2]
   rfl
  .cases e
def fZ {κ:Type}[DecidableEq κ](kvs:List (κ×D))(k:κ)(d:D):List (κ×D):=
 if(kvs.any λkv=>decide (kv.1=k))=true then kvs.map (λkv=>if kv.1=k then(kv.1,d) else kv) else kvs++[(k,d)]
def Xj {κ:Type}[DecidableEq κ](kvs:List (κ×D))(k:κ):Option D:=(kvs.find? λkv=>decide (kv.1=k)).map (·.2)
section
variable {κ:Type} [DecidableEq κ]
variable {K:PySem.W.Frag}{H:Hp}
theorem RepKV.any {kvs:List (κ×D)}{ys:List (κ×V)}(r:RepKV K H kvs ys)(k:κ):(kvs.any λkv=>decide (kv.1=k))=(ys.any λkv=>decide (kv.1=k)):=by
 unfold RepKV at r
 induction r with
 |nil=>rfl
 |cons h t ih=>rw[DF,DF,ih,h.1]
def RepKV.get {kvs:List (κ×D)}{ys:List (κ×V)}(r:RepKV K H kvs ys)(k:κ){d:D}(e:Xj kvs k=some d):∃v,X8 ys k=some v/\Rep K H d v:=by
 unfold RepKV at r
 induction r with
 |nil=>cases e
 | @cons p q ps qs h t ih=>
  by_cases hk:p.1=k
  .have e1:Xj (p::ps) k=some p.2:=by simp[Xj,CC,hk]
   rw[e1] at e
   cases e
   exact⟨q.2,Xp (h.1▸hk),h.2⟩
  .have e1:Xj (p::ps) k=Xj ps k:=by simp[Xj,CC,hk]
   rw[e1] at e
   obtain⟨v,h1,h2⟩:=ih e
   exact⟨v,by rw[Xi (λz=>hk (h.1.trans z))];exact h1,h2⟩
theorem RepKV.none {kvs:List (κ×D)}{ys:List (κ×V)}(r:RepKV K H kvs ys)(k:κ)(e:Xj kvs k=.none):X8 ys k=.none:=by
 unfold RepKV at r
 induction r with
 |nil=>rfl
 | @cons p q ps qs h t ih=>
  by_cases hk:p.1=k
  .have e1:Xj (p::ps) k=some p.2:=by simp[Xj,CC,hk]
   rw[e1] at e
   cases e
  .have e1:Xj (p::ps) k=Xj ps k:=by simp[Xj,CC,hk]
   rw[e1] at e
   rw[Xi (λz=>hk (h.1.trans z))];exact ih e
def RepKV.repl {kvs:List (κ×D)}{ys:List (κ×V)}(r:RepKV K H kvs ys)(k:κ){d:D}{v:V}(h:Rep K H d v):RepKV K H (kvs.map λkv=>if kv.1=k then(kv.1,d) else kv) (ys.map λkv=>if kv.1=k then(kv.1,v) else kv):=by
 unfold RepKV at r ⊢
 induction r with
 |nil=>exact .nil
 | @cons p q ps qs hp t ih=>
  refine .cons ?_ ih
  show(if p.1=k then(p.1,d) else p).1=(if q.1=k then(q.1,v) else q).1/\Rep K H (if p.1=k then(p.1,d) else p).2 (if q.1=k then(q.1,v) else q).2
  by_cases hk:p.1=k
  .rw[AD hk,AD (hp.1▸hk)];exact⟨hp.1,h⟩
  .rw[AF hk,AF (λz=>hk (hp.1.trans z))];exact hp
def RepKV.put {kvs:List (κ×D)}{ys:List (κ×V)}(r:RepKV K H kvs ys)(k:κ){d:D}{v:V}(h:Rep K H d v):RepKV K H (fZ kvs k d) (Kn ys k v):=by
 unfold fZ Kn
 rw[r.any k]
 split
 .exact r.repl k h
 .exact ME r ⟨rfl,h⟩
theorem RepKV.length {kvs:List (κ×D)}{ys:List (κ×V)}(r:RepKV K H kvs ys):kvs.length=ys.length:=DV r
end
section
variable {X:Cx}{E:XK}{pos p1 p2 pos':Pos}{key value:Expr}{x:Str}
def Am {K:PySem.W.Frag}{Hf H:Hp}{ds:List D}{ks:List Yx}{y:V}(e:Vq ds=some ks)(sub:Same Hf H)(r:Rep K Hf (.tup ds) y):∃b,y=.ref b/\H b=some (.tup (ks.map kV)):=by
 obtain⟨b,xs,rfl,hb,hr⟩:=rep_tup.mp r
 rw[Tx e hr] at hb
 exact⟨b,rfl,sub _ _ hb⟩
end
def pV:D->Bool
 |.non=>true
 |.bl _=>true
 |.int _=>true
 |.str _=>true
 |_=>false
def Zds {K:PySem.W.Frag}{H H':Hp}{d:D}{v:V}(h:pV d=true)(r:Rep K H d v):Rep K H' d v:=by
 cases d with
 |non=>exact rep_non.mpr (rep_non.mp r)
 |bl _=>exact rep_bl.mpr (rep_bl.mp r)
 |int _=>exact rep_int.mpr (rep_int.mp r)
 |str _=>exact rep_str.mpr (rep_str.mp r)
 |tup _=>cases h
 |lst _=>cases h
def Ix (i:Nat)(f:Zg->M D)(sd:Zg):M D:=match f (frz i sd) with
 |.ok d=>if pV d then .ok d else .bad
 |_=>.bad
def Sc (i:Nat)(f:Zg->M Bool)(sd:Zg):M Bool:=match f (frz i sd) with
 |.ok b=>.ok b
 |_=>.bad
section
variable {X:Cx}{E:XK}{e:Expr}
def qo {K:PySem.W.Frag}{H0 Hf H:Hp}{B:Addr->Prop}{sd:Zg}{σ:L2.St}(sr:SR K H0 B Hf sd σ H)(i:Nat):∃MJ,Same Hf MJ/\SR K H0 B MJ (frz i sd) σ H:=by
 unfold frz
 split
 .rename_i ds ei
  exact sr.freeze ei
 .exact⟨Hf,Same.refl _,sr⟩
def Zg7 (i:Nat){f:Zg->M D}(h:Xq X E e f):Xq X E e (Ix i f):=by
 obtain⟨t,p,q⟩:=h
 refine⟨t,p,λH0 B Hf sd σ H Q sr h=>?_⟩
 obtain⟨MJ,e1,sr'⟩:=qo sr i
 refine q H0 B MJ _ σ H Q sr' ?_
 unfold Ix at h
 cases ef:f (frz i sd) with
 |ok d=>
  rw[ef] at h
  dsimp only at h
  split at h
  .rename_i uh
   exact λv MT H2 g r=>h v Hf H2 ⟨Same.refl _,sr.sub.trans g.all,g.all,λ_ _ z=>z⟩ (Zds uh r)
  .exact h.elim
 |ex x=>rw[ef] at h;exact h.elim
 |bad=>rw[ef] at h;exact h.elim
def Zdu (i:Nat){f:Zg->M Bool}(h:M7 X E e f):M7 X E e (Sc i f):=by
 obtain⟨t,p,q⟩:=h
 refine⟨t,p,λH0 B Hf sd σ H Q sr h=>?_⟩
 obtain⟨MJ,e1,sr'⟩:=qo sr i
 refine q H0 B MJ _ σ H Q sr' ?_
 unfold Sc at h
 cases ef:f (frz i sd) with
 |ok d=>
  rw[ef] at h
  exact λv MT H2 g r=>h v Hf H2 ⟨Same.refl _,sr.sub.trans g.all,g.all,λ_ _ z=>z⟩ r
 |ex x=>rw[ef] at h;exact h.elim
 |bad=>rw[ef] at h;exact h.elim
end
def Rl (cells:List (Str×Addr)):List (Str×NameKind)->List (Str×Addr)->List (Str×Addr)
 |[],acc=>acc
 |(n,k)::r,acc=>if k==NameKind.free then(match cells.lookup n with
  |some c=>Rl cells r ((n,c)::acc)
  |none=>Rl cells r acc) else Rl cells r acc
theorem Pd (cells:List (Str×Addr)):∀(names:List (Str×NameKind)) (acc:List (Str×Addr)),(∀p∈acc,cells.lookup p.1=some p.2)->∀p∈Rl cells names acc,cells.lookup p.1=some p.2
 |[],acc,h=>h
 |(n,k)::r,acc,h=>by
  unfold Rl
  split
  .split
   .rename_i c hc
    refine Pd cells r _ λp hp=>?_
    rcases AW.mp hp with rfl|hp
    .exact hc
    .exact h p hp
   .exact Pd cells r acc h
  .exact Pd cells r acc h
theorem Gm (cells:List (Str×Addr)):∀(names:List (Str×NameKind)) (acc:List (Str×Addr)),∀p∈acc,p∈Rl cells names acc
 |[],acc,p,h=>h
 |(n,k)::r,acc,p,h=>by
  unfold Rl
  split
  .split
   .exact Gm cells r _ p (AV _ h)
   .exact Gm cells r acc p h
  .exact Gm cells r acc p h
theorem Pe (cells:List (Str×Addr)):∀(names:List (Str×NameKind)) (acc:List (Str×Addr)) (n:Str) (c:Addr),(n,NameKind.free)∈names->cells.lookup n=some c->(n,c)∈Rl cells names acc
 |[],_,_,_,h,_=>by cases h
 |(m,k)::r,acc,n,c,h,hc=>by
  unfold Rl
  rcases AW.mp h with h|h
  .cases h
   rw[AD (by decide),hc]
   exact Gm cells r _ _ BH
  .split
   .split
    .exact Pe cells r _ n c h hc
    .exact Pe cells r _ n c h hc
   .exact Pe cells r _ n c h hc
def Ty {β:Type}:∀{l:List (Str×β)}{n:Str}{c:β},l.lookup n=some c->(n,c)∈l:=λh=>DR h
theorem Se {β:Type}:∀{l:List (Str×β)}{n:Str}{c:β},(n,c)∈l->∃d,l.lookup n=some d
 |[],_,_,h=>by cases h
 |(m,d)::r,n,c,h=>by
  rw[DT]
  by_cases e:n=m
  .subst e;exact⟨d,by simp⟩
  .have e':(n==m)=false:=CT.mpr e
   rw[e']
   rcases AW.mp h with h|h
   .cases h;exact absurd rfl e
   .exact Se h
def Jt {scope:Scope}{env:Env}(h:∀y∈scope.names,y.2=.free->∃c,env.cells.lookup y.1=some c):closureFor scope env=pure (Rl env.cells scope.names []):=by
 have key:∀(names:List (Str×NameKind)) (acc:List (Str×Addr)),(∀y∈names,y.2=.free->∃c,env.cells.lookup y.1=some c) ->
   (forIn names acc fun(x:Str×NameKind) (cs:List (Str×Addr))=>(do
    if x.2==.free then
     let c <-cellOf env x.1
     pure (ForInStep.yield ((x.1,c)::cs))
    else pure (ForInStep.yield cs):Sem _))=pure (Rl env.cells names acc):=by
  intro names
  induction names with
  |nil=>intro acc _;rfl
  |cons y r ih=>
   intro acc hy
   obtain⟨n,k⟩:=y
   rw[HY]
   unfold Rl
   by_cases hk:(k==NameKind.free)=true
   .obtain⟨c,hc⟩:=hy (n,k) BH (by simpa using hk)
    have e1:cellOf env n=pure c:=by unfold cellOf;rw[hc]
    simp only[hk,DW,e1,hc,pure_bind]
    exact ih _ λz hz=>hy z (AV _ hz)
   .simp only[hk,CS,DM,pure_bind]
    exact ih _ λz hz=>hy z (AV _ hz)
 have e:=key scope.names [] h
 unfold closureFor
 simp only[bind_pure]
 exact e
def F3 {X:Cx}{Nc:List Str}{n0:Nat}{caps:List Nat}{scope sc:Scope}(jb:X.env.scope=sc)(ua:sc.kind=.function)(PQ:∀y∈scope.names,y.2≠.cell)(SX:∀y∈scope.names,y.2=.free->sc.names.lookup y.1=some .cell)(um:∀y∈scope.names,y.2=.free->∃c,X.env.cells.lookup y.1=some c)(hl:Nc.length=n0+caps.length)(j4:∀(i j:Nat) (x:Str),Nc[n0+i]?=some x->caps[i]?=some j->X.N[j]?=some x/\scope.names.lookup x=some .free):UG X Nc n0 caps scope (Rl X.env.cells scope.names []):=by
 have frees:∀(l:List (Str×NameKind)) (y:Str),(∀p∈l,p.2≠.cell)->(∀p∈l,p.2=.free->sc.names.lookup p.1=some .cell) ->
   ((l.map fun(n,k)=>if(k==NameKind.free&&X.env.scope.kind==.function&&X.env.kindOf n==some .cell) then(n,NameKind.cell) else(n,k)).lookup y=some .cell\/(l.map fun(n,k)=>if(k==NameKind.free&&X.env.scope.kind==.function&&X.env.kindOf n==some .cell) then(n,NameKind.cell) else(n,k)).lookup y=some .free)->(y,NameKind.free)∈l:=by
  intro l y
  induction l with
  |nil=>intro _ _ e;rcases e with e|e<;>cases e
  |cons p r ih=>
   intro h1 h2 e
   obtain⟨n,k⟩:=p
   have c1:=h1 (n,k) BH
   rw[AM,DT] at e
   have XI:(if(k==NameKind.free&&X.env.scope.kind==.function&&X.env.kindOf n==some .cell) then(n,NameKind.cell) else(n,k)).1=n:=by split<;>rfl
   by_cases ey:y=n
   .subst ey
    simp only[XI,HN] at e
    by_cases hk:k=.free
    .subst hk;exact BH
    .have ju:(k==NameKind.free)=false:=CT.mpr hk
     simp only[ju,ID,CS,DM] at e
     rcases e with e|e
     .cases e;exact absurd rfl c1
     .cases e;exact absurd rfl hk
   .have gf:(y==n)=false:=CT.mpr ey
    simp only[XI,gf] at e
    exact AV _ (ih (λp hp=>h1 p (AV _ hp)) (λp hp=>h2 p (AV _ hp)) e)
 refine⟨λy c e=>Pd _ _ [] (λp hp=>by cases hp) _ (Ty e),λy e=>?_,λi j x e1 e2=>?_,hl⟩
 .have hm:=frees scope.names y PQ SX e
  obtain⟨c,hc⟩:=um _ hm rfl
  obtain⟨d,hd⟩:=Se (Pe X.env.cells scope.names [] y c hm hc)
  exact⟨d,hd⟩
 .obtain⟨a1,a2⟩:=j4 i j x e1 e2
  have a3:=SX _ (Ty a2) rfl
  refine⟨a1,by rw[jb];exact a3,?_⟩
  have rl:∀(l:List (Str×NameKind)),l.lookup x=some .free->(l.map fun(n,k)=>if(k==NameKind.free&&X.env.scope.kind==.function&&X.env.kindOf n==some .cell) then(n,NameKind.cell) else(n,k)).lookup x=some .cell:=by
   intro l
   induction l with
   |nil=>intro e;cases e
   |cons p r ih=>
    intro e
    obtain⟨n,k⟩:=p
    rw[AM,DT]
    rw[DT] at e
    have XI:(if(k==NameKind.free&&X.env.scope.kind==.function&&X.env.kindOf n==some .cell) then(n,NameKind.cell) else(n,k)).1=n:=by split<;>rfl
    by_cases ex:x=n
    .subst ex
     simp only[HN] at e
     cases e
     have c3:X.env.kindOf x=some .cell:=by show X.env.scope.names.lookup x=_;rw[jb];exact a3
     have c4:X.env.scope.kind=.function:=by rw[jb];exact ua
     simp only[XI,HN,c3,c4,Bool.and_true,DW]
    .have cW:(x==n)=false:=CT.mpr ex
     simp only[cW] at e
     simp only[XI,cW]
     exact ih e
  exact rl _ a2
def xi (sc names:List (Str×NameKind)):Bool:=names.all λy=>!(decide (y.2=NameKind.free))||decide (sc.lookup y.1=some NameKind.cell)
def Uo {sc scope:Scope}(h:xi sc.names scope.names=true):∀y∈scope.names,y.2=.free->sc.names.lookup y.1=some .cell:=λy hy hf=>by
 have:=LP.mp h y hy
 rw[ES] at this
 rcases this with z|z
 .rw[BD hf] at z;cases z
 .exact BS z
def fY (N:List Str)(names:List (Str×NameKind)):List Str->List Nat->Bool
 |x::xs,j::js=>decide (N[j]?=some x)&&decide (names.lookup x=some NameKind.free)&&fY N names xs js
 |_,_=>true
theorem Du {N:List Str}{names:List (Str×NameKind)}:∀{xs:List Str}{js:List Nat},fY N names xs js=true->∀(i j:Nat) (x:Str),xs[i]?=some x->js[i]?=some j->N[j]?=some x/\names.lookup x=some .free
 |[],_,_,i,_,_,e,_=>by simp at e
 |_::_,[],_,i,_,_,_,e=>by simp at e
 |x::xs,j::js,h,0,j',x',e1,e2=>by
  unfold fY at h
  rw[BG,BG] at h
  simp at e1 e2
  subst e1 e2
  exact⟨BS h.1.1,BS h.1.2⟩
 |x::xs,j::js,h,i+1,j',x',e1,e2=>by
  unfold fY at h
  rw[BG] at h
  exact Du h.2 i j' x' (by simpa using e1) (by simpa using e2)
def U5 {X:Cx}{N:List Str}{Nc:List Str}{n0:Nat}{caps:List Nat}{scope:Scope}(hN:X.N=N)(h:fY N scope.names (Nc.drop n0) caps=true):
  ∀(i j:Nat) (x:Str),Nc[n0+i]?=some x->caps[i]?=some j->X.N[j]?=some x/\scope.names.lookup x=some .free:=λi j x e1 e2=>by
 rw[hN]
 exact Du h i j x (by rw[List.getElem?_drop];exact e1) e2
section
variable {X:Cx}{E:XK}{pos p p1 p2:Pos}{a e:Expr}{x:Str}
def lW (f:Zg->M (List D))(sd:Zg):M O:=(f sd).bind λds=>.ok (.rt (.ow ds))
def Zdx {f:Zg->M (List D)}(h:cA X E e f):N4 X E (.Return (some e) pos) (lW f):=by
 obtain⟨t,p,q⟩:=h
 refine⟨_,G8 p,λH0 B Hf sd σ H D sr h=>?_⟩
 refine q H0 B Hf sd σ H _ sr (PoS.bindF sr h λds p xs ML H1 _ g1 sr1 e1 e2 e3 e4 h1=>?_)
 exact h1 _ ML H1 (Same.refl _) sr1.fin ⟨p,rfl,sr.all.free e1,e2,xs,e3,e4⟩
def ko (X:Cx)(E:XK)(f:Value->Sem Value)(g:D->M D):Prop:=
 ∃r,hX X f r/\∀(Hf H:Hp) (x:V) (dx:D) (Q:VK),Same Hf H->Rep X.K Hf dx x->Po X.K E (rV X.K) Hf H (g dx) Q->r x H Q
def Pf:D->M D
 |.int i=>.ok (.int (-i))
 |_=>.bad
def Ng:ko X E (unaryOp .USub) Pf:=by
 refine⟨_,zB,λHf H x dx Q e rx q=>?_⟩
 unfold Pf at q
 split at q
 .exact⟨_,rep_int.mp rx,Po.ret e q (rep_int.mpr rfl)⟩
 .exact q.elim
def Dv (g:D->M D)(f:Zg->M D)(sd:Zg):M D:=(f sd).bind g
def Bd {op:UnaryOp}{g:D->M D}{f:Zg->M D}(ho:ko X E (unaryOp op) g)(h:Xq X E a f):Xq X E (.UnaryOp op a pos) (Dv g f):=by
 obtain⟨r,hr,qr⟩:=ho
 obtain⟨t,p,q⟩:=h
 refine⟨_,pO hr p,λH0 B Hf sd σ H Q sr h=>?_⟩
 exact q H0 B Hf sd σ H _ sr (Po.bind h λd v ML H1 _ g1 rv h1=>qr ML H1 v d Q g1.sub rv h1)
end
section
variable {X:Cx}{E:XK}{pos:Pos}{a b c:Expr}
def W2 (g g':D->D->M D)(fa fb fc:Zg->M D)(sd:Zg):M D:=(fa sd).bind λx=>(fb sd).bind λy=>(g x y).bind λr=>(asB r).bind λk=>if k then((fc sd).bind λz=>g' y z) else .ok (.bl false)
def F4 {fa fb fc:Zg->M D}{g g':D->D->M D}{ta tb tc:TE}{r r':R2}{H0:Hp}{B:Addr->Prop}{Hf:Hp}{sd:Zg}{σ:L2.St}{H:Hp}{Q:VK}(qa:∀(H0:Hp) (B:Addr->Prop) (Hf:Hp) (sd:Zg) (σ:L2.St) (H:Hp) (Q:VK),SR X.K H0 B Hf sd σ H->Po X.K E (rV X.K) Hf H (fa sd) Q->ta σ H Q)(qb:∀(H0:Hp) (B:Addr->Prop) (Hf:Hp) (sd:Zg) (σ:L2.St) (H:Hp) (Q:VK),SR X.K H0 B Hf sd σ H->Po X.K E (rV X.K) Hf H (fb sd) Q->tb σ H Q)(qc:∀(H0:Hp) (B:Addr->Prop) (Hf:Hp) (sd:Zg) (σ:L2.St) (H:Hp) (Q:VK),SR X.K H0 B Hf sd σ H->Po X.K E (rV X.K) Hf H (fc sd) Q->tc σ H Q)(qr:∀(Hf H:Hp) (x y:V) (dx dy:D) (Q:VK),Same Hf H->Rep X.K Hf dx x->Rep X.K Hf dy y->Po X.K E (rV X.K) Hf H (g dx dy) Q->r x y H Q)(jE:∀(Hf H:Hp) (x y:V) (dx dy:D) (Q:VK),Same Hf H->Rep X.K Hf dx x->Rep X.K Hf dy y->Po X.K E (rV X.K) Hf H (g' dx dy) Q->r' x y H Q)(sr:SR X.K H0 B Hf sd σ H)(h:Po X.K E (rV X.K) Hf H (W2 g g' fa fb fc sd) Q):rG r r' ta tb tc σ H Q:=by
 refine qa H0 B Hf sd σ H _ sr (Po.bind h λdx x ML H1 _ g1 rx h1=>?_)
 have sr1:=sr.gr g1
 refine qb H0 B ML sd σ H1 _ sr1 (Po.bind h1 λdy y MT H2 _ g2 ry h2=>?_)
 have sr2:=sr1.gr g2
 refine qr MT H2 x y dx dy _ g2.sub (Rep.mono g2.fz rx) ry (Po.bind h2 λdz z QV H3 _ g3 rz h3=>?_)
 have sr3:=sr2.gr g3
 obtain⟨k,rfl,h4⟩:=Po.asB h3
 refine⟨k,rep_bl.mp rz,?_⟩
 cases k with
 |true=>
  rw[AD rfl] at h4 ⊢
  exact qc H0 B QV sd σ H3 _ sr3 (Po.bind h4 λdw w' YQ H4 _ g4 QW h5=>jE YQ H4 y w' dy dw Q g4.sub (Rep.mono g4.fz (Rep.mono g3.fz ry)) QW h5)
 |false=>
  rw[AF CB] at h4 ⊢
  exact Po.ret (R:=rV X.K) g3.sub h4 (rep_bl.mpr rfl)
def Be {op aq:CmpOp}{g g':D->D->M D}{fa fb fc:Zg->M D}(ho:Rc X E (compareOp op) g)(UU:Rc X E (compareOp aq) g')(ha:Xq X E a fa)(hb:Xq X E b fb)(hc:Xq X E c fc)(hm:lastMarks [op,aq] [b,c]=false:=by with_unfolding_all rfl):M7 X E (.Compare a [op,aq] [b,c] pos) (DL.tB (W2 g g' fa fb fc)):=by
 obtain⟨r,hr,qr⟩:=ho
 obtain⟨r',je,jE⟩:=UU
 obtain⟨ta,pa,qa⟩:=ha
 obtain⟨tb,pb,qb⟩:=hb
 obtain⟨tc,pc,qc⟩:=hc
 refine⟨_,Zcx hr je pa pb pc hm,λH0 B Hf sd σ H Q sr h=>?_⟩
 refine F4 qa qb qc qr jE sr (Po.bind h λd v ML H1 _ g1 rv h1=>?_)
 unfold DL.asB at h1
 split at h1
 .exact⟨_,rep_bl.mp rv,Po.ret (R:=rQ) g1.sub h1 rfl⟩
 .exact h1.elim
end
structure Ch (fr:List Addr) (a T:Addr) (h h':Heap):Prop where
 keep:∀b o,b≠a->b≠T->b ∉ fr->h.get? b=some o->h'.get? b=some o
 slot:∀b o,b≠a->b≠T->h.get? b=some o->∃sl,h'.get? b=some {o with slots:=sl}
def yc {P:Program}{w:World}{H:Hp}{h h':Heap}{fr:List Addr}{a T:Addr}(x:HOk P w H h)(c:Ch fr a T h h')(na:H a=none)(nT:H T=none)(nf:∀b∈fr,H b=none):HOk P w H h':=λb u e=>by
 have ne:∀d v,H d=some v->d≠a/\d≠T/\d ∉ fr:=λd v q=>⟨λz=>(by rw[z,na] at q;cases q),λz=>(by rw[z,nT] at q;cases q),λz=>(by rw[nf d z] at q;cases q)⟩
 refine(x b u e).stay (λd v hd q=>?_) (λ_ q=>q) (λ_ _ q=>q) λ_ _ _ q=>q
 have z:d≠a/\d≠T/\d ∉ fr:=by
  rcases hd with rfl|hd
  .exact ne _ _ e
  .exact ne _ _ hd
 exact c.keep d v z.1 z.2.1 z.2.2 q
end DL
namespace DL
open PySem PySem.Spec PyProof.Rows L2
theorem Zy {X:Cx}{E:XK}{pos p:Pos}{a:Expr}{i:Int}{j}{fa:Zg->M D}(ha:Xq X E a fa):Xq X E (.Subscript a (.Constant (.int i) j p) pos) (Zn Ys fa (eC (.int i))):=Qz ha Zi (λ_ _=>rfl)
end DL
local macro_rules
 |`(↑$x:num)=>`(DL.eC (.int $x))
 |`(↑$x:str)=>`(DL.eC (.str (PySem.Str.ofString $x)))
 |`($x:num[$y:num]!)=>`(DL.Zn DL.Ys (DL.Zd $x) (DL.eC (.int $y)))
local macro_rules
 |`(tactic|trivial)=>`(tactic|exact fun _ _ _ _ _ _ us hl=>match us,hl with | [_],_=>rfl)
local macro_rules
 |`(tactic|trivial)=>`(tactic|exact fun _ _ _ _ _ _ us hl=>match us,hl with | [_,_],_=>rfl)
local macro_rules
 |`(tactic|trivial)=>`(tactic|exact fun _ _ _ _ _ _ us hl=>match us,hl with | [_,_,_],_=>rfl)
local macro_rules
 |`(tactic|trivial)=>`(tactic|exact fun _ _ _ _ _ _ us hl=>match us,hl with | [_,_,_,_],_=>rfl)
local macro_rules
 |`(tactic|trivial)=>`(tactic|exact fun _ _ _ _ _ _ us hl=>match us,hl with | [_,_,_,_,_],_=>rfl)
local macro_rules
 |`(tactic|trivial)=>`(tactic|exact fun _ _ _ _ _ _ us hl=>match us,hl with | [_,_,_,_,_,_],_=>rfl)
namespace DL
open PySem PySem.Spec PySem.Calls PySem.Builtin PySem.Builtin.ObjectAttr PyProof.Rows L2 PySem.W
section
variable {X:Cx}{pins:List (Addr×Obj)}{σ:L2.St}{H:Hp}{s:Shared}{h':Heap}{a T C:Addr}{e:Value}
structure VQ (X:Cx) (pins:List (Addr×Obj)) (b:Addr):Prop where
 lo:X.s₀.heap.objs.size<=b
 nl:b≠X.env.locals
 nc:∀x c,X.env.cells.lookup x=some c->c≠b
 np:∀p∈X.pn++pins,p.1≠b
def Zdy (I:Inv X pins σ H s){b:Addr}(h:s.heap.objs.size<=b):VQ X pins b where
 lo:=BA I.sz h
 nl:=DX (BB I.lt h)
 nc:=λx c q=>by
  obtain⟨v,o,ho,_⟩:=I.cell x c q
  exact AK (BB (AN ho) h)
 np:=λp hp=>AK (BB (AN (I.pin p hp).1) h)
def yb (I:Inv X pins σ H s)(c:Ch (Ig X.stack) a T s.heap h')(na:H a=none)(nT:H T=none)(fa:VQ X pins a)(fT:VQ X pins T):Inv X pins σ H {s with heap:=h'}:=by
 refine I.call (h':=h') (g':=s.gens) (d':=s.drawn) (t':=s.toks) (ch:=[a,T]) ⟨λb o q n nf nx=>?_,λb o q n bf nx=>?_,λb o q n nx=>n,λb o q nx=>?_,λb xs q=>q,λb o u q=>q,λ_ _ _ _ q=>q⟩ (yc I.hok c na nT I.stkFree) I.bare λb hb=>?_
 .exact c.keep b o (λz=>nx (by simp[z])) (λz=>nx (by simp[z])) nf q
 .exact c.slot b o (λz=>nx (by simp[z])) (λz=>nx (by simp[z])) q
 .obtain⟨sl,z⟩:=c.slot b o (λz=>nx (by simp[z])) (λz=>nx (by simp[z])) q
  exact⟨_,z⟩
 .rcases AW.mp hb with rfl|hb
  .exact⟨.inr fa.lo,fa.nl,fa.nc,fa.np⟩
  .have:b=T:=by simpa using hb
   subst this
   exact⟨.inr fT.lo,fT.nl,fT.nc,fT.np⟩
end
def SR.ofS {K:Frag}{Hf H:Hp}{sd:Zg}{σ:L2.St}(e:Same Hf H)(hl:sd.length=σ.length)(hS:∀(i:Nat) (t:S),sd[i]?=some (some t)->t.own=false/\∃v,σ[i]?=some (some v)/\RepS K Hf t v):
  SR K H (λa=>Lv H a/\Hf a=none) Hf sd σ H:=
 ⟨e,Same.refl _,λ_ h=>h.2,λ_ h=>h.1,hl,λi t h _=>(hS i t h).2,λi t h ho=>(by rw[(hS i t h).1] at ho;cases ho),λi _ t _ _ _ h ho _ _ _ _=>(by rw[(hS i t h).1] at ho;cases ho)⟩
end DL
namespace DL
open PySem PySem.Spec PyProof.Rows L2
def ItK (t:Bool)(h:Heap)(i l:Addr)(k:Nat):Prop:=∃o,h.get? i=some o/\o.cls=.type (if t then "tuple_iterator" else "list_iterator")/\o.data=.fields #[.ref l,.int k 0]
def SqK (t:Bool)(h:Heap)(l:Addr)(xs:Array Value):Prop:=∃o,h.get? l=some o/\o.cls=.type (if t then "tuple" else "list")/\∃n,o.data=.seq xs n
def ItK.at {t:Bool}{h h':Heap}{i l:Addr}{k:Nat}(x:ItK t h i l k)(q:∀o,h.get? i=some o->h'.get? i=some o):ItK t h' i l k:=let ⟨o,e,r⟩:=x;⟨o,q o e,r⟩
def SqK.at {t:Bool}{h h':Heap}{l:Addr}{xs:Array Value}(x:SqK t h l xs)(q:∀o,h.get? l=some o->h'.get? l=some o):SqK t h' l xs:=let ⟨o,e,r⟩:=x;⟨o,q o e,r⟩
section
variable {prog:Program}{w:World}{A:Around}{E:Value->Shared->Prop}{s:Shared}
def Nh {t:Bool}{it l:Addr}{i:Nat}{xs:Array Value}{x:Value}{Q:Value->Shared->Prop}(hi:ItK t s.heap it l i)(hl:SqK t s.heap l xs)(hx:xs[i]?=some x)(hQ:∀h',ItK t h' it l (i+1)->Heap.SameBut it s.heap h'->Q x {s with heap:=h'}):wpAny (model prog w) A (Builtin.SmallTypes.nextOf (.ref it)) Q E s:=by
 cases t with
 |false=>exact wpAny_nextOf_list_item (show s.heap.IsListIter it l i from hi) (show s.heap.IsList l xs from hl) hx hQ
 |true=>
  obtain⟨o,ho,hc,hd⟩:=id hi
  obtain⟨ol,jg,_,nl,jz⟩:=hl
  have ty:s.TypeIs (.ref it) "tuple_iterator":=⟨o,ho,hc⟩
  unfold Builtin.SmallTypes.nextOf
  refine AA (EB (name:=Str.ofString "__next__") ty DQ (EA DQ ty HF ?_ (HI _)))
  refine AA (m:=field (.ref it) 0) (CV ho hd (x:=.ref l) rfl ?_)
  dsimp only
  rw[AF (λz:(Value.ref l==Value.none)=true=>CB z)]
  refine AA (m:=field (.ref it) 1) (CV ho hd (x:=.int i 0) rfl (AA (m:=seqItems? (.ref l)) (DZ jg jz ?_)))
  simp only[HL,hx]
  refine AA (wpAny_setField ho hd (by simp) (AG ⟨x,rfl,AG (hQ _ ⟨_,LZ _ ho (Obj.isFreed_of_fields (Obj.data_mapFields hd _)),(Obj.cls_mapFields ..).trans hc,?_⟩ (EZ ..))⟩))
  rw[Obj.data_mapFields hd];simp[rawInt]
def Bf {t:Bool}{it l:Addr}{i:Nat}{xs:Array Value}{Q:Value->Shared->Prop}(hh:A.handled=none)(hi:ItK t s.heap it l i)(hl:SqK t s.heap l xs)(hx:xs[i]?=none)
  (hE:∀h' e,Heap.ExtBut it s.heap h'->(∃o,h'.get? e=some o/\o.cls=.type "StopIteration")->E (.ref e) {s with heap:=h'}):wpAny (model prog w) A (Builtin.SmallTypes.nextOf (.ref it)) Q E s:=by
 cases t with
 |false=>exact wpAny_nextOf_list_end hh (show s.heap.IsListIter it l i from hi) (show s.heap.IsList l xs from hl) hx hE
 |true=>
  obtain⟨o,ho,hc,hd⟩:=id hi
  obtain⟨ol,jg,_,nl,jz⟩:=hl
  have ty:s.TypeIs (.ref it) "tuple_iterator":=⟨o,ho,hc⟩
  unfold Builtin.SmallTypes.nextOf
  refine AA (EB (name:=Str.ofString "__next__") ty DQ (EA DQ ty HF ?_ (HI _)))
  refine AA (m:=field (.ref it) 0) (CV ho hd (x:=.ref l) rfl ?_)
  dsimp only
  rw[AF (λz:(Value.ref l==Value.none)=true=>CB z)]
  refine AA (m:=field (.ref it) 1) (CV ho hd (x:=.int i 0) rfl (AA (m:=seqItems? (.ref l)) (DZ jg jz ?_)))
  simp only[HL,hx]
  refine AA (GU (AA (wpAny_setField ho hd (by simp) (AA (m:=newExc (.type "StopIteration") []) ?_))))
  simp only[newExc,newTuple]
  refine AA (DC (AA (m:=firstArgMember _ _) (wpAny_of_eq (a:=Value.none) (by first|rfl|(simp only[firstArgMember];rfl)) (DC ?_ (by size_fits)))) (by size_fits))
  simp only[raiseNew]
  refine AA (wpAny_handled ?_)
  first|rw[show A.in1.handled=none from hh]|rw[hh]
  exact AA (AG (wpAny_throw (hE _ _ (((EZ ..).extBut.push _).push _) ⟨_,AO _ rfl,rfl⟩)))
def pU {t:Bool}{l:Addr}{xs:Array Value}{Q:Value->Shared->Prop}(hl:SqK t s.heap l xs)
  (hQ:Q (.ref s.heap.objs.size) {s with heap:=s.heap.push {cls:=.type (if t then "tuple_iterator" else "list_iterator"),data:=.fields #[.ref l,.int 0 0]}}):wpAny (model prog w) A (pyIter (.ref l)) Q E s:=by
 cases t with
 |false=>exact EM (show s.heap.IsList l xs from hl) hQ
 |true=>exact PyProof.Rows.iter_tuple (show IsTup s.heap l xs from hl) hQ
def Zbb {t1 t2:Bool}{z TI TO i1 i2 l1 l2:Addr}{k1 k2:Nat}{xs ys:Array Value}{x y a b:Value}{Q:Value->Shared->Prop}(D:ZipApart z TI TO i1 i2 l1 l2)(yz:IsZip s.heap z TI TO .none)(yI:IsPair s.heap TI (.ref i1) (.ref i2))(yO:IsPair s.heap TO a b)(y1:ItK t1 s.heap i1 l1 k1)(y2:ItK t2 s.heap i2 l2 k2)(m1:SqK t1 s.heap l1 xs)(m2:SqK t2 s.heap l2 ys)(ex:xs[k1]?=some x)(ey:ys[k2]?=some y)(hQ:∀h',IsZip h' z TI TO (rawInt s.heap.objs.size)->IsPair h' TO x y->ItK t1 h' i1 l1 (k1+1)->ItK t2 h' i2 l2 (k2+1)->IsPair h' s.heap.objs.size x y->h'.objs.size=s.heap.objs.size+1->(∀c o,c≠z->c≠TO->c≠i1->c≠i2->s.heap.get? c=some o->h'.get? c=some o)->Q (.ref s.heap.objs.size) {s with heap:=h'}):
  wpAny (model prog w) A (Builtin.«zip.__next__» ⟨[.ref z],[]⟩) (λfin s'=>∃v,fin=.done (.ret v)/\Q v s') E s:=by
 refine AA (m:=field (.ref z) 2) (CV yz rfl (x:=.bool false) rfl (AA (m:=field (.ref z) 3) (CV yz rfl (x:=.ref TI) rfl (AA (DZ yI rfl ?_)))))
 refine AA (m:=Builtin.SmallTypes.ownedTupleIsFree (.ref z)) ?_
 unfold Builtin.SmallTypes.ownedTupleIsFree
 refine AA (CV yz rfl (x:=.none) rfl (AG ?_));simp only[DW]
 refine AA (GU (AA (CV yz rfl (x:=.ref TO) rfl (AA (EE yz (by simp) λh1 z1 e1=>AA ?_)))))
 have z1:IsZip h1 z TI TO .ellipsis:=z1
 simp only[LL,LV,HY,MH]
 refine AA (AA (HR (AA (m:=Builtin.SmallTypes.nextOf (.ref i1)) (Nh (s:={s with heap:=h1}) (y1.at λo q=>e1.extBut _ _ D.i1z q) (m1.at λo q=>e1.extBut _ _ D.l1z q) ex λh2 n1 e2=>AG ?_))))
 have o2:IsPair h2 TO a b:=e2.extBut _ _ D.TOi1 (e1.extBut _ _ D.TOz yO)
 refine AA (DZ o2 rfl (AA (HG o2 λh3 o3 e3=>AA (MB (AG ?_)))))
 have o3:IsPair h3 TO x b:=o3
 refine AA (AA (HR (AA (m:=Builtin.SmallTypes.nextOf (.ref i2)) (Nh (s:={s with heap:=h3}) (y2.at λo q=>e3.extBut _ _ D.TOi2.symm (e2.extBut _ _ D.i12.symm (e1.extBut _ _ D.i2z q))) (m2.at λo q=>e3.extBut _ _ D.l2TO (e2.extBut _ _ D.l2i1 (e1.extBut _ _ D.l2z q))) ey λh4 n2 e4=>AG ?_))))
 have o4:IsPair h4 TO x b:=e4.extBut _ _ D.TOi2 o3
 refine AA (DZ o4 rfl (AA (HG o4 λh5 o5 e5=>AA (MB (AG (AG ?_))))))
 have o5:IsPair h5 TO x y:=o5
 refine AA (DZ o5 rfl (AA (JP ?_)))
 have sz:h5.objs.size=s.heap.objs.size:=by rw[e5.1,e4.1,e3.1,e2.1,e1.1]
 have z5:IsZip h5 z TI TO .ellipsis:=e5.extBut _ _ D.TOz.symm (e4.extBut _ _ D.i2z.symm (e3.extBut _ _ D.TOz.symm (e2.extBut _ _ D.i1z.symm z1)))
 have kk:∀c o,c≠z->c≠TO->c≠i1->c≠i2->s.heap.get? c=some o->h5.get? c=some o:=λc o c1 c2 c3 c4 q=>e5.extBut _ _ c2 (e4.extBut _ _ c4 (e3.extBut _ _ c2 (e2.extBut _ _ c3 (e1.extBut _ _ c1 q))))
 have f1:ItK t1 h5 i1 l1 (k1+1):=n1.at λo q=>e5.extBut _ _ D.TOi1.symm (e4.extBut _ _ D.i12 (e3.extBut _ _ D.TOi1.symm q))
 have f2:ItK t2 h5 i2 l2 (k2+1):=n2.at λo q=>e5.extBut _ _ D.TOi2.symm q
 have zl:z<h5.objs.size:=AN z5
 refine AA (m:=Builtin.SmallTypes.ownedTupleHandOut (.ref z) (.ref h5.objs.size)) ?_
 unfold Builtin.SmallTypes.ownedTupleHandOut
 have z6:IsZip (h5.push {cls:=.type "tuple", data:=.seq #[x,y]}) z TI TO .ellipsis:=AB _ z5
 refine AA (EE z6 (by simp) λh7 z7 e7=>?_)
 have z7:IsZip h7 z TI TO (rawInt h5.objs.size):=z7
 refine EE z7 (by simp) λh8 z8 e8=>?_
 have z8:IsZip h8 z TI TO (rawInt h5.objs.size):=z8
 have up:∀c o,c≠z->h5.get? c=some o->h8.get? c=some o:=λc o c1 q=>e8.extBut _ _ c1 (e7.extBut _ _ c1 (AB _ q))
 have nz:h5.objs.size≠z:=DX zl
 have T8:IsPair h8 h5.objs.size x y:=e8.extBut _ _ nz (e7.extBut _ _ nz (AO _ rfl))
 have s8:h8.objs.size=h5.objs.size+1:=by rw[e8.1,e7.1,DD]
 refine AG ⟨_,rfl,?_⟩
 rw[sz] at z8 T8 s8
 have fin:=hQ h8 z8 (up _ _ D.TOz o5) (f1.at λo q=>up _ o D.i1z q) (f2.at λo q=>up _ o D.i2z q) T8 s8 λc o c1 c2 c3 c4 q=>up c o c1 (kk c o c1 c2 c3 c4 q)
 rw[<-sz] at fin
 exact fin
def Zdz {t1 t2:Bool}{z TI TO i1 i2 l1 l2:Addr}{k1 k2:Nat}{xs ys:Array Value}{a b:Value}{Q:Fin->Shared->Prop}(hh:A.handled=none)(D:ZipApart z TI TO i1 i2 l1 l2)(yz:IsZip s.heap z TI TO .none)(yI:IsPair s.heap TI (.ref i1) (.ref i2))(yO:IsPair s.heap TO a b)(y1:ItK t1 s.heap i1 l1 k1)(y2:ItK t2 s.heap i2 l2 k2)(m1:SqK t1 s.heap l1 xs)(m2:SqK t2 s.heap l2 ys)(bP:xs[k1]?=none\/ys[k2]?=none)
  (hE:∀h' e,(∀c o,c≠z->c≠TO->c≠i1->c≠i2->s.heap.get? c=some o->h'.get? c=some o)->(∃o,h'.get? e=some o/\o.cls=.type "StopIteration")->E (.ref e) {s with heap:=h'}):
  wpAny (model prog w) A (Builtin.«zip.__next__» ⟨[.ref z],[]⟩) Q E s:=by
 refine AA (m:=field (.ref z) 2) (CV yz rfl (x:=.bool false) rfl (AA (m:=field (.ref z) 3) (CV yz rfl (x:=.ref TI) rfl (AA (DZ yI rfl ?_)))))
 refine AA (m:=Builtin.SmallTypes.ownedTupleIsFree (.ref z)) ?_
 unfold Builtin.SmallTypes.ownedTupleIsFree
 refine AA (CV yz rfl (x:=.none) rfl (AG ?_));simp only[DW]
 refine AA (GU (AA (CV yz rfl (x:=.ref TO) rfl (AA (EE yz (by simp) λh1 z1 e1=>AA ?_)))))
 have z1:IsZip h1 z TI TO .ellipsis:=z1
 simp only[LL,LV,HY,MH]
 refine AA (AA (HR (AA (m:=Builtin.SmallTypes.nextOf (.ref i1)) ?_)))
 have u1:=y1.at (h':=h1) λo q=>e1.extBut _ _ D.i1z q
 have v1:=m1.at (h':=h1) λo q=>e1.extBut _ _ D.l1z q
 cases hx:xs[k1]? with
 |none=>
  refine Bf (s:={s with heap:=h1}) hh u1 v1 hx λh2 e e2 he=>?_
  obtain⟨oe,q1,q2⟩:=he
  have z2:IsZip h2 z TI TO .ellipsis:=e2 _ _ D.i1z.symm z1
  have nz:e≠z:=λr=>by subst r;rw[z2] at q1;cases q1;simp at q2
  exact EE z2 (by simp) λh3 _ e3=>hE h3 e (λc o c1 _ c3 _ r=>e3.extBut _ _ c1 (e2 _ _ c3 (e1.extBut _ _ c1 r))) ⟨oe,e3.extBut _ _ nz q1,q2⟩
 |some x=>
  have hy:ys[k2]?=none:=by
   rcases bP with q|q
   .rw[hx] at q;cases q
   .exact q
  refine Nh (s:={s with heap:=h1}) u1 v1 hx λh2 n1 e2=>AG ?_
  have o2:IsPair h2 TO a b:=e2.extBut _ _ D.TOi1 (e1.extBut _ _ D.TOz yO)
  refine AA (DZ o2 rfl (AA (HG o2 λh3 o3 e3=>AA (MB (AG ?_)))))
  refine AA (AA (HR (AA (m:=Builtin.SmallTypes.nextOf (.ref i2)) (Bf (s:={s with heap:=h3}) hh (y2.at λo q=>e3.extBut _ _ D.TOi2.symm (e2.extBut _ _ D.i12.symm (e1.extBut _ _ D.i2z q))) (m2.at λo q=>e3.extBut _ _ D.l2TO (e2.extBut _ _ D.l2i1 (e1.extBut _ _ D.l2z q))) hy λh4 e e4 he=>?_))))
  obtain⟨oe,q1,q2⟩:=he
  have z4:IsZip h4 z TI TO .ellipsis:=e4 _ _ D.i2z.symm (e3.extBut _ _ D.TOz.symm (e2.extBut _ _ D.i1z.symm z1))
  have nz:e≠z:=λr=>by subst r;rw[z4] at q1;cases q1;simp at q2
  exact EE z4 (by simp) λh5 _ e5=>hE h5 e (λc o c1 c2 c3 c4 r=>e5.extBut _ _ c1 (e4 _ _ c4 (e3.extBut _ _ c2 (e2.extBut _ _ c3 (e1.extBut _ _ c1 r))))) ⟨oe,e5.extBut _ _ nz q1,q2⟩
def F5 {t1 t2:Bool}{z TI TO i1 i2 l1 l2:Addr}{k1 k2:Nat}{xs ys:Array Value}{x y a b:Value}{Q:Option Value->Shared->Prop}(D:ZipApart z TI TO i1 i2 l1 l2)(yz:IsZip s.heap z TI TO .none)(yI:IsPair s.heap TI (.ref i1) (.ref i2))(yO:IsPair s.heap TO a b)(y1:ItK t1 s.heap i1 l1 k1)(y2:ItK t2 s.heap i2 l2 k2)(m1:SqK t1 s.heap l1 xs)(m2:SqK t2 s.heap l2 ys)(ex:xs[k1]?=some x)(ey:ys[k2]?=some y)(hQ:∀h',IsZip h' z TI TO (rawInt s.heap.objs.size)->IsPair h' TO x y->ItK t1 h' i1 l1 (k1+1)->ItK t2 h' i2 l2 (k2+1)->IsPair h' s.heap.objs.size x y->h'.objs.size=s.heap.objs.size+1->(∀c o,c≠z->c≠TO->c≠i1->c≠i2->s.heap.get? c=some o->h'.get? c=some o)->Q (some (.ref s.heap.objs.size)) {s with heap:=h'}):
  wpAny (model prog w) A (pyNext (.ref z)) Q E s:=by
 have ty:s.TypeIs (.ref z) "zip":=⟨_,yz,rfl⟩
 unfold pyNext
 exact AA (wpAny_attempt (EB (name:=Str.ofString "__next__") ty HA (EA HA ty F.entry_zip_next
  (Zbb D yz yI yO y1 y2 m1 m2 ex ey λh' a1 a2 a3 a4 a5 a6 a7=>AG (hQ h' a1 a2 a3 a4 a5 a6 a7)) (F.args_zip_next_1 _))))
def Zbc {t1 t2:Bool}{z TI TO i1 i2 l1 l2:Addr}{k1 k2:Nat}{xs ys:Array Value}{a b:Value}{Q:Option Value->Shared->Prop}(hh:A.handled=none)(D:ZipApart z TI TO i1 i2 l1 l2)(yz:IsZip s.heap z TI TO .none)(yI:IsPair s.heap TI (.ref i1) (.ref i2))(yO:IsPair s.heap TO a b)(y1:ItK t1 s.heap i1 l1 k1)(y2:ItK t2 s.heap i2 l2 k2)(m1:SqK t1 s.heap l1 xs)(m2:SqK t2 s.heap l2 ys)(bP:xs[k1]?=none\/ys[k2]?=none)(hQ:∀h',(∀c o,c≠z->c≠TO->c≠i1->c≠i2->s.heap.get? c=some o->h'.get? c=some o)->Q none {s with heap:=h'}):wpAny (model prog w) A (pyNext (.ref z)) Q E s:=by
 have ty:s.TypeIs (.ref z) "zip":=⟨_,yz,rfl⟩
 unfold pyNext
 refine AA (wpAny_attempt (EB (name:=Str.ofString "__next__") ty HA (EA HA ty F.entry_zip_next (Zdz hh D yz yI yO y1 y2 m1 m2 bP λh' e hk he=>?_) (F.args_zip_next_1 _))))
 obtain⟨o,q1,q2⟩:=he
 exact AA (wpAny_isInstance (T:="StopIteration") (b:=true) ⟨o,q1,q2⟩ isSubtype_stop (AG (hQ _ hk)))
abbrev WM (t:Bool)(l:Addr):Obj:={cls:=.type (if t then "tuple_iterator" else "list_iterator"),data:=.fields #[.ref l,.int 0 0]}
abbrev b9 (t1 t2:Bool)(h:Heap)(l1 l2:Addr):Heap:=(h.push (WM t1 l1)).push (WM t2 l2)
abbrev hG (t1 t2:Bool)(h:Heap)(l1 l2:Addr):Heap:=((b9 t1 t2 h l1 l2).push {cls:=.type "tuple", data:=.seq #[.ref h.objs.size,.ref (h.push (WM t1 l1)).objs.size]}).push {cls:=.type "tuple", data:=.seq #[.none,.none]}
abbrev cv (t1 t2:Bool)(h:Heap)(l1 l2:Addr):Heap:=(hG t1 t2 h l1 l2).push {cls:=.type "zip", data:=.fields #[.none,.bool false,.bool false,.ref (b9 t1 t2 h l1 l2).objs.size,.ref ((b9 t1 t2 h l1 l2).push {cls:=.type "tuple", data:=.seq #[.ref h.objs.size,.ref (h.push (WM t1 l1)).objs.size]}).objs.size]}
def wy (t1 t2:Bool)(l1 l2:Addr)(xs ys:Array Value):Meets (Builtin.«zip.__new__» ⟨[.type "zip", .ref l1,.ref l2],[]⟩) (λ_ R s=>SqK t1 s.heap l1 xs/\SqK t2 s.heap l2 ys/\R (.ok (.ret (.ref (hG t1 t2 s.heap l1 l2).objs.size))) {s with heap:=cv t1 t2 s.heap l1 l2}):=
 .of_wp λprog w A R s h=>by
  obtain⟨hp,g,d,tk,os⟩:=s
  obtain⟨h1,h2,h⟩:=h
  have sb:=sub_zip
  have b1:SqK t1 (Shared.heap ⟨hp,g,d,tk,os⟩) l1 xs:=h1
  have b2:SqK t2 (Shared.heap ⟨hp.push (WM t1 l1),g,d,tk,os⟩) l2 ys:=h2.at λo q=>AB _ q
  wp_walk using pU b1,pU b2
  exact⟨_,rfl,h⟩
def xh {t1 t2:Bool}{l1 l2:Addr}{xs ys:Array Value}{Q:Value->Shared->Prop}(m1:SqK t1 s.heap l1 xs)(m2:SqK t2 s.heap l2 ys)(h:∀h',IsZip h' (s.heap.objs.size+4) (s.heap.objs.size+2) (s.heap.objs.size+3) .none->IsPair h' (s.heap.objs.size+2) (.ref s.heap.objs.size) (.ref (s.heap.objs.size+1))->IsPair h' (s.heap.objs.size+3) .none .none ->
   ItK t1 h' s.heap.objs.size l1 0->ItK t2 h' (s.heap.objs.size+1) l2 0->(∀c o,s.heap.get? c=some o->h'.get? c=some o)->Q (.ref (s.heap.objs.size+4)) {s with heap:=h'}):wpAny (model prog w) A (call (.type "zip") [.ref l1,.ref l2]) Q E s:=by
 refine callType_new F.called_zip (by decide) (F.typeCall_zip_2 _ _) (F.newCall_zip_2 _ _) (λobj=>F.args_object_init_3 obj _ _) F.entry_zip_new (wy t1 t2 l1 l2 xs ys) ⟨m1,m2,?_⟩
 have z1:(s.heap.push (WM t1 l1)).objs.size=s.heap.objs.size+1:=DD ..
 have z2:(b9 t1 t2 s.heap l1 l2).objs.size=s.heap.objs.size+2:=by rw[DD,z1]
 have z3:((b9 t1 t2 s.heap l1 l2).push {cls:=.type "tuple", data:=.seq #[.ref s.heap.objs.size,.ref (s.heap.push (WM t1 l1)).objs.size]}).objs.size=s.heap.objs.size+3:=by rw[DD,z2]
 have z4:(hG t1 t2 s.heap l1 l2).objs.size=s.heap.objs.size+4:=by rw[DD,z3]
 have g5:(cv t1 t2 s.heap l1 l2).get? (hG t1 t2 s.heap l1 l2).objs.size=some _:=AO _ rfl
 have g4:(cv t1 t2 s.heap l1 l2).get? ((b9 t1 t2 s.heap l1 l2).push {cls:=.type "tuple", data:=.seq #[.ref s.heap.objs.size,.ref (s.heap.push (WM t1 l1)).objs.size]}).objs.size=some {cls:=.type "tuple", data:=.seq #[.none,.none]}:=AB _ (AO _ rfl)
 have g3:(cv t1 t2 s.heap l1 l2).get? (b9 t1 t2 s.heap l1 l2).objs.size=some {cls:=.type "tuple", data:=.seq #[.ref s.heap.objs.size,.ref (s.heap.push (WM t1 l1)).objs.size]}:=AB _ (AB _ (AO _ rfl))
 have g2:(cv t1 t2 s.heap l1 l2).get? (s.heap.push (WM t1 l1)).objs.size=some (WM t2 l2):=AB _ (AB _ (AB _ (AO _ rfl)))
 have g1:(cv t1 t2 s.heap l1 l2).get? s.heap.objs.size=some (WM t1 l1):=AB _ (AB _ (AB _ (AB _ (AO _ rfl))))
 show _/\_
 rw[z2,z3,z4] at g5
 rw[z1,z2] at g3
 rw[z3] at g4
 rw[z1] at g2
 rw[z4]
 exact⟨⟨_,g5,rfl⟩,h _ g5 g3 g4 ⟨_,g1,rfl,rfl⟩ ⟨_,g2,rfl,rfl⟩ λc o q=>AB _ (AB _ (AB _ (AB _ (AB _ q))))⟩
end
def Tz (t:Bool)(K:PySem.W.Frag)(H:Hp)(a:Addr)(xs:List V):Prop:=if t=true then SqT K H a xs else SqL K H a xs
def Ud {X:Cx}{pins:List (Addr×Obj)}{σ:L2.St}{H:Hp}{s:Shared}{t:Bool}{a:Addr}{xs:List V}(I:Inv X pins σ H s)(h:Tz t X.K H a xs):∃its:List Value,Vals xs its/\SqK t s.heap a its.toArray:=by
 cases t with
 |false=>
  obtain⟨its,rv,p,_⟩:=I.list (show SqL X.K H a xs from h)
  exact⟨its,rv,p.isList⟩
 |true=>
  obtain⟨its,rv,p,_⟩:=I.tuple (show SqT X.K H a xs from h)
  exact⟨its,rv,p⟩
def Iy {X:Cx}{pins:List (Addr×Obj)}{σ:L2.St}{H:Hp}{s:Shared}{t:Bool}{a:Addr}{xs ys:List V}(I:Inv X pins σ H s)(h:Tz t X.K H a xs)(h':Tz t X.K H a ys):xs=ys:=by
 cases t with
 |false=>exact I.list_inj (show SqL X.K H a xs from h) (show SqL X.K H a ys from h')
 |true=>exact I.tuple_inj (show SqT X.K H a xs from h) (show SqT X.K H a ys from h')
def Kz {K:PySem.W.Frag}{H H':Hp}{t:Bool}{a:Addr}{xs:List V}(e:Same H H')(h:Tz t K H a xs):Tz t K H' a xs:=by
 cases t with
 |false=>exact e.seq (show SqL K H a xs from h)
 |true=>exact e.seqT (show SqT K H a xs from h)
def km (t1 t2:Bool)(K:PySem.W.Frag)(a b:Addr):It:=
 ⟨λi H=>∃xs ys x y,Tz t1 K H a xs/\Tz t2 K H b ys/\xs[i]?=some x/\ys[i]?=some y,
  λi H v H'=>∃p x y,H p=none/\v=.ref p/\H'=upd H p (.tup [x,y])/\(∀xs,Tz t1 K H a xs->xs[i]?=some x)/\∀ys,Tz t2 K H b ys->ys[i]?=some y,
  λi H=>∃xs ys,Tz t1 K H a xs/\Tz t2 K H b ys/\(xs.length<=i\/ys.length<=i)⟩
abbrev wC (t1 t2:Bool)(a b z TI TO i1 i2:Addr)(i:Nat)(h:Heap):Prop:=IsZip h z TI TO .none/\IsPair h TI (.ref i1) (.ref i2)/\(∃p q,IsPair h TO p q)/\ItK t1 h i1 a i/\ItK t2 h i2 b i/\a<z/\b<z/\a≠TO/\b≠TO/\a≠i1/\a≠i2/\b≠i1/\b≠i2
def Zbd {P:Program}{w:World}{K:PySem.W.Frag}{es:List Expr}{k:Nat}{pos:Pos}(t1 t2:Bool)(a b z TI TO i1 i2:Addr)(A:ZA z TI TO i1 i2):Turn P w K (.Tuple es k pos) (km t1 t2 K a b) [z,TI,TO,i1,i2] z (wC t1 t2 a b z TI TO i1 i2) where
 mem:=by simp
 obj:=λi h st c hc=>by
  obtain⟨hz,ZU,⟨p,q,aT⟩,⟨o1,e1,c1,d1⟩,⟨o2,e2,c2,d2⟩,_⟩:=st
  simp at hc
  rcases hc with rfl|rfl|rfl|rfl|rfl
  .exact⟨_,hz,λv z=>by cases z⟩
  .exact⟨_,ZU,λv z=>by cases z⟩
  .exact⟨_,aT,λv z=>by cases z⟩
  .exact⟨o1,e1,λv z=>by rw[d1] at z;cases z⟩
  .exact⟨o2,e2,λv z=>by rw[d2] at z;cases z⟩
 keep:=λi h h' st kk=>by
  obtain⟨hz,ZU,⟨p,q,aT⟩,h1,h2,ap⟩:=st
  exact⟨kk z (by simp) _ hz,kk TI (by simp) _ ZU,⟨p,q,kk TO (by simp) _ aT⟩,h1.at λo e=>kk i1 (by simp) o e,h2.at λo e=>kk i2 (by simp) o e,ap⟩
 item:=by
  intro X hP hw hK hc i pins s σ H E I hf st hg
  subst hP hw hK
  obtain⟨xs,ys,x,y,hq1,SA,hx,hy⟩:=hg
  obtain⟨its1,rv1,p1⟩:=Ud I hq1
  obtain⟨its2,rv2,p2⟩:=Ud I SA
  obtain⟨u1,gJ,sS⟩:=rv1.get hx
  obtain⟨u2,uD,sR⟩:=rv2.get hy
  obtain⟨hz,ZU,⟨p,q,aT⟩,h1,h2,w1,w2,w3,w4,w5,w6,w7,w8⟩:=id st
  have D:ZipApart z TI TO i1 i2 a b:=⟨A.TIz,A.TOz,A.i1z,A.i2z,A.TITO,A.TIi1,A.TIi2,A.TOi1,A.TOi2,A.i12,AK w1,w3,w5,w6,AK w2,w4,w7,w8⟩
  refine F5 D hz ZU aT h1 h2 p1 p2 (x:=u1) (y:=u2) (by simpa using gJ) (by simpa using uD) λh' a1 a2 a3 a4 a5 a6 a7=>⟨_,rfl,wpAny_letOwnedTupleGo_zip a1 λh'' b1 b2=>?_⟩
  have lt:∀{c o},s.heap.get? c=some o->c≠s.heap.objs.size:=λe=>AK (AN e)
  have kk:∀b u,b ∉ [z,TI,TO,i1,i2]->s.heap.get? b=some u->h''.get? b=some u:=λb u nb q=>(b2.2 b (λz=>nb (by simp[z]))).trans (a7 b u (λz=>nb (by simp[z])) (λz=>nb (by simp[z])) (λz=>nb (by simp[z])) (λz=>nb (by simp[z])) q)
  have hT:h''.get? s.heap.objs.size=some {cls:=.type "tuple", data:=.seq #[u1,u2]}:=(b2.2 _ (EL (lt hz))).trans a5
  refine⟨.ref s.heap.objs.size,_,I.turnedT (o:=.tup [x,y]) (t':=s.toks) hf kk (AQ _) ⟨by show 2<=sizeLine;decide,[u1,u2],.cons sS (.cons sR .nil),⟨_,hT,rfl,_,rfl⟩⟩,rfl,
   ⟨_,x,y,I.fresh,rfl,rfl,λzs hy=>by rw[Iy I hy hq1];exact hx,λzs da=>by rw[Iy I da SA];exact hy⟩,
   ⟨b1,(b2.2 TI A.TIz).trans (a7 _ _ A.TIz A.TITO A.TIi1 A.TIi2 ZU),⟨u1,u2,(b2.2 TO A.TOz).trans a2⟩,a3.at λo q=>(b2.2 i1 A.i1z).trans q,a4.at λo q=>(b2.2 i2 A.i2z).trans q,w1,w2,w3,w4,w5,w6,w7,w8⟩,λb hb=>?_⟩
  have:b≠s.heap.objs.size:=by
   obtain⟨o1,e1,_⟩:=id h1
   obtain⟨o2,e2,_⟩:=id h2
   have SB:=hb
   simp at SB
   rcases SB with rfl|rfl|rfl|rfl|rfl
   .exact lt hz
   .exact lt ZU
   .exact lt aT
   .exact lt e1
   .exact lt e2
  rw[Zm this];exact(hf b hb).1
 done:=by
  intro X hP hw hK hc i pins s σ H E I hf st hg
  subst hP hw hK
  obtain⟨xs,ys,hq1,SA,hx⟩:=hg
  obtain⟨its1,rv1,p1⟩:=Ud I hq1
  obtain⟨its2,rv2,p2⟩:=Ud I SA
  have jn:=rv1.length
  have mh:=rv2.length
  obtain⟨hz,ZU,⟨p,q,aT⟩,h1,h2,w1,w2,w3,w4,w5,w6,w7,w8⟩:=id st
  have D:ZipApart z TI TO i1 i2 a b:=⟨A.TIz,A.TOz,A.i1z,A.i2z,A.TITO,A.TIi1,A.TIi2,A.TOi1,A.TOi2,A.i12,AK w1,w3,w5,w6,AK w2,w4,w7,w8⟩
  refine Zbc (I.ok.hd hc) D hz ZU aT h1 h2 p1 p2 ?_ λh' eb=>⟨rfl,I.turnedF (t':=s.toks) hf λb u nb q=>eb b u (λz=>nb (by simp[z])) (λz=>nb (by simp[z])) (λz=>nb (by simp[z])) (λz=>nb (by simp[z])) q⟩
  rcases hx with hx|hx
  .exact .inl (by simp;lia)
  .exact .inr (by simp;lia)
 self:=λ_ _ _ _ _ st h=>wpAny_pyIter_zip st.1 h
section
variable {X:Cx}{E:XK}{pos p p2:Pos}{es:List Expr}{k:Nat}
def vz (t1 t2:Bool)(K:PySem.W.Frag)(tl:TA):TI:=λσ H R=>tl σ H λvs H1=>∃a b,vs=[.ref a,.ref b]/\(∃xs,Tz t1 K H1 a xs)/\(∃ys,Tz t2 K H1 b ys)/\R (km t1 t2 K a b) H1
def Zg8 (t1 t2:Bool){l m:Expr}{tl:TA} (hg:Gl X "zip") (hm:X.mg "zip"=none) (hl:PA X [l,m] tl) (hs:starEach [l,m] X.env=[(false,eval l X.env),(false,eval m X.env)]:=by rfl) (hs2:starEach [m] X.env=[(false,eval m X.env)]:=by rfl):
  PI X (.Tuple es k p2) (.Call (.Name "zip" p) [l,m] [] pos) (vz t1 t2 X.K tl):=by
 intro pins s σ H R I h
 refine Call_ (Gz I hg hm boot_zip (DO (Y8 (hl pos pins s σ H _ I h) λus s1 ⟨vs,H1,I1,r1,q1⟩=>?_) (by rw[hs,hs2]) (by rw[hs2];rfl)))
 obtain⟨a,b,rfl,⟨xs,hq⟩,⟨ys,SA⟩,q⟩:=q1
 obtain⟨u,w',rfl,rx,ry⟩:=Tj r1
 cases rx
 cases ry
 obtain⟨its,rv,pl⟩:=Ud I1 hq
 obtain⟨its2,rv2,pl2⟩:=Ud I1 SA
 refine xh pl pl2 λh' e1 e2 e3 e4 e5 e7=>wpAny_pyIter_zip e1 ?_
 have I2:Inv X pins σ H1 {s1 with heap:=h'}:=I1.kept (t':=s1.toks) e7
 have la:a<s1.heap.objs.size:=by obtain⟨o,z,_⟩:=pl;exact AN z
 have lb:b<s1.heap.objs.size:=by obtain⟨o,z,_⟩:=pl2;exact AN z
 refine⟨s1.heap.objs.size+4,[s1.heap.objs.size+4,s1.heap.objs.size+2,s1.heap.objs.size+3,s1.heap.objs.size,s1.heap.objs.size+1],_,_,H1,rfl,I2,Zbd t1 t2 a b (s1.heap.objs.size+4) (s1.heap.objs.size+2) (s1.heap.objs.size+3) s1.heap.objs.size (s1.heap.objs.size+1) (wF _),
  ⟨e1,e2,⟨_,_,e3⟩,e4,e5,BB la (FZ _ _),BB lb (FZ _ _),AK (BB la (FZ _ _)),AK (BB lb (FZ _ _)),AK la,AK (DJ la),AK lb,AK (DJ lb)⟩,λb hb=>?_,q⟩
 have hb:s1.heap.objs.size<=b:=by simp at hb;rcases hb with rfl|rfl|rfl|rfl|rfl<;>lia
 exact I1.fpOk hb (I1.hok.fresh hb)
def ya {t1 t2:Bool}{K:PySem.W.Frag}{Hf H:Hp}{a b:Addr}{xs ys:List V}{ds es:List D}(h:Tz t1 K Hf a xs)(r:Reps K Hf ds xs)(h':Tz t2 K Hf b ys)(r':Reps K Hf es ys):Tt K Hf H (ia ds es) (km t1 t2 K a b):=by
 intro i ML H1 e1 e2
 have h2:=Kz e2 (Kz e1 h)
 have h3:=Kz e2 (Kz e1 h')
 rw[Zdp]
 cases q:ds[i]? with
 |none=>exact⟨xs,ys,h2,h3,.inl (BL.mp (r.none_of q))⟩
 |some d=>
  cases q':es[i]? with
  |none=>exact⟨xs,ys,h2,h3,.inr (BL.mp (r'.none_of q'))⟩
  |some e=>
   obtain⟨x,ex,rx⟩:=r.get q
   obtain⟨y,ey,ry⟩:=r'.get q'
   refine⟨⟨xs,ys,x,y,h2,h3,ex,ey⟩,λv H2 hy=>?_⟩
   obtain⟨p,x',y',hp,rfl,rfl,hall,eL⟩:=hy
   have cW:=hall xs h2
   rw[ex] at cW
   cases cW
   have gf:=eL ys h3
   rw[ey] at gf
   cases gf
   exact⟨_,Gr.alloc e2 hp _,Gr.tup e2 hp (Reps.cons (rx.mono e1) (Reps.cons (ry.mono e1) Reps.nil))⟩
end
end DL
namespace DL
open PySem PySem.Spec PyProof.Rows L2 PySem.W
def Pg (s:Stmt)(j:Nat):Stmt:=match s with
 |.ClassDef _ _ _ body _ _ _ _ _ _ _=>body.getD j (.Pass ⟨0,0,0,0⟩)
 |_=>.Pass ⟨0,0,0,0⟩
def Wl (q:Nat->Nat->Option Bool){α:Type}:KasT α->Option α
 |.ret a=>some a
 |.ask i j k=>match q i j with
  |some b=>Wl q (k b)
  |none=>none
theorem Iz {q:Nat->Nat->Option Bool}{cmp:Nat->Nat->(Bool->Shared->Prop)->Shared->Prop}{α:Type}{Q:α->Shared->Prop}{s:Shared}{a:α}(hc:∀i j b C,q i j=some b->C b s->cmp i j C s):∀t:KasT α,Wl q t=some a->Q a s->t.kasWp cmp Q s
 |.ret b,e,h=>by
  cases (BJ (show some b=some a from e))
  exact h
 |.ask i j k,e,h=>by
  unfold Wl at e
  cases z:q i j with
  |none=>rw[z] at e;cases e
  |some b=>
   rw[z] at e
   exact hc i j b _ z (Iz hc (k b) e h)
def g9:V->V->Option Bool
 |.int a,.int b=>some (decide (a<b))
 |.str a,.str b=>some (decide (a.cps.toList<b.cps.toList))
 |_,_=>none
def fO:V->V->Option Bool
 |.int a,.int b=>some (a==b)
 |.str a,.str b=>some (a==b)
 |_,_=>none
def aK:List V->List V->Option Bool
 |[],[]=>some false
 |x::xs,y::ys=>match fO x y with
  |some true=>aK xs ys
  |some false=>g9 x y
  |none=>none
 |_,_=>none
section
variable {prog:Program}{w:World}{A:Around}{E:Value->Shared->Prop}{s:Shared}
def yZ {x y:V}{u v:Value}{b:Bool}{Q:Bool->Shared->Prop}(h:fO x y=some b)(rx:RelV x u)(ry:RelV y v)(q:Q b s):wpAny (model prog w) A (eqBool u v) Q E s:=by
 unfold fO at h
 split at h
 .obtain⟨t,rfl⟩:=rx
  obtain⟨t',rfl⟩:=ry
  cases h
  exact wpAny_eqBool_int q
 .obtain⟨t,rfl⟩:=rx
  obtain⟨t',rfl⟩:=ry
  cases h
  exact PyProof.Rows.eqBool_str q
 .cases h
def yY {o:Bool}{x y:V}{u v:Value}{b:Bool}{Q:Bool->Shared->Prop}(h:g9 x y=some b)(rx:RelV x u)(ry:RelV y v)(q:Q b s):wpAny (model prog w) A (oneLt' o u v) Q E s:=by
 unfold g9 at h
 split at h
 .obtain⟨t,rfl⟩:=rx
  obtain⟨t',rfl⟩:=ry
  cases h
  cases o with
  |true=>exact oneLt_int q
  |false=>exact kat_one _ _ (PyProof.Rows.lt_int q)
 .obtain⟨t,rfl⟩:=rx
  obtain⟨t',rfl⟩:=ry
  cases h
  cases o with
  |true=>exact PyProof.Rows.oneLt_str q
  |false=>exact kat_one _ _ (PyProof.Rows.lt_str q)
 .cases h
theorem rF {o:Bool}{r:Bool}{Q:Bool->Shared->Prop}:∀{xs ys:List V}{us vs:List Value} (i:Nat),aK xs ys=some r->Vals xs us->Vals ys vs->Q r s->KatLex prog w A o false Q (us.zip vs) i s
 |[],[],_,_,i,h,.nil,.nil,q=>by
  cases (BJ (show some false=some r from h))
  exact kat_nil q
 |x::xs,y::ys,_,_,i,h,.cons rx r1,.cons ry r2,q=>by
  unfold aK at h
  refine kat_cons ?_
  cases z:fO x y with
  |none=>rw[z] at h;cases h
  |some b=>
   rw[z] at h
   refine yZ z rx ry ?_
   cases b with
   |true=>exact kat_yes (rF (i+1) h r1 r2 q)
   |false=>exact kat_no (yY h rx ry q)
 |[],_::_,_,_,_,h,_,_,_=>by cases h
 |_::_,[],_,_,_,h,_,_,_=>by cases h
def F6 {a:Addr}{vs:List Value}{n:Nat}{κ:SortKind}{q:Nat->Nat->Option Bool}{p:Array Nat}{P:Fin->Shared->Prop} (ho:s.heap.get? a=some (seqObj "list" vs.toArray n)) (h2:2<=vs.length) (gV:vs.length<64)
  (hk:∀h',(∀b o,b≠a->s.heap.get? b=some o->h'.get? b=some o)->∀Q:SortKind->Shared->Prop,Q κ {s with heap:=h'}->wpAny (model prog w) A (keyKind' vs.toArray) Q E {s with heap:=h'})
  (hq:∀h',(∀b o,b≠a->s.heap.get? b=some o->h'.get? b=some o)->∀i j b (C:Bool->Shared->Prop),q i j=some b->C b {s with heap:=h'}->kas_ask prog w A κ vs i j C {s with heap:=h'})
  (hp:Wl q (kas_sort vs.length)=some p) (h:p.size=vs.length->P (.done (.ret .none)) {s with heap:=sortedHeap s.heap a vs (p.toList.map λi=>vs.getD i Value.none).toArray}):
  wpAny (model prog w) A (Builtin.«list.sort» ⟨[.ref a],[]⟩) P E s:=by
 have la:a<s.heap.objs.size:=AN ho
 obtain⟨e1,d5⟩:∃e1,(s.heap.update a (Obj.mapSeq λ_=>#[])).get? a=some (seqObj "list" #[] e1):=⟨_,LS ho λ_=>#[]⟩
 have keep:∀b o,b≠a->s.heap.get? b=some o->(((s.heap.update a (Obj.mapSeq λ_=>#[])).push (seqObj "tuple" vs.toArray 0)).push (seqObj "list" #[] 0)).get? b=some o:=
  λb o nb e=>AB _ (AB _ ((GY _ _ (EL nb)).trans e))
 have dv:(((s.heap.update a (Obj.mapSeq λ_=>#[])).push (seqObj "tuple" vs.toArray 0)).push (seqObj "list" #[] 0)).get? a=some (seqObj "list" #[] e1):=AB _ (AB _ d5)
 have z1:vs.toArray.size<=sizeLine:=by rw[AL,CG];lia
 have n2:¬vs.toArray.size<2:=by rw[AL];lia
 rw[list_sort_plain]
 refine AA (JW ho rfl (AA (HE ho rfl (AA (LF d5 rfl (AA (JP (AA (GN (CO ?_) (CL _))) (by simpa using z1))))) z1 (CL _))))
 dsimp only
 rw[AF n2,AF n2]
 refine AA (hk _ keep _ ?_)
 have hz:(vs.toArray.zip vs.toArray)=pairsOf vs:=rfl
 refine AA (BR (kat_run (ks:=vs) (vs:=vs) (κ:=κ) (Q:=λUO s'=>p.size=vs.length/\arrOf UO=p.map (kas_item (vs.toArray.zip vs.toArray))/\failedOf UO=none/\s'=_) (G:=λp' s'=>p'=p/\s'=_) rfl h2 gV
  (λp' UO s' a1 a2 a3 a4=>by obtain⟨rfl,e⟩:=a4;exact⟨a1,a2,a3,e⟩) (Iz (hq _ keep) _ hp ⟨rfl,rfl⟩)) ?_ λ_ _ x=>x)
 rintro⟨⟨⟩,UO⟩ s' ⟨zz,uw,hf,rfl⟩
 dsimp only
 have dr:=kat_snds (ks:=vs) (vs:=vs) rfl uw
 refine AA (LF dv rfl (AA (HE dv rfl ?_ (CL _) (by rw[dr,AL,AC,DN,zz,CG];lia))))
 rw[hf]
 simp only[KR,CS,DM]
 rw[dr]
 exact AG (h zz)
def Dw {t:Bool}{l:Addr}{vs:List Value}{Q:List Value->Shared->Prop}(hl:SqK t s.heap l vs.toArray) (h:Q vs {s with heap:=(s.heap.push (seqObj "list" #[] 0)).update s.heap.objs.size (Obj.mapSeq (·++vs.toArray))}) (hz:vs.length<=sizeLine):
  wpAny (model prog w) A (collect (.ref l)) Q E s:=by
 cases t with
 |false=>exact collect_list (show s.heap.IsList l vs.toArray from hl) h hz
 |true=>
  obtain⟨o,ho,hc,n,hd⟩:=id hl
  have UU:(s.heap.push (seqObj "list" #[] 0)).get? l=some o:=AB _ ho
  have hn:(s.heap.push (seqObj "list" #[] 0)).get? s.heap.objs.size=some (seqObj "list" #[] 0):=AO _ rfl
  unfold collect
  refine AA (wpAny_runValue (codeAny_builtin entry_proto_collect' (AA (m:=newList []) (GN (AG ⟨Code.quiet_builtin _ (by decide +kernel),codeAny_builtin entry_list_iadd' ?_⟩)))))
  change wpAny _ _ (Builtin.List.listExtendWith _ _ _) _ _ _
  unfold Builtin.List.listExtendWith
  refine AA (wpAny_typeOf (T:="tuple") ⟨o,UU,hc⟩ ?_)
  have ht:(Value.type "tuple"== Value.type "tuple")=true:=by rfl
  rw[AD (by rw[ht];simp)]
  refine AA (JW UU hd (AA (JW hn rfl ?_)))
  rw[AF (by simp)]
  refine AA (HE hn rfl (AG ?_) (CL _) (by show(#[]++vs.toArray).size<=_;simp only[Array.size_append,AL,FP];lia))
  change wpAny _ _ (do
   let o <-load s.heap.objs.size
   match o.data with
   |.seq xs _=>pure xs.toList
   |_=>unsupported "internal:collect") Q E _
  refine AA (wpAny_load (LS hn _) ?_)
  change wpAny _ _ (pure ((#[]:Array Value)++vs.toArray).toList) Q E _
  have e0:((#[]:Array Value)++vs.toArray).toList=vs:=by simp
  rw[e0]
  exact AG h
def Zha {t:Bool}{l:Addr}{vs:List Value}{κ:SortKind}{q:Nat->Nat->Option Bool}{p:Array Nat}{Q:Value->Shared->Prop}(hl:SqK t s.heap l vs.toArray)(h2:2<=vs.length)(gV:vs.length<64)(hk:∀A' E' h',(∀b o,s.heap.get? b=some o->h'.get? b=some o)->∀Q:SortKind->Shared->Prop,Q κ {s with heap:=h'}->wpAny (model prog w) A' (keyKind' vs.toArray) Q E' {s with heap:=h'})(hq:∀A' h',(∀b o,s.heap.get? b=some o->h'.get? b=some o)->∀i j b (C:Bool->Shared->Prop),q i j=some b->C b {s with heap:=h'}->kas_ask prog w A' κ vs i j C {s with heap:=h'})(hp:Wl q (kas_sort vs.length)=some p)(h:p.size=vs.length->Q (.ref (s.heap.objs.size+1)) {s with heap:=sortedAll s.heap vs (p.toList.map λi=>vs.getD i Value.none).toArray}):
  wpAny (model prog w) A (call (.builtin "sorted") [.ref l]) Q E s:=by
 have z1:vs.length<=sizeLine:=by rw[CG];lia
 refine KC kind_sorted plain_sorted entry_sorted (args_sorted1 _) ?_
 unfold Builtin.«sorted»
 refine AA (m:=checkCount "sorted" 1 1 _) (AG (AA (Dw hl (AA (GN ?_ z1)) z1)))
 have hsz:((s.heap.push (seqObj "list" #[] 0)).update s.heap.objs.size (Obj.mapSeq (·++vs.toArray))).objs.size=s.heap.objs.size+1:=(Heap.size_update ..).trans (size_push' ..)
 have bG:(((s.heap.push (seqObj "list" #[] 0)).update s.heap.objs.size (Obj.mapSeq (·++vs.toArray))).push (seqObj "list" vs.toArray 0)).get? (s.heap.objs.size+1)=some (seqObj "list" vs.toArray 0):=hsz▸AO _ rfl
 have keep:∀b o,s.heap.get? b=some o->(((s.heap.push (seqObj "list" #[] 0)).update s.heap.objs.size (Obj.mapSeq (·++vs.toArray))).push (seqObj "list" vs.toArray 0)).get? b=some o:=λb o e=>
  AB _ ((GY _ _ (DX (AN e))).trans (AB _ e))
 have nb:∀b o,s.heap.get? b=some o->b≠s.heap.objs.size+1:=λb o e=>AK (DJ (AN e))
 change wpAny _ _ _ _ _ {s with heap:=((s.heap.push (seqObj "list" #[] 0)).update s.heap.objs.size (Obj.mapSeq (·++vs.toArray))).push (seqObj "list" vs.toArray 0)}
 rw[hsz]
 refine AA (CO (EA slot_list_sort ⟨_,bG,rfl⟩ entry_list_sort (F6 (κ:=κ) (q:=q) (p:=p) bG h2 gV (λh' e Q hQ=>hk _ _ h' (λb o z=>e b o (nb b o z) (keep b o z)) Q hQ)
  (λh' e=>hq _ h' λb o z=>e b o (nb b o z) (keep b o z)) hp λhz=>⟨_,rfl,AG ⟨_,rfl,h hz⟩⟩) (args_list_sort _)))
def F7 {a:Addr}{vs:List Value}{n:Nat}{P:Fin->Shared->Prop} (ho:s.heap.get? a=some (seqObj "list" vs.toArray n)) (h2:vs.length<2)
  (h:P (.done (.ret .none)) {s with heap:=sortedHeap s.heap a vs vs.toArray}):wpAny (model prog w) A (Builtin.«list.sort» ⟨[.ref a],[]⟩) P E s:=by
 obtain⟨e1,d5⟩:∃e1,(s.heap.update a (Obj.mapSeq λ_=>#[])).get? a=some (seqObj "list" #[] e1):=⟨_,LS ho λ_=>#[]⟩
 have dv:(((s.heap.update a (Obj.mapSeq λ_=>#[])).push (seqObj "tuple" vs.toArray 0)).push (seqObj "list" #[] 0)).get? a=some (seqObj "list" #[] e1):=AB _ (AB _ d5)
 have z1:vs.toArray.size<=sizeLine:=by rw[AL,CG];lia
 rw[list_sort_plain]
 refine AA (JW ho rfl (AA (HE ho rfl (AA (LF d5 rfl (AA (JP (AA (GN (CO ?_) (CL _))) (by simpa using z1))))) z1 (CL _))))
 dsimp only
 have n2:vs.toArray.size<2:=by rw[AL];exact h2
 rw[AD n2,AD n2]
 refine AA (AG ?_)
 rw[StateT.run_pure]
 refine AA (AG ?_)
 dsimp only
 have eo:(vs.toArray.zip vs.toArray).map (·.2)=vs.toArray:=by
  apply Array.toList_inj.mp
  rw[Array.toList_map,Array.toList_zip,List.map_snd_zip]
  lia
 refine AA (LF dv rfl (AA (HE dv rfl ?_ (CL _) (by show((vs.toArray.zip vs.toArray).map (·.2)).size<=_;rw[eo];lia))))
 simp only[KR,CS,DM]
 change wpAny _ _ (ret .none) _ _ {s with heap:=sortedHeap s.heap a vs ((vs.toArray.zip vs.toArray).map (·.2))}
 rw[eo]
 exact AG h
def Zhb {t:Bool}{l:Addr}{vs:List Value}{Q:Value->Shared->Prop}(hl:SqK t s.heap l vs.toArray)(h2:vs.length<2)(h:Q (.ref (s.heap.objs.size+1)) {s with heap:=sortedAll s.heap vs vs.toArray}):
  wpAny (model prog w) A (call (.builtin "sorted") [.ref l]) Q E s:=by
 have z1:vs.length<=sizeLine:=by rw[CG];lia
 refine KC kind_sorted plain_sorted entry_sorted (args_sorted1 _) ?_
 unfold Builtin.«sorted»
 refine AA (m:=checkCount "sorted" 1 1 _) (AG (AA (Dw hl (AA (GN ?_ z1)) z1)))
 have hsz:((s.heap.push (seqObj "list" #[] 0)).update s.heap.objs.size (Obj.mapSeq (·++vs.toArray))).objs.size=s.heap.objs.size+1:=(Heap.size_update ..).trans (size_push' ..)
 have bG:(((s.heap.push (seqObj "list" #[] 0)).update s.heap.objs.size (Obj.mapSeq (·++vs.toArray))).push (seqObj "list" vs.toArray 0)).get? (s.heap.objs.size+1)=some (seqObj "list" vs.toArray 0):=hsz▸AO _ rfl
 change wpAny _ _ _ _ _ {s with heap:=((s.heap.push (seqObj "list" #[] 0)).update s.heap.objs.size (Obj.mapSeq (·++vs.toArray))).push (seqObj "list" vs.toArray 0)}
 rw[hsz]
 exact AA (CO (EA slot_list_sort ⟨_,bG,rfl⟩ entry_list_sort (F7 bG h2 ⟨_,rfl,AG ⟨_,rfl,h⟩⟩) (args_list_sort _)))
end
def Ph:List V->Bool
 |.str _::_=>true
 |_=>false
def Pi:List V->Bool
 |.int _::_=>true
 |_=>false
def RowsH (h:Heap):List Value->List (List V)->Prop:=Paired λu y=>∃a us,u=Value.ref a/\IsTup h a us.toArray/\Vals y us
def RowsH.mono {h h':Heap}{us:List Value}{ys:List (List V)}(k:∀b o,h.get? b=some o->h'.get? b=some o)(r:RowsH h us ys):RowsH h' us ys:=
 Paired.mapP r λu y q=>by
  obtain⟨a,vs,e,⟨o,e1,e2⟩,e3⟩:=q
  exact⟨a,vs,e,⟨o,k _ _ e1,e2⟩,e3⟩
theorem RowsH.firstS {h:Heap}:∀{us:List Value}{ys:List (List V)},RowsH h us ys->ys.all Ph=true->∃fs,KatTups h us fs/\(∀v∈fs,∃x t,v=Value.str x t)/\fs.length=us.length
 |_,_,.nil,_=>⟨[],KatTups.nil,λv hv=>(by cases hv),rfl⟩
 |_,y::ys,.cons q r,hs=>by
  rw[FK,BG] at hs
  obtain⟨fs,k1,k2,k3⟩:=RowsH.firstS r hs.2
  obtain⟨a,vs,rfl,⟨o,e1,e2,n,e3⟩,e4⟩:=q
  cases y with
  |nil=>simp[Ph] at hs
  |cons z y=>
   cases z with
   |str x=>
    cases e4 with
    |cons rx rr=>
     obtain⟨t,rfl⟩:=rx
     exact⟨Value.str x t::fs,KatTups.cons e1 e2 e3 (by simp) k1,λv hv=>by
      rcases AW.mp hv with rfl|hv
      .exact⟨x,t,rfl⟩
      .exact k2 v hv,by rw[AH,AH,k3]⟩
   |_=>simp[Ph] at hs
theorem RowsH.firstI {h:Heap}:∀{us:List Value}{ys:List (List V)},RowsH h us ys->ys.all Pi=true->∃fs,KatTups h us fs/\(∀v∈fs,∃x t,v=Value.int x t)/\fs.length=us.length
 |_,_,.nil,_=>⟨[],KatTups.nil,λv hv=>(by cases hv),rfl⟩
 |_,y::ys,.cons q r,hs=>by
  rw[FK,BG] at hs
  obtain⟨fs,k1,k2,k3⟩:=RowsH.firstI r hs.2
  obtain⟨a,vs,rfl,⟨o,e1,e2,n,e3⟩,e4⟩:=q
  cases y with
  |nil=>simp[Pi] at hs
  |cons z y=>
   cases z with
   |int x=>
    cases e4 with
    |cons rx rr=>
     obtain⟨t,rfl⟩:=rx
     exact⟨Value.int x t::fs,KatTups.cons e1 e2 e3 (by simp) k1,λv hv=>by
      rcases AW.mp hv with rfl|hv
      .exact⟨x,t,rfl⟩
      .exact k2 v hv,by rw[AH,AH,k3]⟩
   |_=>simp[Pi] at hs
theorem RowsH.get {h:Heap}:∀{us:List Value}{ys:List (List V)}{i:Nat}{y:List V},RowsH h us ys->ys[i]?=some y->∃a vs,us.getD i Value.none=Value.ref a/\IsTup h a vs.toArray/\Vals y vs
 |_,_,_,_,.nil,e=>by simp at e
 |_,_,0,_,.cons q _,e=>by
  simp at e
  subst e
  obtain⟨a,vs,rfl,e1,e2⟩:=q
  exact⟨a,vs,rfl,e1,e2⟩
 |_,_,i+1,_,.cons _ r,e=>by
  obtain⟨a,vs,e1,e2,e3⟩:=RowsH.get (i:=i) r (by simpa using e)
  exact⟨a,vs,by simpa using e1,e2,e3⟩
def Mg (ys:List (List V))(i j:Nat):Option Bool:=match ys[i]?,ys[j]? with
 |some x,some y=>if x.length=y.length then aK x y else none
 |_,_=>none
def Zhc {prog:Program}{w:World}{A:Around}{s:Shared}{o:Bool}{us:List Value}{ys:List (List V)}(r:RowsH s.heap us ys){i j:Nat}{b:Bool}{C:Bool->Shared->Prop}(e:Mg ys i j=some b)(h:C b s):kas_ask prog w A (tuples' o) us i j C s:=by
 unfold Mg at e
 split at e
 .rename_i x y ex ey
  split at e
  .rename_i hl
   obtain⟨a,vs,e1,⟨o1,e2,_,n,e3⟩,e4⟩:=r.get ex
   obtain⟨a',vs',kO,⟨o1',UJ,_,n',vN⟩,e4'⟩:=r.get ey
   unfold kas_ask
   rw[e1,kO]
   refine kat_lt e2 e3 UJ vN ?_
   have l1:=e4.length
   have l2:=e4'.length
   have:decide (vs.toArray.size<vs'.toArray.size)=false:=BI (by rw[AL,AL];lia)
   rw[this]
   exact rF 0 e e4 e4' h
  .cases e
 .cases e
def RowsT (H:Hp):List V->List (List V)->Prop:=Paired λz y=>∃a,z=V.ref a/\H a=some (.tup y)
theorem rE {X:Cx}{pins:List (Addr×Obj)}{σ:L2.St}{H:Hp}{s:Shared}(I:Inv X pins σ H s):∀{zs:List V}{ys:List (List V)}{us:List Value},RowsT H zs ys->Vals zs us->RowsH s.heap us ys
 |_,_,_,.nil,.nil=>.nil
 |_,_,_,.cons q r,.cons v t=>.cons (by
   obtain⟨a,rfl,e⟩:=q
   cases v
   obtain⟨its,rv,p,_⟩:=I.tuple (SqT.of e)
   exact⟨a,its,rfl,p,rv⟩) (rE I r t)
theorem Bg {zs:List V}{us:List Value}(r:Vals zs us):∀l:List Nat,Vals (l.map λi=>zs.getD i .non) (l.map λi=>us.getD i Value.none)
 |[]=>.nil
 |i::l=>.cons (by
   by_cases h:i<zs.length
   .obtain⟨u,e1,e2⟩:=r.get (AU h)
    dsimp only
    rw[BO,BO,e1,AU h]
    exact e2
   .have h1:zs[i]?=none:=BL.mpr (by lia)
    have h2:us[i]?=none:=r.none_of h1
    dsimp only
    rw[BO,BO,h1,h2]
    exact rfl) (Bg r l)
section
variable {X:Cx}{E:XK}
def F8:CallR X (.builtin "sorted") (λxs H Q=>∃(t:Bool) (p:Addr) (zs:List V) (ys:List (List V)) (q:Array Nat),xs=[.ref p]/\Tz t X.K H p zs/\RowsT H zs ys/\2<=zs.length/\zs.length<64/\(ys.all Ph||ys.all Pi)=true /\
  Wl (Mg ys) (kas_sort zs.length)=some q/\∀l,H l=none->Q (.ref l) (upd H l (.lst (q.toList.map λi=>zs.getD i .non)))):=by
 intro pins s σ H xs us Q I r h
 obtain⟨t,p,zs,ys,q,rfl,hp,hr,h2,gV,hh,hq,k⟩:=h
 obtain⟨u,rfl,rx⟩:=Wp r
 cases rx
 obtain⟨its,rv,pl⟩:=Ud I hp
 have hl:=rv.length
 have rows:=rE I hr rv
 have kind:∃o:Bool,∀A' E' h',(∀b o,s.heap.get? b=some o->h'.get? b=some o)->∀Q:SortKind->Shared->Prop,Q (tuples' o) {s with heap:=h'}->wpAny (model X.prog X.w) A' (keyKind' its.toArray) Q E' {s with heap:=h'}:=by
  rcases ES _ _▸hh with hh|hh
  .refine⟨Value.type "str" != Value.type "tuple", λA' E' h' e Q hQ=>?_⟩
   obtain⟨fs,k1,k2,k3⟩:=(rows.mono e).firstS hh
   exact kat_kind (s:={s with heap:=h'}) (T:=Value.type "str") k1 (by lia) (λv hv=>by obtain⟨x,t,rfl⟩:=k2 v hv;exact Looks.of_pure rfl) (by rfl) hQ
  .refine⟨Value.type "int" != Value.type "tuple", λA' E' h' e Q hQ=>?_⟩
   obtain⟨fs,k1,k2,k3⟩:=(rows.mono e).firstI hh
   exact kat_kind (s:={s with heap:=h'}) (T:=Value.type "int") k1 (by lia) (λv hv=>by obtain⟨x,t,rfl⟩:=k2 v hv;exact Looks.of_pure rfl) (by rfl) hQ
 obtain⟨o,kind⟩:=kind
 refine Zha (κ:=tuples' o) (q:=Mg ys) (p:=q) pl (by lia) (by lia) kind (λA' h' e i j b C z c=>Zhc (s:={s with heap:=h'}) (rows.mono e) z c) (by rw[<-hl];exact hq) λhz=>?_
 obtain⟨n,he⟩:=sortedAll_at s.heap its (q.toList.map λi=>its.getD i Value.none).toArray
 refine⟨.ref (s.heap.objs.size+1),_,I.laid (t':=s.toks) (o:=.lst (q.toList.map λi=>zs.getD i .non)) (λb o e=>sortedAll_old e) (EJ _) ?_,rfl,k _ (I.hok.fresh (EJ _))⟩
 refine⟨?_,(q.toList.map λi=>its.getD i Value.none),n,Bg rv _,by simpa using he⟩
 rw[AC,DN,hz,CG]
 lia
def Dx:CallR X (.builtin "sorted") (λxs H Q=>(∃(t:Bool) (p:Addr) (zs:List V),xs=[.ref p]/\Tz t X.K H p zs/\zs.length<2/\∀l,H l=none->Q (.ref l) (upd H l (.lst zs))) \/
  ∃(t:Bool) (p:Addr) (zs:List V) (ys:List (List V)) (q:Array Nat),xs=[.ref p]/\Tz t X.K H p zs/\RowsT H zs ys/\2<=zs.length/\zs.length<64/\(ys.all Ph||ys.all Pi)=true /\
  Wl (Mg ys) (kas_sort zs.length)=some q/\∀l,H l=none->Q (.ref l) (upd H l (.lst (q.toList.map λi=>zs.getD i .non)))):=by
 intro pins s σ H xs us Q I r h
 rcases h with h|h
 .obtain⟨t,p,zs,rfl,hp,h2,k⟩:=h
  obtain⟨u,rfl,rx⟩:=Wp r
  cases rx
  obtain⟨its,rv,pl⟩:=Ud I hp
  have hl:=rv.length
  refine Zhb pl (by lia) ?_
  obtain⟨n,he⟩:=sortedAll_at s.heap its its.toArray
  refine⟨.ref (s.heap.objs.size+1),_,I.laid (t':=s.toks) (o:=.lst zs) (λb o e=>sortedAll_old e) (EJ _) ?_,rfl,k _ (I.hok.fresh (EJ _))⟩
  refine⟨?_,its,n,rv,by simpa using he⟩
  rw[CG]
  lia
 .exact F8 _ _ _ _ _ _ _ I r h
def lY:D->Option V
 |.int i=>some (.int i)
 |.str x=>some (.str x)
 |_=>none
def An:List D->Option (List V)
 |[]=>some []
 |d::r=>match lY d,An r with
  |some v,some vs=>some (v::vs)
  |_,_=>none
def T2:List D->Option (List (List V))
 |[]=>some []
 |.tup ds::r=>match An ds,T2 r with
  |some v,some vs=>some (v::vs)
  |_,_=>none
 |_::_=>none
def Zbe {K:PySem.W.Frag}{H:Hp}{d:D}{v x:V}(e:lY d=some v)(r:Rep K H d x):x=v:=by
 unfold lY at e
 split at e
 .cases e;exact rep_int.mp r
 .cases e;exact rep_str.mp r
 .cases e
theorem Sf {K:PySem.W.Frag}{H:Hp}:∀{ds:List D}{vs xs:List V},An ds=some vs->Reps K H ds xs->xs=vs
 |[],vs,xs,e,r=>by
  cases e
  exact reps_nil.mp r
 |d::ds,vs,xs,e,r=>by
  obtain⟨x,t,rfl,h1,h2⟩:=reps_cons.mp r
  unfold An at e
  split at e
  .rename_i a b ea eb
   cases e
   rw[Zbe ea h1,Sf eb h2]
  .cases e
theorem T3 {K:PySem.W.Frag}{H:Hp}:∀{ds:List D}{ys:List (List V)}{xs:List V},T2 ds=some ys->Reps K H ds xs->RowsT H xs ys
 |[],ys,xs,e,r=>by
  cases e
  rw[reps_nil.mp r]
  exact .nil
 |d::ds,ys,xs,e,r=>by
  obtain⟨x,t,rfl,h1,h2⟩:=reps_cons.mp r
  cases d with
  |tup es=>
   unfold T2 at e
   split at e
   .rename_i a b ea eb
    cases e
    obtain⟨p,us,rfl,hp,hr⟩:=rep_tup.mp h1
    have:=Sf ea hr
    subst this
    exact .cons ⟨p,rfl,hp⟩ (T3 eb h2)
   .cases e
  |_=>cases e
def RowsT.mono {H H':Hp}{xs:List V}{ys:List (List V)}(e:Same H H')(r:RowsT H xs ys):RowsT H' xs ys:=Paired.mapP r λ_ _ q=>by
 obtain⟨a,h1,h2⟩:=q
 exact⟨a,h1,e _ _ h2⟩
theorem Bh {K:PySem.W.Frag}{H:Hp}{ds:List D}{zs:List V}(r:Reps K H ds zs):∀l:List Nat,Reps K H (l.map λi=>ds.getD i .non) (l.map λi=>zs.getD i .non)
 |[]=>Reps.nil
 |i::l=>Reps.cons (by
   by_cases h:i<ds.length
   .obtain⟨x,e1,e2⟩:=r.get (AU h)
    dsimp only
    rw[BO,BO,e1,AU h]
    exact e2
   .have h1:ds[i]?=none:=BL.mpr (by lia)
    have h2:zs[i]?=none:=r.none_of h1
    dsimp only
    rw[BO,BO,h1,h2]
    exact rep_non.mpr rfl) (Bh r l)
def Ao (ds:List D):M D:=match T2 ds with
 |some ys=>if 2<=ds.length/\ds.length<64/\(ys.all Ph||ys.all Pi)=true then(match Wl (Mg ys) (kas_sort ds.length) with
   |some p=>.ok (.lst (p.toList.map λi=>ds.getD i .non))
   |none=>.bad) else .bad
 |none=>.bad
def Rm (ds:List D):M D:=if ds.length<2 then .ok (.lst ds) else Ao ds
def T4:List D->M D
 |[.lst ds]=>Rm ds
 |[.tup ds]=>Rm ds
 |_=>.bad
def Zbf {t:Bool}{Hf H:Hp}{p:Addr}{zs:List V}{ds:List D}{Q:VK}(e:Same Hf H)(hp:Tz t X.K Hf p zs)(hr:Reps X.K Hf ds zs)(q:Po X.K E (rV X.K) Hf H (Ao ds) Q):
  ∃(t:Bool) (p':Addr) (zs:List V) (ys:List (List V)) (q:Array Nat),[V.ref p]=[V.ref p']/\Tz t X.K H p' zs/\RowsT H zs ys/\2<=zs.length/\zs.length<64/\(ys.all Ph||ys.all Pi)=true /\
  Wl (Mg ys) (kas_sort zs.length)=some q/\∀l,H l=none->Q (.ref l) (upd H l (.lst (q.toList.map λi=>zs.getD i .non))):=by
 unfold Ao at q
 have hl:=hr.length
 split at q
 .rename_i ys ey
  split at q
  .rename_i hc
   split at q
   .rename_i a ea
    exact⟨t,p,zs,ys,a,rfl,Kz e hp,(T3 ey hr).mono e,by lia,by lia,hc.2.2,by rw[<-hl];exact ea,λl hl=>q _ _ _ (Gr.alloc e hl _) (Gr.lst e hl (Bh hr _))⟩
   .exact q.elim
  .exact q.elim
 .exact q.elim
def Bi {t:Bool}{Hf H:Hp}{p:Addr}{zs:List V}{ds:List D}{Q:VK}(e:Same Hf H)(hp:Tz t X.K Hf p zs)(hr:Reps X.K Hf ds zs)(q:Po X.K E (rV X.K) Hf H (Rm ds) Q):
  (∃(t:Bool) (p':Addr) (zs:List V),[V.ref p]=[V.ref p']/\Tz t X.K H p' zs/\zs.length<2/\∀l,H l=none->Q (.ref l) (upd H l (.lst zs))) \/
  ∃(t:Bool) (p':Addr) (zs:List V) (ys:List (List V)) (q:Array Nat),[V.ref p]=[V.ref p']/\Tz t X.K H p' zs/\RowsT H zs ys/\2<=zs.length/\zs.length<64/\(ys.all Ph||ys.all Pi)=true /\
  Wl (Mg ys) (kas_sort zs.length)=some q/\∀l,H l=none->Q (.ref l) (upd H l (.lst (q.toList.map λi=>zs.getD i .non))):=by
 unfold Rm at q
 split at q
 .rename_i h
  have hl:=hr.length
  exact .inl ⟨t,p,zs,rfl,Kz e hp,by lia,λl hl=>q _ _ _ (Gr.alloc e hl _) (Gr.lst e hl hr)⟩
 .exact .inr (Zbf e hp hr q)
def Zd3:Wg X E (.builtin "sorted") T4:=by
 refine⟨_,Dx,λHf H xs ds Q e r q=>?_⟩
 unfold T4 at q
 split at q
 .obtain⟨x,rfl,h⟩:=Vm r
  obtain⟨p,ys,rfl,hp,hr⟩:=rep_lst.mp h
  exact Bi (t:=false) e hp hr q
 .obtain⟨x,rfl,h⟩:=Vm r
  obtain⟨p,ys,rfl,hp,hr⟩:=Qh h
  exact Bi (t:=true) e hp hr q
 .exact q.elim
def iP (K:PySem.W.Frag)(a:Addr)(cs:List V):Bool:=match K.lookup a with
 |some o=>(match o.cls,o.data with
  |.type n,.seq its _=>decide (n="tuple")&&decide (its.size<=1000)&&decide (its.toList.map iX=cs.map some)&&cs.all lr
  |_,_=>false)
 |none=>false
theorem Sg:∀{cs:List V}{us:List Value},us.map iX=cs.map some->cs.all lr=true->Vals cs us
 |[],[],_,_=>.nil
 |c::cs,u::us,e,f=>by
  rw[AM,AM] at e
  injection e with e1 e2
  rw[FK,BG] at f
  refine .cons ?_ (Sg e2 f.2)
  cases u<;>simp[iX] at e1<;>subst e1<;>first|exact rfl|exact⟨_,rfl⟩
 |[],_::_,e,_=>by simp at e
 |_::_,[],e,_=>by simp at e
def I0 {K:PySem.W.Frag}{H:Hp}{a:Addr}{cs:List V}(h:iP K a cs=true):SqT K H a cs/\cs.all lr=true:=by
 unfold iP at h
 split at h
 .rename_i o eo
  split at h
  .rename_i n its m e1 e2
   rw[BG,BG,BG] at h
   obtain⟨⟨⟨h1,h2⟩,h3⟩,h4⟩:=h
   have h1:=BS h1
   subst h1
   refine⟨.inr ⟨o,its,m,eo,e1,e2,?_,Sg (BS h3) h4⟩,h4⟩
   have:=BS h2
   rw[CG]
   lia
  .cases h
 .cases h
variable {e:Expr}{x:Str}{pos p2:Pos}{a:Addr}{cs:List V}{f:Zg->M D}
def yX {f:Zg->M D}{sd:Zg}{Hf H:Hp}{Q:Bool->Hp->Prop}(h:Po X.K E rQ Hf H (DL.tB f sd) Q):Po X.K E (rV X.K) Hf H (f sd) (λv H'=>∃k,v=.bl k/\Q k H'):=
 Po.bind h λd v ML H1 _ g1 rv h1=>by
  unfold asB at h1
  split at h1
  .exact⟨_,rep_bl.mp rv,Po.ret (R:=rQ) g1.sub h1 rfl⟩
  .exact h1.elim
end
section
variable {q:Nat->Nat->Option Bool}{n:Nat}
theorem Bj {α β:Type}{f:α->KasT β}:∀t:KasT α,Wl q (t.bind f)=(Wl q t).bind λa=>Wl q (f a)
 |.ret _=>rfl
 |.ask i j k=>by
  have e1:∀{γ:Type} (k:Bool->KasT γ),Wl q (.ask i j k)=(q i j).bind λb=>Wl q (k b):=λk=>by
   rw[Wl]
   cases q i j<;>rfl
  have e2:(KasT.ask i j k).bind f=.ask i j λb=>(k b).bind f:=rfl
  rw[e2,e1,e1]
  cases q i j with
  |none=>rfl
  |some b=>exact Bj (k b)
def Rn (q:Nat->Nat->Option Bool){α:Type}(t:KasT α)(P:α->Prop):Prop:=∃a,Wl q t=some a/\P a
theorem Rn.bind {α β:Type}{t:KasT α}{f:α->KasT β}{P:α->Prop}{Q:β->Prop}(h:Rn q t P)(k:∀a,P a->Rn q (f a) Q):Rn q (t.bind f) Q:=by
 obtain⟨a,e,p⟩:=h
 obtain⟨b,e2,p2⟩:=k a p
 exact⟨b,by rw[Bj,e];exact e2,p2⟩
theorem Rn.ret {α:Type}{a:α}{P:α->Prop}(h:P a):Rn q (.ret a) P:=⟨a,rfl,h⟩
def Gp (n:Nat)(p:Array Nat):Prop:=p.Perm (List.toArray (List.range n))
def Gp.at {p:Array Nat}(h:Gp n p)(n0:0<n)(i:Nat):p.getD i 0<n:=by
 rw[Array.getD_eq_getD_getElem?]
 cases e:p[i]? with
 |none=>exact n0
 |some x=>
  have:=h.mem_iff.mp (Array.mem_of_getElem? e)
  simpa using this
def Gp.rev {p:Array Nat}(h:Gp n p)(i j:Nat):Gp n (kas_rev p i j):=(mirror_perm _ _ _ _).trans h
section
variable (n0:0<n) (ht:∀i j,i<n->j<n->∃b,q i j=some b)
theorem Rn.ask {α:Type}{i j:Nat}{k:Bool->KasT α}{P:α->Prop}(hi:i<n)(hj:j<n)(ht:∀i j,i<n->j<n->∃b,q i j=some b)(h:∀b,Rn q (k b) P):Rn q (.ask i j k) P:=by
 obtain⟨b,e⟩:=ht i j hi hj
 obtain⟨a,e2,p⟩:=h b
 refine⟨a,?_,p⟩
 unfold Wl
 rw[e]
 exact e2
include n0 ht
theorem F9 {p:Array Nat}(h:Gp n p):∀f k,Rn q (kas_asc p f k) λ_=>True
 |0,k=>.ret trivial
 |f+1,k=>by
  refine .ask (h.at n0 _) (h.at n0 _) ht λc=>?_
  cases c
  .exact F9 h f (k+1)
  .exact .ret trivial
theorem S7:∀f (p:Array Nat) k r,Gp n p->Rn q (kas_desc f p k r) λa=>Gp n a.1
 |0,p,k,r,h=>.ret h
 |f+1,p,k,r,h=>by
  refine .ask (h.at n0 _) (h.at n0 _) ht λc=>?_
  cases c
  .refine .ask (h.at n0 _) (h.at n0 _) ht λd=>?_
   cases d
   .exact S7 f p _ _ h
   .exact .ret h
  .show Rn q (if r > 0 then _ else _) _
   split
   .exact S7 f _ _ _ (h.rev _ _)
   .exact S7 f _ _ _ h
def I8 {p:Array Nat}(h:Gp n p)(k m:Nat):Rn q (kas_tail3 k m p) λa=>Gp n a.2:=(F9 n0 ht (h.rev _ _) _ _).bind λ_ _=>.ret (h.rev _ _)
def I9 {p:Array Nat}(h:Gp n p)(k m:Nat):Rn q (kas_descPart k m p) λa=>Gp n a.2:=(S7 n0 ht _ _ _ _ h).bind λr hr=>by
 split
 .exact I8 n0 ht (Gp.rev hr _ _) _ _
 .exact I8 n0 ht hr _ _
def Zd4 {p:Array Nat}(h:Gp n p)(m:Nat):Rn q (kas_count m p) λa=>Gp n a.2:=(F9 n0 ht h _ _).bind λk _=>by
 split
 .exact .ret h
 .split
  .refine .ask (h.at n0 _) (h.at n0 _) ht λc=>?_
   cases c
   .exact I9 n0 ht (h.rev _ _) _ _
   .exact .ret h
  .exact I9 n0 ht h _ _
theorem T5 {p:Array Nat}(h:Gp n p)(k:Nat):∀f l r,Rn q (kas_place p k f l r) λ_=>True
 |0,l,r=>.ret trivial
 |f+1,l,r=>by
  unfold kas_place
  split
  .exact .ret trivial
  .refine .ask (h.at n0 _) (h.at n0 _) ht λc=>?_
   cases c
   .exact T5 h k f _ _
   .exact T5 h k f _ _
theorem rD:∀f (p:Array Nat) k,Gp n p->Rn q (kas_bin f p k) λp=>Gp n p
 |0,p,k,h=>.ret h
 |f+1,p,k,h=>(T5 n0 ht h k _ _ _).bind λl _=>rD f _ _ ((bubble_perm _ _ _).trans h)
def Zhe:Rn q (kas_sort n) λp=>Gp n p:=(Zd4 n0 ht (Array.Perm.refl _) _).bind λr hr=>by
 split
 .exact rD n0 ht _ _ _ hr
 .exact .ret hr
end
end
def Ha {ds:List D}{ys:List (List V)}(hr:T2 ds=some ys)(hl:ds.length<64)(hh:(ys.all Ph||ys.all Pi)=true)(hy:ys.length=ds.length)(hc:∀x∈ys,∀y∈ys,x.length=y.length/\∃b,aK x y=some b):∃es:List D,es.Perm ds/\T4 [.lst ds]=.ok (.lst es):=by
 show ∃es:List D,es.Perm ds/\Rm ds=.ok (.lst es)
 unfold Rm
 by_cases h2:ds.length<2
 .exact⟨ds,GT _,AD h2⟩
 .rw[AF h2]
  obtain⟨p,e,hp⟩:=Zhe (q:=Mg ys) (n:=ds.length) (by lia) λi j hi hj=>by
   unfold Mg
   rw[AU (by lia),AU (by lia)]
   obtain⟨e,b,h⟩:=hc ys[i] (LN _) ys[j] (LN _)
   exact⟨b,by dsimp only;rw[AD e,h]⟩
  refine⟨p.toList.map λi=>ds.getD i .non,?_,?_⟩
  .have h1:p.toList.Perm (List.range ds.length):=by
    have:=Array.perm_iff_toList_perm.mp hp
    simpa using this
   have h3:=h1.map λi=>ds.getD i D.non
   refine h3.trans (List.Perm.of_eq ?_)
   apply List.ext_getElem?
   intro i
   rw[BE]
   by_cases hi:i<ds.length
   .rw[KB hi,AU hi]
    simp[hi]
   .rw[FG (by rw[BY];lia),FG (by lia)]
    rfl
  .unfold Ao
   rw[hr]
   dsimp only
   rw[AD ⟨by lia,hl,hh⟩,e]
end DL
namespace DL
open PySem PySem.Spec PyProof.Rows L2
def PoX (K:PySem.W.Frag)(E:XK)(H0:Hp)(B:Addr->Prop)(σ:L2.St)(Hf:Hp){α β:Type}(R:Hp->Hp->α->β->Prop)(r:M (α×Zg))(Q:β->Hp->Prop):Prop:=match r with
 |.ok (a,sd')=>∀b MJ H',Same Hf MJ->SR K H0 B MJ sd' σ H'->R MJ H' a b->Q b H'
 |.ex x=>∀c dx MJ H',Same Hf MJ->UF H0 B MJ H'->iV K MJ H' x c dx->E c dx H'
 |.bad=>False
def b8 (X:Cx)(E:XK)(e:Expr)(f:Zg->M (D×Zg)):Prop:=
 ∃t:TE,PE X e t/\∀(H0:Hp) (B:Addr->Prop) (Hf:Hp) (sd:Zg) (σ:L2.St) (H:Hp) (Q:VK),SR X.K H0 B Hf sd σ H->PoX X.K E H0 B σ Hf (rV X.K) (f sd) Q->t σ H Q
def fj (X:Cx)(E:XK)(es:List Expr)(f:Zg->M (List D×Zg)):Prop:=
 ∃t:TA,PA X es t/\∀(H0:Hp) (B:Addr->Prop) (Hf:Hp) (sd:Zg) (σ:L2.St) (H:Hp) (Q:List V->Hp->Prop),SR X.K H0 B Hf sd σ H->PoX X.K E H0 B σ Hf (rA X.K) (f sd) Q->t σ H Q
section
variable {K:PySem.W.Frag}{E:XK}{H0:Hp}{B:Addr->Prop}{σ:L2.St}{Hf H ML:Hp}{α β γ δ:Type}{R:Hp->Hp->α->β->Prop}{T:Hp->Hp->γ->δ->Prop}
def PoX.weak {r:M (α×Zg)}{Q:β->Hp->Prop}(g:Same Hf ML)(h:PoX K E H0 B σ Hf R r Q):PoX K E H0 B σ ML R r Q:=by
 cases r with
 |ok a=>exact λb MJ H' e q=>h b MJ H' (g.trans e) q
 |ex x=>exact λc dx MJ H' e q=>h c dx MJ H' (g.trans e) q
 |bad=>exact h
theorem PoX.bind {sd:Zg}{r:M γ}{k:γ->M (α×Zg)}{Q:β->Hp->Prop}{Q1:δ->Hp->Prop}(sr:SR K H0 B Hf sd σ H)(h:PoX K E H0 B σ Hf R (r.bind k) Q)(s:∀a b ML H1,r=.ok a->Gr Hf H ML H1->SR K H0 B ML sd σ H1->T ML H1 a b->PoX K E H0 B σ ML R (k a) Q->Q1 b H1):Po K E T Hf H r Q1:=by
 cases r with
 |ok a=>exact λb MJ H' g q=>s a b MJ H' rfl g (sr.gr g) q (PoX.weak g.fz h)
 |ex x=>exact λc dx MJ H' g q=>h c dx MJ H' g.fz (sr.gr g).fin q
 |bad=>exact h
def PoX.bindX {r:M (γ×Zg)}{k:γ×Zg->M (α×Zg)}{Q:β->Hp->Prop}{Q1:δ->Hp->Prop}(h:PoX K E H0 B σ Hf R (r.bind k) Q)(s:∀a sd' b ML H1,r=.ok (a,sd')->Same Hf ML->SR K H0 B ML sd' σ H1->T ML H1 a b->PoX K E H0 B σ ML R (k (a,sd')) Q->Q1 b H1):PoX K E H0 B σ Hf T r Q1:=by
 cases r with
 |ok a=>exact λb MJ H' e sr q=>s a.1 a.2 b MJ H' rfl e sr q (PoX.weak e h)
 |ex x=>exact h
 |bad=>exact h
def PoX.bindS {r:M (γ×Zg)}{k:γ×Zg->M O}{D:Ends}{Q1:δ->Hp->Prop}(h:PoS K E H0 B Hf (r.bind k) D)(s:∀a sd' b ML H1,r=.ok (a,sd')->Same Hf ML->SR K H0 B ML sd' σ H1->T ML H1 a b->PoS K E H0 B ML (k (a,sd')) D->Q1 b H1):PoX K E H0 B σ Hf T r Q1:=by
 cases r with
 |ok a=>exact λb MJ H' e sr q=>s a.1 a.2 b MJ H' rfl e sr q (PoS.weak e h)
 |ex x=>exact h
 |bad=>exact h
end
section
variable {X:Cx}{E:XK}{pos:Pos}{a b:Expr}
def Dy (i:Nat)(sd:Zg):M (D×Zg):=match sd[i]? with
 |some (some (.ow ds))=>(match ds[ds.length-1]? with
  |some d=>.ok (d,sd.set i (some (.ow ds.dropLast)))
  |none=>.bad)
 |_=>.bad
def Mh {K:PySem.W.Frag}{H:Hp}{ds:List D}{xs:List V}(r:Reps K H ds xs):Reps K H ds.dropLast xs.dropLast:=by
 rw[JL,JL,r.length]
 exact r.take _
def rC (i:Nat){x:Str}{p1 p2 p3:Pos}(hi:X.N[i]?=some x:=by rfl)(hv:Mc X.env.scope x:=by trivial)
  (hd:(x==("__debug__":Str))=false:=by decide) (NL:(x==("__classdict__":Str))=false:=by decide)
  (QL:attributeBase (.Name x p1) "pop" X.env (eval (.Name x p1) X.env)=eval (.Name x p1) X.env:=by rfl) (hline:(p2.endLine==p3.line)=true:=by rfl):
  b8 X E (.Call (.Attribute (.Name x p1) "pop" p2) [] [] p3) (Dy i):=by
 refine⟨_,yu FX PySem.F.slot_list_pop PySem.F.type_list_pop yt (Qe hi hv hd NL) QL hline,λH0 B Hf sd σ H Q sr h=>?_⟩
 unfold Dy at h
 split at h
 .rename_i ds ei
  obtain⟨p,z1,z2,z3,xs,z4,z5⟩:=sr.ow i _ ei rfl
  split at h
  .rename_i d ed
   obtain⟨v,ev,rv⟩:=z5.get ed
   refine⟨_,z1,.inl ⟨rfl,xs,SqL.of z4⟩,p,xs,v,rfl,rfl,z4,by rw[<-z5.length];exact ev,?_⟩
   exact h v Hf _ (Same.refl _) (sr.change ei rfl z1 rfl ⟨_,Zq,Mh z5⟩) rv
  .exact h.elim
 .exact h.elim
def Ro (f:Zg->M (D×Zg))(sd:Zg):M (List D×Zg):=(f sd).bind λr=>.ok ([r.1],r.2)
def Yw (fa:Zg->M D)(fr:Zg->M (List D×Zg))(sd:Zg):M (List D×Zg):=(fa sd).bind λd=>(fr sd).bind λr=>.ok (d::r.1,r.2)
def Dz {f:Zg->M (D×Zg)}(h:b8 X E a f)(hs:starEach [a] X.env=(false,eval a X.env)::starEach [] X.env:=by rfl):fj X E [a] (Ro f):=by
 obtain⟨t,p,q⟩:=h
 refine⟨_,Qm p Ji hs,λH0 B Hf sd σ H Q sr h=>?_⟩
 refine q H0 B Hf sd σ H _ sr (PoX.bindX h λd sd' v ML H1 _ e1 sr1 rv h1=>?_)
 exact h1 [v] ML H1 (Same.refl _) sr1 (Reps.cons rv Reps.nil)
def Jm {es:List Expr}{fa:Zg->M D}{fr:Zg->M (List D×Zg)}(ha:Xq X E a fa)(hr:fj X E es fr)(hs:starEach (a::es) X.env=(false,eval a X.env)::starEach es X.env:=by rfl):fj X E (a::es) (Yw fa fr):=by
 obtain⟨ta,pa,qa⟩:=ha
 obtain⟨tr,pr,qr⟩:=hr
 refine⟨_,Qm pa pr hs,λH0 B Hf sd σ H Q sr h=>?_⟩
 refine qa H0 B Hf sd σ H _ sr (PoX.bind sr h λd v ML H1 _ g1 sr1 rv h1=>?_)
 refine qr H0 B ML sd σ H1 _ sr1 (PoX.bindX h1 λds sd' vs MT H2 _ e2 sr2 rs h2=>?_)
 exact h2 (v::vs) MT H2 (Same.refl _) sr2 (Reps.cons (Rep.mono e2 rv) rs)
def Bk (F:List D->M S)(fs:Zg->M (List D×Zg))(sd:Zg):M (D×Zg):=(fs sd).bind λr=>match F r.1 with
 |.ok s=>s.toD.bind λd=>.ok (d,r.2)
 |_=>.bad
def Zhf {k:Nat}{f:Addr}{fd:FuncData}{ps:List Str}{F:List D->M S}{x:Str}{p:Pos}{es:List Expr}{fs:Zg->M (List D×Zg)}(G:MM X.prog X.w X.K X.mg X.base Yf k f fd ps (R9 X.K F))(hr:Room k X.A)(hm:X.mg x=some (.ref f))(hk:PySem.W.keepIn X.K (.ref f)=true)(hb:Binds X.K fd ps [])(ha:fj X E (a::es) fs)(hg:Gl X x:=by rfl) (QA:(x==("__debug__":Str))=false:=by decide) (he:starEach (a::es) X.env=(false,eval a X.env)::starEach es X.env:=by rfl) (ND:(backTo pos (starEach es X.env)).any (·.1)=false:=by rfl):
  b8 X E (.Call (.Name x p) (a::es) [] pos) (Bk F fs):=by
 obtain⟨t,pt,qt⟩:=ha
 refine⟨_,Ka (dvs:=[]) (E:=E0) G hr hg hm hk hb .nil Jj pt QA he ND,λH0 B Hf sd σ H Q sr h=>?_⟩
 refine qt H0 B Hf sd σ H _ sr (PoX.bindX h λds sd' vs ML H1 _ e1 sr1 rs h1=>?_)
 dsimp only at h1
 split at h1
 .rename_i s e
  refine⟨ML,ds,s,sr1.sub,by rw[BP];exact rs,e,λv MJ H' g2 rv=>?_⟩
  cases s with
  |im d=>exact h1 v MJ H' g2.fz (sr1.gr g2) rv
  |ow es=>
   obtain⟨p,rfl,w1,w2,xs,w3,w4⟩:=rv
   have g3:Gr ML H1 (upd MJ p (.lst xs)) H':=by
    refine⟨g2.fz.trans (Qc w2 _),λb u q=>?_,g2.all,λa h1 h2=>?_⟩
    .by_cases hb:b=p
     .subst hb;rw[Zq] at q;rw[w3];exact q
     .rw[Zm hb] at q;exact g2.sub b u q
    .have:a≠p:=λz=>h1.nn (z▸w1)
     rw[Zm this];exact g2.ban a h1 h2
   exact h1 _ (upd MJ p (.lst xs)) H' g3.fz (sr1.gr g3) (rep_lst.mpr ⟨p,xs,rfl,SqL.of Zq,w4.mono (Qc w2 _)⟩)
  |od kvs=>exact h1.elim
  |dk kvs=>exact h1.elim
  |xc x=>exact h1.elim
  |fn x=>exact h1.elim
  |ob a c r=>exact h1.elim
  |fl a g q=>exact h1.elim
 .exact h1.elim
def fN (g:D->D->M D)(fa:Zg->M D)(fb:Zg->M (D×Zg))(sd:Zg):M (D×Zg):=(fa sd).bind λx=>(fb sd).bind λy=>(g x y.1).bind λz=>.ok (z,y.2)
def pS {op:Operator}{g:D->D->M D}{fa:Zg->M D}{fb:Zg->M (D×Zg)}(ho:Rc X E (binaryOp op) g)(ha:Xq X E a fa)(hb:b8 X E b fb):b8 X E (.BinOp a op b pos) (fN g fa fb):=by
 obtain⟨r,hr,qr⟩:=ho
 obtain⟨ta,pa,qa⟩:=ha
 obtain⟨tb,pb,qb⟩:=hb
 refine⟨_,lZ hr pa pb,λH0 B Hf sd σ H Q sr h=>?_⟩
 refine qa H0 B Hf sd σ H _ sr (PoX.bind sr h λdx x ML H1 _ g1 sr1 rx h1=>?_)
 refine qb H0 B ML sd σ H1 _ sr1 (PoX.bindX h1 λdy sd' y MT H2 _ e2 sr2 ry h2=>?_)
 refine qr MT H2 x y dx dy Q sr2.sub (Rep.mono e2 rx) ry (PoX.bind sr2 h2 λd v QV H3 _ g3 sr3 rv h3=>?_)
 exact h3 v QV H3 (Same.refl _) sr3 rv
def D0 (i:Nat)(f:Zg->M (D×Zg))(sd:Zg):M O:=(f sd).bind λr=>.ok (.nx (r.2.set i (some (.im r.1))))
def Oa (i:Nat){x:Str}{e:Expr}{f:Zg->M (D×Zg)}{pos':Pos}(hN:X.N.Nodup)(h:b8 X E e f)(hi:X.N[i]?=some x:=by rfl)(hx:WN X.env.scope x:=by trivial)(hs:swapsWith e (some (.Name x pos')) pos.line X.env=pure false:=by rfl)(hf:X.fn x=true\/X.env.scope.names.lookup x=some .local:=by first|exact .inl rfl|exact .inr rfl|assumption):
  N4 X E (.Assign [.Name x pos'] e pos) (D0 i f):=by
 obtain⟨t,p,q⟩:=h
 refine⟨_,K3 hN hi hx p hs hf,λH0 B Hf sd σ H D sr h=>?_⟩
 refine q H0 B Hf sd σ H _ sr (PoX.bindS h λd sd' v ML H1 _ e1 sr1 rv h1=>?_)
 exact h1 _ ML H1 (Same.refl _) (sr1.set_im i rv)
end
def Ni (gt:D->Zg->M Zg)(fc:Zg->M Bool)(fe:Zg->M D)(sd0:Zg):List D->M (List D)
 |[]=>.ok []
 |d::ds=>match gt d sd0 with
  |.ok sd1=>match fc sd1 with
   |.ok true=>(match fe sd1 with
    |.ok e=>match Ni gt fc fe sd0 ds with
     |.ok es=>.ok (e::es)
     |_=>.bad
    |_=>.bad)
   |.ok false=>Ni gt fc fe sd0 ds
   |_=>.bad
  |_=>.bad
def Gn (fi:Zg->M (List D))(n0:Nat)(caps:List Nat)(gt:D->Zg->M Zg)(fc:Zg->M Bool)(fe:Zg->M D)(sd:Zg):M (List D):=(fi sd).bind λds=>if few ds then Ni gt fc fe (Ut n0 caps sd) ds else .bad
def Sr {prog:Program}{w:World}{A:Around}{R:Result->Shared->Prop}{s:Shared}{elt target iter YJ:Expr}{scope:Scope}{pos:Pos}{it acc:Value}{env:Env}(I:Nat->Shared->Prop)
  (turn:∀n s,I n s->wpAny (model prog w) A (pyNext it) (λr s₁=>match r with
   |none=>R (.ok .next) s₁
   |some v=>wpAny (model prog w) A (letOwnedTupleGo target it v) (λ_ s₂=>wpAny (model prog w) A (assign target env v) (λ_ s₃=>wpAny (model prog w) A (isTrue YJ env (eval YJ env)) (λk mG=>if k=true then
     wpAny (model prog w) A (eval elt env) (λx s₄=>wpAny (model prog w) A (call (.builtin "list.append") [acc,x]) (λ_ s₅=>∃m,m<n/\I m s₅) (λ_ _=>False) s₄) (λ_ _=>False) mG else ∃m,m<n/\I m mG) (λ_ _=>False) s₃) (λ_ _=>False) s₂) (λ_ _=>False) s₁) (λ_ _=>False) s)
  (n:Nat) (h:I n s):
  codeAny (model prog w) A (.compLoop (.ListComp elt [⟨target,iter,[YJ],0⟩] scope pos) 0 it acc env) R s:=by
 refine codeAny_loop rfl I (λn s hI=>?_) n h
 change wpAny _ A ((compTurn (.ListComp elt [⟨target,iter,[YJ],0⟩] scope pos) 0 it acc env).onRaise (λx=>do noteFrame x env;theTreesLotGoes x)) _ _ s
 refine wpAny_noted ?_
 rw[compTurn_list]
 refine AA (FQ (AA (BR (turn n s hI) (λr s₁ h₁=>?_) λ_ _ h'=>h'.elim)))
 cases r with
 |none=>exact AG h₁
 |some v=>
  refine AA (BR h₁ (λ_ s₂ h₂=>AA (BR h₂ (λ_ s₃ h₃=>?_) λ_ _ h'=>h'.elim)) λ_ _ h'=>h'.elim)
  refine AA (wpAny_tests_one (BR h₃ (λk s₄ h₄=>?_) λ_ _ h'=>h'.elim))
  cases k with
  |true=>
   rw[AD rfl] at h₄
   simp only[DW]
   exact AA (AA (BR h₄ (λx s₄ h₄=>AA (BR h₄ (λ_ s₅ h₅=>AG (AG ⟨rfl,h₅⟩)) λ_ _ h'=>h'.elim)) λ_ _ h'=>h'.elim))
  |false=>
   rw[AF (by decide)] at h₄
   simp only[CS,DM]
   exact AG ⟨rfl,h₄⟩
end DL
namespace DL
open PySem PySem.Spec PySem.Calls PySem.Builtin PySem.Builtin.ObjectAttr PyProof.Rows L2 PySem.W
def Zbg (i0:Nat){X:Cx}{E:XK}{pos py spos:Pos}{tg elt iter YJ:Expr}{scope:Scope}{Nc:List Str}{n0:Nat}{caps:List Nat}{cl:List (Str×Addr)}{fi:Zg->M (List D)}{gt:D->Zg->M Zg}{fe:Zg->M D}{fc:Zg->M Bool}{y:Str}(hN:X.N.Nodup)(hc:X.calm=true)(XN:closureFor scope X.env=pure cl)(cap:UG X Nc n0 caps scope cl)(OG:scope.kind=.function)(PQ:∀y∈scope.names,y.2≠.cell)(UV:∀y∈scope.names,y.2=.local->scope.names.lookup y.1=some .local)(hk:lE n0 gt)(hi:ah X E tg iter fi)(hg:∀s3 H3 C ex,aM (U4 X Nc scope cl s3 H3 C ex) tg gt)(NL:∀s3 H3 C ex,M7 (U4 X Nc scope cl s3 H3 C ex) E0 YJ fc)(he:∀s3 H3 C ex,Xq (U4 X Nc scope cl s3 H3 C ex) E0 elt fe)(hs:∀x,foldedSetIterable iter X.env x=pure x:=by intro _;rfl)(hy:X.N[i0]?=some y:=by rfl)(jl:WN X.env.scope y:=by trivial)(ug:X.fn y=true\/X.env.scope.names.lookup y=some .local:=by first|exact .inl rfl|exact .inr rfl)(ja:swapsWith (.ListComp elt [⟨tg,iter,[YJ],0⟩] scope pos) (some (.Name y py)) spos.line X.env=pure true:=by rfl):
  N4 X E (.Assign [.Name y py] (.ListComp elt [⟨tg,iter,[YJ],0⟩] scope pos) spos) (Qa i0 (Um (Gn fi n0 caps gt fc fe))):=by
 refine⟨λD' σ H=>∃H0 B Hf sd,SR X.K H0 B Hf sd σ H/\PoS X.K E H0 B Hf (Qa i0 (Um (Gn fi n0 caps gt fc fe)) sd) D',?_,λH0 B Hf sd σ H D' sr h=>⟨H0,B,Hf,sd,sr,h⟩⟩
 rintro pins s σ H D' I ⟨H0,B,Hf,sd,sr,h⟩
 obtain⟨wi,pw,qw⟩:=hi
 rw[exec_Assign_Name_used _ _ _ _ ja]
 refine AA (FQ (AA ?_))
 show wpAny _ _ (do let _ <-comprehension (.ListComp elt [⟨tg,iter,[YJ],0⟩] scope pos) scope X.env _ (newList []) false (eval iter X.env) (some (assign (.Name y py) X.env))) _ _ s
 refine AA (BR (KD (use:=some (assign (.Name y py) X.env)) (Q:=λ_ s'=>SP X pins D' .next s') rfl hs XN OG UV ?_) (λ_ s' hq=>AG (AG hq)) λ_ _ e=>e)
 have h':PoS X.K E H0 B Hf ((fi sd).bind λds=>(if few ds then Ni gt fc fe (Ut n0 caps sd) ds else .bad).bind λes=>.ok (.nx (sd.set i0 (some (.im (.lst es)))))) D':=by
  unfold Qa Um Gn at h
  cases q:fi sd with
  |ok ds=>
   rw[q] at h
   rw[M.bind_ok] at h ⊢
   cases q2:(if few ds then Ni gt fc fe (Ut n0 caps sd) ds else M.bad) with
   |ok es=>rw[q2] at h;exact h
   |ex x=>rw[q2] at h;exact h
   |bad=>rw[q2] at h;exact h
  |ex x=>rw[q] at h;exact h
  |bad=>rw[q] at h;exact h
 have step:=pw pins s σ H (λJ H2=>∃ds MT,Gr Hf H MT H2/\Tt X.K MT H2 ds J/\PoS X.K E H0 B MT ((if few ds then Ni gt fc fe (Ut n0 caps sd) ds else .bad).bind λes=>.ok (.nx (sd.set i0 (some (.im (.lst es)))))) D') I
  (qw H0 B Hf sd σ H _ sr (PoS.bind sr h' λds J MT H2 _ g2 _ bC h2=>⟨ds,MT,g2,bC,h2⟩))
 refine Y8 step λv s1 h1=>Y8 h1 λgH s2 h2=>?_
 obtain⟨it,fp,tn,J,H2,rfl,I2,T,VZ,f2,ds,MT,g2,bC,hq⟩:=h2
 have sr2:=sr.gr g2
 split at hq
 case isFalse=>exact hq.elim
 case isTrue hfew=>
 have fresh:H2 s2.heap.objs.size=none:=I2.hok.fresh (AQ _)
 have QK:∀b∈fp,∃o,s2.heap.get? b=some o:=λb hb=>let ⟨o,e,_⟩:=T.obj 0 _ VZ b hb;⟨o,e⟩
 refine DC (MA PQ (by intro y hy;simp at hy) (λh₁ bI bD=>?_) OG)
 have hC:(s2.heap.push Q9).objs.size=s2.heap.objs.size+1:=DD _ _
 have UI:h₁.Ns (s2.heap.objs.size+1) (λx=>([]:List (Str×Value)).reverse.lookup x):=hC▸bI
 have hsb:Heap.SameBut (s2.heap.objs.size+1) ((s2.heap.push Q9).push {cls:=.type "dict", data:=.dict #[]}) h₁:=hC▸bD
 have hold1:∀b o,s2.heap.get? b=some o->h₁.get? b=some o:=λb o e=>by
  have hb:b<s2.heap.objs.size:=AN e
  exact(hsb.2 b (AK (DJ hb))).trans (AB _ (AB _ e))
 have hD:h₁.get? s2.heap.objs.size=some Q9:=(hsb.2 _ (AK (DS _))).trans (AB _ (AO _ rfl))
 have J0:=Dk I2 f2 QK OG cap (tk:=s2.toks+([]:List (Str×Value)).length) UI hold1 hD
 have hg:=hg {s2 with heap:=s2.heap.push Q9} (upd H2 s2.heap.objs.size (.lst [])) (s2.heap.objs.size+1) fp
 have NL:=NL {s2 with heap:=s2.heap.push Q9} (upd H2 s2.heap.objs.size (.lst [])) (s2.heap.objs.size+1) fp
 have he:=he {s2 with heap:=s2.heap.push Q9} (upd H2 s2.heap.objs.size (.lst [])) (s2.heap.objs.size+1) fp
 generalize RN:U4 X Nc scope cl {s2 with heap:=s2.heap.push Q9} (upd H2 s2.heap.objs.size (.lst [])) (s2.heap.objs.size+1) fp=Xc at J0 hg NL he
 have eP:Xc.prog=X.prog:=by subst RN;rfl
 have eW:Xc.w=X.w:=by subst RN;rfl
 have eK:Xc.K=X.K:=by subst RN;rfl
 have eA:Xc.A=X.A:=by subst RN;rfl
 have eX:Xc.xe=λ_ _=>False:=by subst RN;rfl
 have eE:Xc.env=compEnvC scope cl (s2.heap.objs.size+1) X.env:=by subst RN;rfl
 have eC:Xc.calm=true:=by subst RN;exact hc
 have bY:∀{H':Hp},(∀b∈fp,H' b=none)->∀b∈fp,Sm Xc [] H' b:=λ{H'} hn b hb=>by
  subst RN
  obtain⟨f0,f1,kH,f3,f4,f5⟩:=f2 b hb
  obtain⟨o,eo⟩:=QK b hb
  refine⟨hn b hb,AK (DJ (AN eo)),λhz=>?_,.inl hb,λx c e=>f4 x c (cap.sub x c e),λp hp=>absurd (show p∈([]:List (Addr×Obj)) from hp) (by simp)⟩
  rcases AW.mp (I2.stkSub b hz) with e|hz
  .exact f1 e
  .exact kH hz
 have jK:∀b∈fp,b≠s2.heap.objs.size:=λb hb=>by
  obtain⟨o,eo⟩:=QK b hb
  exact AK (AN eo)
 obtain⟨i7,pg,qg⟩:=hg
 obtain⟨tcn,mS,qcn⟩:=NL
 obtain⟨te,pe,qe⟩:=he
 have loop:∀s₃:Shared,s₃={s2 with heap:=h₁,toks:=s2.toks+([]:List (Str×Value)).length} ->
   codeAny (model X.prog X.w) X.A (.compLoop (.ListComp elt [⟨tg,iter,[YJ],0⟩] scope pos) 0 (.ref it) (.ref s2.heap.objs.size) (compEnvC scope cl (s2.heap.objs.size+1) X.env))
    (compPost (model X.prog X.w) X.A X.xe (some (assign (.Name y py) X.env)) (λ_ s'=>SP X pins D' .next s') (.ref s2.heap.objs.size) (s2.heap.objs.size+1)) s₃:=by
  rintro s₃ rfl
  refine Sr (λn s'=>∃i vs es H' MJ σ',n=ds.length-i/\i<=ds.length/\Inv Xc [] σ' H' s'/\tn i s'.heap/\(∀b∈fp,H' b=none) /\
   H' s2.heap.objs.size=some (.lst vs)/\MJ s2.heap.objs.size=none/\Gr MT H2 MJ H'/\Reps X.K MJ es vs/\vs.length<=i /\
   (Ut n0 caps sd).length=σ'.length/\(∀(j:Nat) (d:D),(Ut n0 caps sd)[j]?=some (some (.im d))->∃v,σ'[j]?=some (some v)/\Rep X.K MJ d v) /\
   PoS X.K E H0 B MT ((Ni gt fc fe (Ut n0 caps sd) (ds.drop i)).bind λfs=>.ok (.nx (sd.set i0 (some (.im (.lst (es++fs))))))) D') ?_ ds.length ?_
  .rintro n s' ⟨i,vs,es,H',MJ,σ',rfl,ud,J1,dM,eQ,bQ,ZQ,g1,rs1,jn,XG,bM,hq1⟩
   have jj:=bC i MJ H' g1.fz g1.sub
   cases q:ds[i]? with
   |none=>
    rw[q] at jj
    have SJ:=T.done Xc eP eW eK eC i [] s' _ H' (λ_ _=>False) J1 (bY eQ) dM jj
    rw[eA] at SJ
    refine BR SJ (λr s4 hr=>?_) λ_ _ z=>z
    obtain⟨rfl,J4⟩:=hr
    rw[DY (BL.mp q)] at hq1
    subst RN
    obtain⟨m,hn4,_⟩:=J4.loc
    have I4:Inv X pins σ H' s4:=Bc I2 f2 J4 (h':=s4.heap) ⟨rfl,λ_ _=>rfl⟩
    have fC:VQ X pins (s2.heap.objs.size+1):=Zdy I2 (EJ _)
    have nC:H' (s2.heap.objs.size+1)=none:=J4.free
    show wpAny (model X.prog X.w) X.A (assign (.Name y py) X.env (.ref s2.heap.objs.size)) _ _ s4
    refine wpAny_assign_Name (Mv (v:=.ref s2.heap.objs.size) I4 hN hy jl rfl (λs5 I5 hw=>?_) ug)
    obtain⟨a5,sH,ux⟩:=hw
    have cG:s2.heap.objs.size+1≠a5:=by
     rcases ux with e|e
     .rw[e];exact fC.nl
     .exact(fC.nc _ _ e).symm
    refine⟨m,hn4.sameBut sH cG,λh6 sb6=>?_⟩
    have I6:Inv X pins (σ.set i0 (some (.ref s2.heap.objs.size))) H' {s5 with heap:=h6}:=yb (a:=s2.heap.objs.size+1) (T:=s2.heap.objs.size+1) I5 ⟨λb o n1 n2 _ e=>(sb6.2 b n1).trans e,λb o n1 n2 e=>⟨o.slots,(sb6.2 b n1).trans e⟩⟩ nC nC fC fC
    have SA:PoS X.K E H0 B MT (.ok (.nx (sd.set i0 (some (.im (.lst es)))))) D':=by
     have:es++([]:List D)=es:=BP es
     rw[<-this];exact hq1
    have g:Gr MT H2 (upd MJ s2.heap.objs.size (.lst vs)) H':=by
     refine⟨g1.fz.trans (Qc ZQ _),λb u z=>?_,g1.all,λa h1 h2=>?_⟩
     .by_cases hb:b=s2.heap.objs.size
      .subst hb;rw[Zq] at z;rw[bQ];exact z
      .rw[Zm hb] at z;exact g1.sub b u z
     .have:a≠s2.heap.objs.size:=λz=>h1.nn (z▸fresh)
      rw[Zm this];exact g1.ban a h1 h2
    exact⟨_,H',I6,SA _ _ H' g.fz ((sr2.gr g).set_im i0 (rep_lst.mpr ⟨_,vs,rfl,SqL.of Zq,rs1.mono (Qc ZQ _)⟩))⟩
   |some d=>
    rw[q] at jj
    obtain⟨go,yl⟩:=jj
    have OF:i<ds.length:=(AE.mp q).1
    have jw:ds.drop i=d::ds.drop (i+1):=by
     rw[CM OF]
     congr 1
     exact(AE.mp q).2
    obtain⟨sd1,eg,SA⟩:∃sd1,gt d (Ut n0 caps sd)=.ok sd1/\((fc sd1=.ok true/\∃e1,fe sd1=.ok e1/\PoS X.K E H0 B MT ((Ni gt fc fe (Ut n0 caps sd) (ds.drop (i+1))).bind λfs=>.ok (.nx (sd.set i0 (some (.im (.lst ((es++[e1])++fs))))))) D') \/
      (fc sd1=.ok false/\PoS X.K E H0 B MT ((Ni gt fc fe (Ut n0 caps sd) (ds.drop (i+1))).bind λfs=>.ok (.nx (sd.set i0 (some (.im (.lst (es++fs))))))) D')):=by
     rw[jw] at hq1
     unfold Ni at hq1
     split at hq1
     .rename_i sd1 eg
      refine⟨sd1,eg,?_⟩
      split at hq1
      .rename_i ec
       refine .inl ⟨ec,?_⟩
       split at hq1
       .rename_i e1 ee
        refine⟨e1,ee,?_⟩
        cases em:Ni gt fc fe (Ut n0 caps sd) (ds.drop (i+1)) with
        |ok fs=>
         rw[em] at hq1
         have:(es++[e1])++fs=es++e1::fs:=by simp
         rw[M.bind_ok,this]
         exact hq1
        |ex x=>rw[em] at hq1;exact hq1.elim
        |bad=>rw[em] at hq1;exact hq1.elim
       .exact hq1.elim
      .rename_i ec
       exact .inr ⟨ec,hq1⟩
      .exact hq1.elim
     .exact hq1.elim
    have SI:=T.item Xc eP eW eK eC i [] s' _ H' (λ_ _=>False) J1 (bY eQ) dM go
    rw[eA] at SI
    refine BR SI (λr s4 hr=>?_) λ_ _ z=>z
    obtain⟨u,rfl,h4⟩:=hr
    refine BR h4 (λ_ s5 h5=>?_) λ_ _ z=>z
    obtain⟨x,H5,J5,r5,y5,VR,eO⟩:=h5
    obtain⟨PV,g5,rx⟩:=yl x H5 y5
    have ik:=J5.pinned (bY eO) (T.obj _ _ VR)
    have bU:H5 s2.heap.objs.size=some (.lst vs):=g5.all _ _ bQ
    have gR:PV s2.heap.objs.size=none:=g5.ban _ (Lv.lst bQ) ZQ
    have bL:∀(j:Nat) (d:D),(Ut n0 caps sd)[j]?=some (some (.im d))->∃v,σ'[j]?=some (some v)/\Rep X.K PV d v:=λj d z=>let ⟨v,z1,z2⟩:=bM j d z;⟨v,z1,z2.mono g5.fz⟩
    have sr5:SR Xc.K H5 (λa=>Lv H5 a/\PV a=none) PV (Ut n0 caps sd) σ' H5:=eK▸SR.ofIm g5.sub XG bL qu
    obtain⟨kl,kk,kn⟩:=hk d _ sd1 eg
    rcases SA with⟨ec,e1,ee,SA⟩|⟨ec,SA⟩
    .have WD:=pg _ s5 σ' H5 x u (λσ6 H6=>tcn σ6 H6 λbb dI=>bb=true/\te σ6 dI λv7 H7=>∃PK,Gr PV H5 PK H7/\Rep X.K PK e1 v7/\(Ut n0 caps sd).length=σ6.length/\(∀(j:Nat) (d:D),(Ut n0 caps sd)[j]?=some (some (.im d))->∃v,σ6[j]?=some (some v)/\Rep X.K PK d v)) ik r5
      (qg H5 _ PV _ σ' H5 x d sd1 _ sr5 (eK▸rx) eg λσ6 sr6=>qcn H5 _ PV sd1 σ6 H5 _ sr6 (by
       rw[ec]
       rintro bb YO dI g6 rfl
       refine⟨rfl,qe H5 _ YO sd1 σ6 dI _ (sr6.gr g6) ?_⟩
       rw[ee]
       intro v7 PK H7 g7 r7
       have r7:Rep Xc.K PK e1 v7:=r7
       rw[eK] at r7
       refine⟨PK,g6.trans g7,r7,by rw[<-kl];exact sr6.len,λj d z=>?_⟩
       have z2:sd1[j]?=some (some (.im d)):=by rw[kk j (Al z)];exact z
       obtain⟨v,z3,z4⟩:=sr6.im j d z2
       rw[eK] at z4
       exact⟨v,z3,z4.mono (g6.fz.trans g7.fz)⟩))
     rw[eP,eW,eA,eX,eE] at WD
     refine BR WD (λ_ s6 h6=>?_) λ_ _ z=>z
     obtain⟨σ6,H6,J6,q6⟩:=h6
     have XQ:=mS _ s6 σ6 H6 _ J6 q6
     rw[eP,eW,eA,eX,eE] at XQ
     refine BR XQ (λbb sI h6=>?_) λ_ _ z=>z
     obtain⟨dI,J6',rfl,sV⟩:=h6
     rw[AD rfl]
     have XJ:=pe _ sI σ6 dI _ J6' sV
     rw[eP,eW,eA,eX,eE] at XJ
     refine BR XJ (λy s7 h7=>?_) λ_ _ z=>z
     obtain⟨v7,H7,J7,r7,PK,g7,jB,d7,XH⟩:=h7
     have eM:H7 s2.heap.objs.size=some (.lst vs):=g7.all _ _ bU
     have bO:PK s2.heap.objs.size=none:=g7.ban _ (Lv.lst bU) gR
     have XR:=Gh (X:=Xc) _ s7 σ6 H7 (.ref s2.heap.objs.size) [v7] (.ref s2.heap.objs.size) [y] (λ_ H8=>H8=upd H7 s2.heap.objs.size (.lst (vs++[v7]))) J7 rfl (.cons r7 .nil)
      ⟨_,vs,v7,rfl,rfl,eM,by
       have h1:=BS hfew
       have h2:=CG
       lia,rfl⟩
     rw[eP,eW,eA,eX] at XR
     refine BR XR (λ_ s8 h8=>?_) λ_ _ z=>z
     obtain⟨_,H8,J8,_,e8⟩:=h8
     subst e8
     have g17:=(g1.trans g5).trans g7
     refine⟨ds.length-(i+1),by lia,i+1,vs++[v7],es++[e1],_,PK,σ6,rfl,OF,J8.unpinned,?_,λb hb=>?_,Zq,bO,⟨g17.fz,λb o z=>?_,λb o z=>?_,g17.ban⟩,?_,by rw[AJ,AZ];lia,d7,XH,SA⟩
     .exact T.keep _ _ _ VR λb hb o e=>(J8.pin (b,o) (BF _ (BF _ (X0 hb e)))).1
     .obtain⟨o,e,_⟩:=T.obj _ _ VR b hb
      exact(J8.pin (b,o) (BF _ (BF _ (X0 hb e)))).2.1
     .have:b≠s2.heap.objs.size:=Z3 z bO
      rw[Zm this];exact g17.sub b o z
     .have:b≠s2.heap.objs.size:=Z3 z fresh
      rw[Zm this];exact g17.all b o z
     .exact(rs1.mono (g5.fz.trans g7.fz)).append (Reps.cons jB Reps.nil)
    .have WD:=pg _ s5 σ' H5 x u (λσ6 H6=>tcn σ6 H6 λbb H7=>bb=false/\∃PK,Gr PV H5 PK H7/\(Ut n0 caps sd).length=σ6.length/\(∀(j:Nat) (d:D),(Ut n0 caps sd)[j]?=some (some (.im d))->∃v,σ6[j]?=some (some v)/\Rep X.K PK d v)) ik r5
      (qg H5 _ PV _ σ' H5 x d sd1 _ sr5 (eK▸rx) eg λσ6 sr6=>qcn H5 _ PV sd1 σ6 H5 _ sr6 (by
       rw[ec]
       rintro bb YO dI g6 rfl
       refine⟨rfl,YO,g6,by rw[<-kl];exact sr6.len,λj d z=>?_⟩
       have z2:sd1[j]?=some (some (.im d)):=by rw[kk j (Al z)];exact z
       obtain⟨v,z3,z4⟩:=sr6.im j d z2
       rw[eK] at z4
       exact⟨v,z3,z4.mono g6.fz⟩))
     rw[eP,eW,eA,eX,eE] at WD
     refine BR WD (λ_ s6 h6=>?_) λ_ _ z=>z
     obtain⟨σ6,H6,J6,q6⟩:=h6
     have XQ:=mS _ s6 σ6 H6 _ J6 q6
     rw[eP,eW,eA,eX,eE] at XQ
     refine BR XQ (λbb s8 h6=>?_) λ_ _ z=>z
     obtain⟨H8,J8,rfl,PK,g7,d7,XH⟩:=h6
     rw[AF (by decide)]
     have eM:H8 s2.heap.objs.size=some (.lst vs):=g7.all _ _ bU
     have bO:PK s2.heap.objs.size=none:=g7.ban _ (Lv.lst bU) gR
     have g17:=(g1.trans g5).trans g7
     refine⟨ds.length-(i+1),by lia,i+1,vs,es,_,PK,σ6,rfl,OF,J8.unpinned,?_,λb hb=>?_,eM,bO,g17,rs1.mono (g5.fz.trans g7.fz),by lia,d7,XH,SA⟩
     .exact T.keep _ _ _ VR λb hb o e=>(J8.pin (b,o) (BF _ (BF _ (X0 hb e)))).1
     .obtain⟨o,e,_⟩:=T.obj _ _ VR b hb
      exact(J8.pin (b,o) (BF _ (BF _ (X0 hb e)))).2.1
  .refine⟨0,[],[],_,MT,_,by simp,CL _,J0,T.keep 0 _ _ VZ λb hb o e=>hold1 b o e,λb hb=>?_,Zq,g2.sub.free fresh,⟨Same.refl _,λb o z=>?_,Qc fresh _,λ_ _ z=>z⟩,Reps.nil,AQ _,?_,λj d z=>?_,?_⟩
   .rw[Zm (jK b hb)];exact(f2 b hb).1
   .have:b≠s2.heap.objs.size:=Z3 (g2.sub b o z) fresh
    rw[Zm this];exact g2.sub b o z
   .unfold Ut;simp only[AJ,CP,AC]
   .obtain⟨k,j',d',rfl,ej,es,ed⟩:=F2 z
    cases ed
    obtain⟨v,z1,z2⟩:=sr2.im j' d es
    refine⟨v,?_,z2⟩
    rw[BW (by simp),CP,EV,BE,ej]
    simp[z1]
   .rw[GS]
    exact hq
 show codeAny (model X.prog X.w) X.A (.compStart (.ListComp elt [⟨tg,iter,[YJ],0⟩] scope pos) 0 (.ref it) (.ref s2.heap.objs.size) (compEnvC scope cl (s2.heap.push Q9).objs.size X.env))
  (compPost (model X.prog X.w) X.A X.xe (some (assign (.Name y py) X.env)) (λ_ s'=>SP X pins D' .next s') (.ref s2.heap.objs.size) (s2.heap.push Q9).objs.size) {s2 with heap:=h₁,toks:=s2.toks+([]:List (Str×Value)).length}
 rw[hC]
 exact LH (loop _ rfl) (T.self X.A 0 _ _ _ (T.keep 0 _ _ VZ λb hb o e=>hold1 b o e) (loop _ rfl))
end DL
namespace DL
open PySem PySem.Spec PyProof.Rows L2 PySem.W
def dD (p q r t:Int):D->M D
 |.tup [.tup [.int a,.int b],.tup [.int c,.int d]]=>.ok (.bl (!(decide (a=p)&&decide (b=q)&&decide (c=r)&&decide (d=t))))
 |_=>.bad
end DL
namespace DL
open PySem PySem.Spec PyProof.Rows L2
theorem T6 {α β:Type}{F:α->β->Prop}:∀{l:List α}{m:List β},Paired F l m->∀{i:Nat}{a:α},l[i]?=some a->∃b,m[i]?=some b/\F a b
 |_,_,.nil,i,a,e=>by simp at e
 |_,_,.cons h t,0,a,e=>by simp at e;subst e;exact⟨_,rfl,h⟩
 |_,_,.cons h t,i+1,a,e=>by
  obtain⟨b,e1,e2⟩:=T6 t (i:=i) (by simpa using e)
  exact⟨b,by simpa using e1,e2⟩
section
variable {X:Cx}{E:XK}{pos p apos cpos:Pos}
def Bl (K:PySem.W.Frag)(T:Addr)(p q r t:Int):Bool:=match K.lookup T with
 |some o=>(match o.cls,o.data with
  |.type n,.seq its _=>decide (n="tuple")&&(match its.toList with
   |[.ref a,.ref b]=>iP K a [.int p,.int q]&&iP K b [.int r,.int t]
   |_=>false)
  |_,_=>false)
 |none=>false
def Zd8 {K:PySem.W.Frag}{T:Addr}{p q r t:Int}(h:Bl K T p q r t=true)(H:Hp):∃a b,SqT K H T [.ref a,.ref b]/\SqT K H a [.int p,.int q]/\SqT K H b [.int r,.int t]:=by
 unfold Bl at h
 split at h
 .rename_i o eo
  split at h
  .rename_i n its m e1 e2
   rw[BG] at h
   obtain⟨h1,h2⟩:=h
   have h1:=BS h1
   subst h1
   split at h2
   .rename_i a b el
    rw[BG] at h2
    have hs:its.size=2:=by rw[<-DN,el];rfl
    refine⟨a,b,.inr ⟨o,its,m,eo,e1,e2,?_,?_⟩,(I0 h2.1).1,(I0 h2.2).1⟩
    .rw[hs,CG];decide
    .rw[el]
     exact .cons rfl (.cons rfl .nil)
   .cases h2
  .cases h
 .cases h
section
variable {pins:List (Addr×Obj)}{σ:L2.St}{H:Hp}{s:Shared}
def Ob (I:Inv X pins σ H s){A:Around}(hu:A.units+2<cLine){a b:Addr}{x y u v:Int}(ha:SqT X.K H a [.int x,.int y])(hb:SqT X.K H b [.int u,.int v]):SeqAt.EqAt A s (.ref a) (.ref b) (decide (x=u)&&decide (y=v)):=by
 obtain⟨i1,v1,t1,_⟩:=I.tuple ha
 obtain⟨i2,v2,t2,_⟩:=I.tuple hb
 obtain⟨a1,a2,rfl,r1,r2⟩:=Tj v1
 obtain⟨b1,b2,rfl,r3,r4⟩:=Tj v2
 obtain⟨k1,rfl⟩:=(show ∃t,a1=Value.int x t from r1)
 obtain⟨k2,rfl⟩:=(show ∃t,a2=Value.int y t from r2)
 obtain⟨k3,rfl⟩:=(show ∃t,b1=Value.int u t from r3)
 obtain⟨k4,rfl⟩:=(show ∃t,b2=Value.int v t from r4)
 have rc:=SeqAt.RcAt.tuples (e:=λj=>if j=0 then x==u else y==v) t1 t2 (show A.units<cLine by lia) λj h1 h2=>by
  have:j=0\/j=1:=by simp at h1;lia
  rcases this with rfl|rfl
  .exact .int_int x k1 u k3
  .exact .int_int y k2 v k4
 have e:(decide (x=u)&&decide (y=v))=((List.range (min [Value.int x k1,Value.int y k2].toArray.size [Value.int u k3,Value.int v k4].toArray.size)).all (λj=>if j=0 then x==u else y==v)&&([Value.int x k1,Value.int y k2].toArray.size==[Value.int u k3,Value.int v k4].toArray.size)):=by
  show _=((List.range 2).all _&&true)
  rw[EC]
  simp[LW]
 rw[e]
 by_cases hp:a=b
 .subst hp
  have q:=I.tuple_inj ha hb
  injection q with q1 q2
  injection q2 with q2 _
  injection q1 with q1
  injection q2 with q2
  rw[<-e,q1,q2,BD rfl,BD rfl]
  exact .same _
 .exact .of_refs hp rc
def Zhg (I:Inv X pins σ H s)(hu:X.A.units+64<cLine){p T a b c d:Addr}{x y z w p' q' r' t':Int}(h1:SqT X.K H p [.ref a,.ref b])(h2:SqT X.K H a [.int x,.int y])(h3:SqT X.K H b [.int z,.int w])(g1:SqT X.K H T [.ref c,.ref d])(g2:SqT X.K H c [.int p',.int q'])(g3:SqT X.K H d [.int r',.int t']):SeqAt.RcNeAt X.A s (.ref p) (.ref T) (!(decide (x=p')&&decide (y=q')&&decide (z=r')&&decide (w=t'))):=by
 obtain⟨i1,v1,t1,_⟩:=I.tuple h1
 obtain⟨i2,v2,t2,_⟩:=I.tuple g1
 obtain⟨a1,a2,rfl,r1,r2⟩:=Tj v1
 obtain⟨b1,b2,rfl,r3,r4⟩:=Tj v2
 obtain rfl:a1=Value.ref a:=r1
 obtain rfl:a2=Value.ref b:=r2
 obtain rfl:b1=Value.ref c:=r3
 obtain rfl:b2=Value.ref d:=r4
 have gJ:X.A.in1.units+2<cLine:=by show X.A.units+1+2<_;lia
 have e1:=Ob I (A:=X.A.in1) gJ h2 g2
 have e2:=Ob I (A:=X.A.in1) gJ h3 g3
 have ne:=SeqAt.RcNeAt.tuples (e:=λj=>if j=0 then(decide (x=p')&&decide (y=q')) else(decide (z=r')&&decide (w=t'))) t1 t2 (show X.A.units<cLine by lia) λj k1 k2=>by
  have:j=0\/j=1:=by simp at k1;lia
  rcases this with rfl|rfl
  .exact e1
  .exact e2
 have e:(!(decide (x=p')&&decide (y=q')&&decide (z=r')&&decide (w=t')))=!((List.range (min [Value.ref a,Value.ref b].toArray.size [Value.ref c,Value.ref d].toArray.size)).all (λj=>if j=0 then(decide (x=p')&&decide (y=q')) else(decide (z=r')&&decide (w=t')))&&([Value.ref a,Value.ref b].toArray.size==[Value.ref c,Value.ref d].toArray.size)):=by
  show _=!((List.range 2).all _&&true)
  simp[LW,IE]
 rw[e]
 exact ne
end
def wx (K:PySem.W.Frag)(T:Addr)(p q r t:Int):R2:=λx y H Q=>∃c a b k l m n,x=.ref c/\y=.ref T/\SqT K H c [.ref a,.ref b]/\SqT K H a [.int k,.int l]/\SqT K H b [.int m,.int n]/\Q (.bl (!(decide (k=p)&&decide (l=q)&&decide (m=r)&&decide (n=t)))) H
def yW {T:Addr}{p q r t:Int}(hu:X.A.units+64<cLine)(hT:Bl X.K T p q r t=true):OpR X (compareOp .NotEq) (wx X.K T p q r t):=by
 intro pins s σ H x y v u Q I rx ry h
 obtain⟨c,a,b,k,l,m,n,rfl,rfl,h1,h2,h3,q⟩:=h
 obtain rfl:v=Value.ref c:=rx
 obtain rfl:u=Value.ref T:=ry
 obtain⟨d,e,g1,g2,g3⟩:=Zd8 hT H
 exact Zhg I hu h1 h2 h3 g1 g2 g3 _ _ _ _ ⟨.bl _,H,I,rfl,q⟩
def Zhh {x:Str}{e:Expr}{p2:Pos}{T:Addr}{p q r t:Int}{f:Zg->M D}(hu:X.A.units+64<cLine)(hm:X.mg x=some (.ref T))(ht:Bl X.K T p q r t=true)(he:Xq X E e f)(hg:Gl X x:=by rfl) (hd:(x==("__debug__":Str))=false:=by decide):
  M7 X E (.Compare e [.NotEq] [.Name x p2] pos) (DL.tB (Dv (dD p q r t) f)):=by
 obtain⟨te,pe,qe⟩:=he
 refine⟨_,B8 (yW hu ht) pe (Zf7 (v:=.ref T) hg hm rfl hd) (by with_unfolding_all rfl),λH0 B Hf sd σ H Q sr h=>?_⟩
 refine qe H0 B Hf sd σ H _ sr (Po.bind (yX h) λd v ML H1 _ g1 rv h1=>?_)
 unfold dD at h1
 split at h1
 .rename_i k l m n _
  obtain⟨c,xs,rfl,hc,hr⟩:=Qh rv
  obtain⟨v1,v2,rfl,r1,r2⟩:=Df hr
  obtain⟨a,as,rfl,ha,uJ⟩:=Qh r1
  obtain⟨b,bs,rfl,hb,uI⟩:=Qh r2
  obtain⟨w1,w2,rfl,s1,s2⟩:=Df uJ
  obtain⟨w3,w4,rfl,s3,s4⟩:=Df uI
  rw[rep_int] at s1 s2 s3 s4
  subst s1 s2 s3 s4
  exact⟨c,a,b,k,l,m,n,rfl,rfl,Same.seqT g1.sub hc,Same.seqT g1.sub ha,Same.seqT g1.sub hb,Po.ret g1.sub h1 (rep_bl.mpr rfl)⟩
 .exact h1.elim
end
section
variable {X:Cx}{E:XK}{pos p1 p2 pos':Pos}{key value:Expr}{x:Str}
def wu {σ:L2.St}{i:Nat}{v:Option V}(hi:i≠0):(σ.set i v)[0]?=σ[0]?:=AR hi
end
def Nx (H:Hp)(a:Addr):Hp:=λb=>if b=a then none else H b
def Vr (H:Hp)(a:Addr):Same (Nx H a) H:=λb u q=>by
 unfold Nx at q
 split at q
 .cases q
 .exact q
def Vs (H:Hp)(a:Addr):Nx H a a=none:=AD rfl
def Kf {H:Hp}{a b:Addr}(h:b≠a):Nx H a b=H b:=AF h
structure GrM (a:Addr) (Hf H MJ H':Hp):Prop where
 fz:Same Hf MJ
 sub:Same MJ H'
 all:∀b u,b≠a->H b=some u->H' b=some u
 ban:∀b,Lv H b->Hf b=none->MJ b=none
def cu (K:PySem.W.Frag)(Hf:Hp):List S->List V->Prop:=Paired λs v=>s.own=false/\RepS K Hf s v
def fM (K:PySem.W.Frag)(Hf _H:Hp)(ss:List S)(vs:List V):Prop:=cu K Hf ss vs
def aI (X:Cx)(E:XK)(es:List Expr)(f:Zg->M (List S)):Prop:=
 ∃t:TA,PA X es t/\∀(H0:Hp) (B:Addr->Prop) (Hf:Hp) (sd:Zg) (σ:L2.St) (H:Hp) (Q:List V->Hp->Prop),SR X.K H0 B Hf sd σ H->Po X.K E (fM X.K) Hf H (f sd) Q->t σ H Q
def Nj:S->Bool
 |.ob _ _ _=>true
 |.fl _ _ _=>true
 |_=>false
def K1 {s:S}(h:Nj s=true):s.own=false:=by
 cases s<;>first|rfl|cases h
def T7 (_:Zg):M (List S):=.ok []
def Vt (i:Nat)(fr:Zg->M (List S))(sd:Zg):M (List S):=match sd[i]? with
 |some (some s)=>if Nj s then(fr sd).bind λss=>.ok (s::ss) else .bad
 |_=>.bad
def Uw (fa:Zg->M D)(fr:Zg->M (List S))(sd:Zg):M (List S):=(fa sd).bind λd=>(fr sd).bind λss=>.ok (.im d::ss)
section
variable {X:Cx}{E:XK}{pos p p1 p2 apos:Pos}{a:Expr}{es:List Expr}{x:Str}
def Pj:aI X E [] T7:=⟨_,Ji,λ_ _ _ _ _ _ _ sr h=>Po.ret (R:=fM X.K) sr.sub h .nil⟩
def Va {fa:Zg->M D}{fr:Zg->M (List S)}(ha:Xq X E a fa)(hr:aI X E es fr)(hs:starEach (a::es) X.env=(false,eval a X.env)::starEach es X.env:=by rfl):aI X E (a::es) (Uw fa fr):=by
 obtain⟨ta,pa,qa⟩:=ha
 obtain⟨tr,pr,qr⟩:=hr
 refine⟨_,Qm pa pr hs,λH0 B Hf sd σ H Q sr h=>?_⟩
 refine qa H0 B Hf sd σ H _ sr (Po.bind h λd v ML H1 _ g1 rv h1=>?_)
 refine qr H0 B ML sd σ H1 _ (sr.gr g1) (Po.bind h1 λds vs MT H2 _ g2 rs h2=>?_)
 exact Po.ret (R:=fM X.K) g2.sub h2 (.cons ⟨rfl,Rep.mono g2.fz rv⟩ rs)
def Ku (i:Nat){fr:Zg->M (List S)}(hr:aI X E es fr)(hN:X.N[i]?=some x:=by rfl)(hv:Mc X.env.scope x:=by trivial) (hd:(x==("__debug__":Str))=false:=by decide)
  (NL:(x==("__classdict__":Str))=false:=by decide) (hs:starEach (.Name x p::es) X.env=(false,eval (.Name x p) X.env)::starEach es X.env:=by rfl):aI X E (.Name x p::es) (Vt i fr):=by
 obtain⟨tr,pr,qr⟩:=hr
 refine⟨_,Qm (Qe hN hv hd NL) pr hs,λH0 B Hf sd σ H Q sr h=>?_⟩
 unfold Vt at h
 split at h
 .rename_i s ei
  split at h
  .rename_i ho
   obtain⟨v,e1,e2⟩:=sr.imS i s ei (K1 ho)
   refine⟨v,e1,qr H0 B Hf sd σ H _ sr (Po.bind h λss vs ML H1 _ g1 rs h1=>?_)⟩
   exact Po.ret (R:=fM X.K) g1.sub h1 (.cons ⟨K1 ho,e2.mono g1.fz⟩ rs)
  .exact h.elim
 .exact h.elim
end
def Sh (K:PySem.W.Frag)(F:List S->M S):Sp:=λvs H Q _=>∃Hf ss s,Same Hf H/\cu K Hf ss vs/\F ss=.ok s/\∀v MJ H',Gr Hf H MJ H'->RS K H MJ H' s v->Q v H'
def Oc (n m:Nat)(f:Zg->M O)(ss:List S):M S:=if ss.length=n then Wx (f (ss.map some++List.replicate m none)) else .bad
def Go {K:PySem.W.Frag}{N:List Str}{Hf H:Hp}{ss:List S}{vs:List V}{m:Nat}(e:Same Hf H)(r:cu K Hf ss vs)(hN:N.length=ss.length+m):
  SR K H (λa=>Lv H a/\Hf a=none) Hf (ss.map some++List.replicate m none) (L2.Je N vs) H:=by
 have hlen:=DV r
 have es:L2.Je N vs=vs.map some++List.replicate m none:=by
  unfold L2.Je
  rw[show N.length-vs.length=m by lia]
 rw[es]
 refine SR.ofS e (by simp[hlen]) λi t h=>?_
 by_cases hl:i<ss.length
 .rw[BC (by simpa using hl),BE] at h
  cases q:ss[i]? with
  |none=>rw[q] at h;cases h
  |some s=>
   rw[q] at h
   cases h
   obtain⟨v,e1,e2,e3⟩:=T6 r q
   have:i<vs.length:=(AE.mp e1).1
   exact⟨e2,v,by rw[BC (by simpa using this),BE,e1];rfl,e3⟩
 .rw[BW (by simpa using hl),CQ] at h
  split at h<;>cases h
def Hc {P:Program}{w:World}{K:PySem.W.Frag}{mg:Str->Option Value}{base:Heap}{x qual:Str}{st:Stmt}{f:Addr}{fd:FuncData}{N ps:List Str}{k m n:Nat}{fb:Zg->M O}(F:Fun K x qual st f fd)(sc:MK N ps (Zf st))(hn:ps.length=n)(hN:N.length=n+m)(OH:∀(MP:Value) (A:Around) (outer:List Env) (s:Shared) (H:Hp) (E:XK),Room k (A.deeper (envOfC qual (Zf st) s.heap.objs.size f MP)) ->
   N5 (Xo Yf P w K mg base N qual (Zf st) f MP A outer s H E).nox E0 (Xe st) fb):MM P w K mg base Yf (k+1) f fd ps (Sh K (Oc n m fb)):=by
 refine F.ok sc (λvs H Q E h=>?_) (λMP A outer s H vs Q E hr h=>?_)
 .obtain⟨Hf,ss,s,e,r,hF,_⟩:=h
  unfold Oc at hF
  split at hF
  .rename_i hl
   rw[<-DV r,hl,hn]
  .cases hF
 .obtain⟨Hf,ss,s',e,r,hF,q⟩:=h
  obtain⟨t,p,qt⟩:=OH MP A outer s H E hr
  unfold Oc at hF
  split at hF
  .rename_i hl
   refine⟨t,p,qt H _ Hf _ (L2.Je N vs) H _ (Go (N:=N) (m:=m) e r (by lia)) ?_⟩
   generalize fb (ss.map some++List.replicate m none)=ro at hF
   have back:∀{v:V}{MJ H':Hp}{s:DL.S},Same Hf MJ->UF H (λa=>Lv H a/\Hf a=none) MJ H'->RS K H MJ H' s v->s=s'->Q v H':=λ{v MJ H' s} e1 e2 e3 e4=>by
    subst e4
    exact q v MJ H' ⟨e1,e2.sub,e2.all,λa h1 h2=>e2.ban a ⟨h1,h2⟩⟩ e3
   cases ro with
   |ok o=>
    cases o with
    |rt s2=>
     have e':s2=s':=by cases hF;rfl
     exact λv MJ H' e1 e2 e3=>back e1 e2 e3 e'
    |nx sd'=>
     have e':DL.S.im .non=s':=by cases hF;rfl
     exact λσ' MJ H' e1 sr'=>back (v:=.non) (s:=DL.S.im .non) e1 sr'.fin (show Rep K MJ .non .non from rep_non.mpr rfl) e'
    |bk sd'=>cases hF
    |ct sd'=>cases hF
   |ex x=>cases hF
   |bad=>cases hF
  .cases hF
def Pk:M S->M D
 |.ok (.im d)=>.ok d
 |_=>.bad
def T9 (F:List S->M S)(fs:Zg->M (List S))(sd:Zg):M D:=(fs sd).bind λss=>Pk (F ss)
def Ap {K:PySem.W.Frag}{E:XK}{ML H1:Hp}{F:List S->M S}{ss:List S}{vs:List V}{Q:VK}(e:Same ML H1)(rs:cu K ML ss vs)(h:Po K E (rV K) ML H1 (Pk (F ss)) Q){E':XK}:Sh K F vs H1 Q E':=by
 cases q:F ss with
 |ok s=>
  rw[q] at h
  cases s with
  |im d=>exact⟨ML,ss,.im d,e,rs,q,λv MJ H' g rv=>h v MJ H' g rv⟩
  |ow ds=>exact h.elim
  |od kvs=>exact h.elim
  |dk kvs=>exact h.elim
  |xc x=>exact h.elim
  |fn x=>exact h.elim
  |ob a c r=>exact h.elim
  |fl a g q=>exact h.elim
 |ex x=>rw[q] at h;exact h.elim
 |bad=>rw[q] at h;exact h.elim
section
variable {X:Cx}{E:XK}{pos p p1 p2 apos:Pos}{a:Expr}{es:List Expr}{x vn m:Str}{k:Nat}{f:Addr}{fd:FuncData}{ps:List Str}{F:List S->M S}
def D1 {fs:Zg->M (List S)}(G:MM X.prog X.w X.K X.mg X.base Yf k f fd ps (Sh X.K F))(hr:Room k X.A)(hm:X.mg x=some (.ref f))(hk:PySem.W.keepIn X.K (.ref f)=true)(hb:Binds X.K fd ps [])(ha:aI X E (a::es) fs)(hg:Gl X x:=by rfl) (QA:(x==("__debug__":Str))=false:=by decide) (he:starEach (a::es) X.env=(false,eval a X.env)::starEach es X.env:=by rfl) (ND:(backTo pos (starEach es X.env)).any (·.1)=false:=by rfl):
  Xq X E (.Call (.Name x p) (a::es) [] pos) (T9 F fs):=by
 obtain⟨t,pt,qt⟩:=ha
 refine⟨_,Ka (dvs:=[]) (E:=E0) G hr hg hm hk hb .nil Jj pt QA he ND,λH0 B Hf sd σ H Q sr h=>?_⟩
 refine qt H0 B Hf sd σ H _ sr (Po.bind h λss vs ML H1 _ g1 rs h1=>?_)
 show Sh X.K F (vs++[]) H1 Q _
 rw[BP]
 exact Ap g1.sub rs h1
structure UK (K:PySem.W.Frag) (c:Str) (C:Addr):Prop where
 at_:PySem.W.nsIn K mainGlobals c=some (some (.ref C))
 cls:Cls K C
def Pm {K:PySem.W.Frag}{H:Hp}{r:List (Str×D)}{gs:List (Str×V)}(h:RepKV K H r gs)(n:Str):match r.lookup n with
  |some d=>∃v,gs.lookup n=some v/\Rep K H d v
  |none=>gs.lookup n=none:=by
 induction h with
 |nil=>rfl
 | @cons p q l l' hp ht ih=>
  obtain⟨p1,p2⟩:=p
  obtain⟨q1,q2⟩:=q
  obtain⟨e,rp⟩:=hp
  have e:p1=q1:=e
  subst e
  rw[DT,DT]
  cases n==p1 with
  |true=>exact⟨q2,rfl,rp⟩
  |false=>exact ih
def Yh (i:Nat)(c n:Str)(sd:Zg):M D:=match sd[i]? with
 |some (some (.ob _ c' r))=>if c'=c then(match r.lookup n with|some d=>.ok d|none=>.bad) else .bad
 |_=>.bad
def Qv (i:Nat){c n:Str}{C:Addr}(oc:UK X.K c C)(na:NoAttr X.K C n)(hN:X.N[i]?=some vn:=by rfl)(hv:Mc X.env.scope vn:=by trivial) (hd:(vn==("__debug__":Str))=false:=by decide)
  (NL:(vn==("__classdict__":Str))=false:=by decide) (hb:attributeBase (.Name vn p) n X.env (eval (.Name vn p) X.env)=eval (.Name vn p) X.env:=by rfl):Xq X E (.Attribute (.Name vn p) n pos) (Yh i c n):=by
 refine⟨_,Wq (Qe hN hv hd NL) hb,λH0 B Hf sd σ H Q sr h=>?_⟩
 unfold Yh at h
 split at h
 .rename_i a c' r ei
  split at h
  .rename_i ec
   subst ec
   obtain⟨v,e1,C',dx,gs,rfl,e2,e3,e4⟩:=sr.imS i _ ei rfl
   rw[oc.at_] at e2
   cases e2
   have kl:=Pm e4 n
   split at h
   .rename_i d el
    rw[el] at kl
    obtain⟨v,l,rv⟩:=kl
    exact⟨.ref a,e1,a,C,dx,gs,v,rfl,sr.sub _ _ e3,oc.cls,na,l,Po.ret (R:=rV X.K) sr.sub h rv⟩
   .exact h.elim
  .exact h.elim
 .exact h.elim
def X2 (i:Nat)(c n:Str)(F:List S->M S)(fs:Zg->M (List D))(sd:Zg):M D:=match sd[i]? with
 |some (some (.ob a c' r))=>if c'=c/\r.lookup n=none then(fs sd).bind λds=>Pk (F (.ob a c' r::ds.map S.im)) else .bad
 |_=>.bad
theorem Aq {K:PySem.W.Frag}{H:Hp}:∀{ds:List D}{vs:List V},Reps K H ds vs->cu K H (ds.map S.im) vs
 |[],_,r=>by rw[reps_nil.mp r];exact .nil
 |d::ds,_,r=>by
  obtain⟨x,t,rfl,h,q⟩:=reps_cons.mp r
  exact .cons ⟨rfl,h⟩ (Aq q)
def Bm {c n:Str}{C:Addr}{t:TA}{fs:Zg->M (List D)}{i:Nat}(oc:UK X.K c C)(qt:∀(H0:Hp) (B:Addr->Prop) (Hf:Hp) (sd:Zg) (σ:L2.St) (H:Hp) (Q:List V->Hp->Prop),SR X.K H0 B Hf sd σ H->Po X.K E (rA X.K) Hf H (fs sd) Q->t σ H Q){H0:Hp}{B:Addr->Prop}{Hf:Hp}{sd:Zg}{σ:L2.St}{H:Hp}{Q:VK}{E':XK}(sr:SR X.K H0 B Hf sd σ H)(h:Po X.K E (rV X.K) Hf H (X2 i c n F fs sd) Q):lu C n (Sh X.K F) [] E' (fm i) t σ H Q:=by
 unfold X2 at h
 split at h
 .rename_i a c' r ei
  split at h
  .rename_i ec
   obtain⟨ec,el⟩:=ec
   subst ec
   obtain⟨v,e1,C',dx,gs,rfl,e2,e3,e4⟩:=sr.imS i _ ei rfl
   rw[oc.at_] at e2
   cases e2
   have kl:=Pm e4 n
   rw[el] at kl
   refine⟨.ref a,e1,a,dx,gs,rfl,sr.sub _ _ e3,kl,qt H0 B Hf sd σ H _ sr (Po.bind h λds vs ML H1 _ g1 rs h1=>?_)⟩
   rw[BP]
   have ro:RepS X.K ML (.ob a c' r) (.ref a):=RepO.mono g1.fz ⟨C,dx,gs,rfl,oc.at_,e3,e4⟩
   exact Ap g1.sub (.cons ⟨rfl,ro⟩ (Aq rs)) h1
  .exact h.elim
 .exact h.elim
def W3 (i:Nat){c:Str}{C:Addr}{fs:Zg->M (List D)}{pl:Sem Bool}(oc:UK X.K c C)(hm:OD X.K C m f)(G:MM X.prog X.w X.K X.mg X.base Yf k f fd ps (Sh X.K F))(hr:Room k X.A)(hb:Binds X.K fd ps [])(ha:L9 X E (a::es) fs)(hN:X.N[i]?=some vn:=by rfl)(hv:Mc X.env.scope vn:=by trivial) (hd:(vn==("__debug__":Str))=false:=by decide) (NL:(vn==("__classdict__":Str))=false:=by decide)
  (P7:starEach (a::es) X.env=(false,eval a X.env)::starEach es X.env:=by rfl) (ND:(backTo pos (starEach es X.env)).any (·.1)=false:=by rfl)
  (ht:eval (.Call (.Attribute (.Name vn p) m apos) (a::es) [] pos) X.env=(do
   let ov <-eval (.Name vn p) X.env
   standAt apos.atName
   let (f,first) <-holding [ov] (getMethod ov m pl)
   callWith pos f first (backTo pos (starEach (a::es) X.env)) (backToKw pos (keywordEach [] X.env))):=by rfl):Xq X E (.Call (.Attribute (.Name vn p) m apos) (a::es) [] pos) (X2 i c m F fs):=by
 obtain⟨t,pt,qt⟩:=ha
 exact⟨_,Ac (dvs:=[]) (E:=E0) (pl:=pl) (Qe hN hv hd NL) oc.cls hm G hr hb .nil Jj pt P7 ND ht,λH0 B Hf sd σ H Q sr h=>Bm oc qt sr h⟩
def Vj (i:Nat){c:Str}{C:Addr}{pl:Sem Bool}(oc:UK X.K c C)(hm:OD X.K C m f)(G:MM X.prog X.w X.K X.mg X.base Yf k f fd ps (Sh X.K F))(hr:Room k X.A)(hb:Binds X.K fd ps [])(hN:X.N[i]?=some vn:=by rfl)(hv:Mc X.env.scope vn:=by trivial) (hd:(vn==("__debug__":Str))=false:=by decide) (NL:(vn==("__classdict__":Str))=false:=by decide)
  (ht:eval (.Call (.Attribute (.Name vn p) m apos) [] [] pos) X.env=(do
   let ov <-eval (.Name vn p) X.env
   standAt apos.atName
   let (f,first) <-holding [ov] (getMethod ov m pl)
   callWith pos f first (backTo pos (starEach [] X.env)) (backToKw pos (keywordEach [] X.env))):=by rfl):Xq X E (.Call (.Attribute (.Name vn p) m apos) [] [] pos) (X2 i c m F Zj):=
 ⟨_,C5 (dvs:=[]) (E:=E0) (pl:=pl) (Qe hN hv hd NL) oc.cls hm G hr hb .nil Jj ht,λH0 B Hf sd σ H Q sr h=>Bm oc (λ_ _ _ _ _ _ _ sr h=>Po.ret sr.sub h Reps.nil) sr h⟩
end
def Ue (it ip:Nat)(f:Zg->M O):List (S×D)->Zg->M O
 |[],sd=>.ok (.nx sd)
 |od::r,sd=>(f ((sd.set it (some od.1)).set ip (some (.im od.2)))).bind λx=>match x with
  |.nx sd2=>Ue it ip f r sd2
  |.ct sd2=>Ue it ip f r sd2
  |.bk sd2=>.ok (.nx sd2)
  |.rt s=>.ok (.rt s)
def Pn (it ip i1 i2:Nat)(f1 f2:Zg->M D)(f:Zg->M O)(sd:Zg):M O:=match sd[i1]?,sd[i2]? with
 |some (some o1),some (some o2)=>if Nj o1&&Nj o2 then(f1 sd).bind λd1=>(f2 sd).bind λd2=>Ue it ip f [(o1,d1),(o2,d2)] sd else .bad
 |_,_=>.bad
def PrV (K:PySem.W.Frag)(Hf:Hp)(od:S×D)(v:V):Prop:=∃p a b,v=.ref p/\Hf p=some (.tup [a,b])/\od.1.own=false/\RepS K Hf od.1 a/\Rep K Hf od.2 b
theorem PrV.mono {K:PySem.W.Frag}{H H':Hp}(e:Same H H'){od:S×D}{v:V}(h:PrV K H od v):PrV K H' od v:=by
 obtain⟨p,a,b,e1,e2,e3,e4,e5⟩:=h
 exact⟨p,a,b,e1,e _ _ e2,e3,e4.mono e,e5.mono e⟩
section
variable {X:Cx}{E:XK}{pos q0 q1 q2 pt pp p1 p2 pg:Pos}{x1 x2 xt xp:Str}{e1 e2:Expr}{k0 k1 k2 kt:Nat}
def Zd9 (it ip i1 i2:Nat){body:List Stmt}{f1 f2:Zg->M D}{f:Zg->M O}(hp:PassesOwn (model X.prog X.w) X.A X.env X.xe)(hc:X.calm=true)(hN:X.N.Nodup)(h1:Xq X E e1 f1)(h2:Xq X E e2 f2)(hb:N5 X E body f)(n1:X.N[i1]?=some x1:=by rfl)(n2:X.N[i2]?=some x2:=by rfl)(nt:X.N[it]?=some xt:=by rfl)(np:X.N[ip]?=some xp:=by rfl)(v1:Mc X.env.scope x1:=by trivial)(v2:Mc X.env.scope x2:=by trivial)(lt:WN X.env.scope xt:=by trivial)(lp:WN X.env.scope xp:=by trivial)(ft:X.fn xt=true\/X.env.scope.names.lookup xt=some .local:=by first|exact .inl rfl|exact .inr rfl)(fp:X.fn xp=true\/X.env.scope.names.lookup xp=some .local:=by first|exact .inl rfl|exact .inr rfl)
  (d1:(x1==("__debug__":Str))=false:=by decide) (c1:(x1==("__classdict__":Str))=false:=by decide) (d2:(x2==("__debug__":Str))=false:=by decide) (c2:(x2==("__classdict__":Str))=false:=by decide)
  (s1:starEach [.Name x1 p1,e1] X.env=(false,eval (.Name x1 p1) X.env)::starEach [e1] X.env:=by rfl) (sN:starEach [e1] X.env=(false,eval e1 X.env)::starEach [] X.env:=by rfl)
  (s2:starEach [.Name x2 p2,e2] X.env=(false,eval (.Name x2 p2) X.env)::starEach [e2] X.env:=by rfl) (sJ:starEach [e2] X.env=(false,eval e2 X.env)::starEach [] X.env:=by rfl)
  (s3:starEach [.Tuple [.Name x1 p1,e1] k1 q1,.Tuple [.Name x2 p2,e2] k2 q2] X.env=(false,eval (.Tuple [.Name x1 p1,e1] k1 q1) X.env)::starEach [.Tuple [.Name x2 p2,e2] k2 q2] X.env:=by rfl)
  (s4:starEach [.Tuple [.Name x2 p2,e2] k2 q2] X.env=(false,eval (.Tuple [.Name x2 p2,e2] k2 q2) X.env)::starEach [] X.env:=by rfl)
  (g1:(assignEach [.Name xt pt,.Name xp pp] X.env).map (·.2)=assign (.Name xt pt) X.env::(assignEach [.Name xp pp] X.env).map (·.2):=by rfl) (g2:(assignEach [.Name xp pp] X.env).map (·.2)=assign (.Name xp pp) X.env::(assignEach [] X.env).map (·.2):=by rfl)
  (gn:(assignEach [.Name xt pt,.Name xp pp] X.env).length=2:=by rfl) (gs:(assignEach [.Name xt pt,.Name xp pp] X.env).findIdx? (·.1)=none:=by rfl)
  (hs:∀x,foldedSetIterable (.Tuple [.Tuple [.Name x1 p1,e1] k1 q1,.Tuple [.Name x2 p2,e2] k2 q2] k0 q0) X.env x=pure x:=by intro _;rfl):
  N4 X E (.For (.Tuple [.Name xt pt,.Name xp pp] kt pg) (.Tuple [.Tuple [.Name x1 p1,e1] k1 q1,.Tuple [.Name x2 p2,e2] k2 q2] k0 q0) body [] pos) (Pn it ip i1 i2 f1 f2 f):=by
 obtain⟨t1,su,sU⟩:=h1
 obtain⟨t2,so,sT⟩:=h2
 obtain⟨tb,pb,qb⟩:=hb
 refine⟨_,Tg hp hc (zE (Ab (Qm (Ab (Qm (Qe n1 v1 d1 c1) (Qm su Ji sN) s1)) (Qm (Ab (Qm (Qe n2 v2 d2 c2) (Qm so Ji sJ) s2)) Ji s4) s3))) (qy hc (Te (S0 hN nt lt ft) (Te (S0 hN np lp fp) Ij g2) g1) gn gs) pb hs,λH0 B Hf sd σ H D sr h=>?_⟩
 unfold Pn at h
 split at h
 .rename_i o1 o2 vE vD
  split at h
  .rename_i ho
   rw[BG] at ho
   obtain⟨w1,a1,a2⟩:=sr.imS i1 o1 vE (K1 ho.1)
   refine⟨w1,a1,sU H0 B Hf sd σ H _ sr (PoS.bind sr h λy1 u1 ML H1 _ g1 sr1 r1 h1=>?_)⟩
   refine⟨by rw[CG];simp,λa hl=>?_⟩
   have G1:=Gr.alloc g1.sub hl (.tup [w1,u1])
   have sr2:=sr1.gr G1
   obtain⟨w2,b1,b2⟩:=sr2.imS i2 o2 vD (K1 ho.2)
   refine⟨w2,b1,sT H0 B _ sd σ _ _ sr2 (PoS.bind sr2 (PoS.weak G1.fz h1) λy2 u2 MT H2 _ g2 sr3 r2 h2=>?_)⟩
   refine⟨by rw[CG];simp,λb mh=>?_⟩
   have G2:=Gr.alloc g2.sub mh (.tup [w2,u2])
   have sr4:=sr3.gr G2
   refine⟨by rw[CG];simp,λz uY=>?_⟩
   have G3:=Gr.alloc sr4.sub uY (.tup [V.ref a,V.ref b])
   have sr5:=sr4.gr G3
   have m2:=g2.fz.trans (G2.fz.trans G3.fz)
   have P1:PrV X.K (upd (upd MT b (.tup [w2,u2])) z (.tup [.ref a,.ref b])) (o1,y1) (.ref a):=⟨a,w1,u1,rfl,m2 _ _ Zq,K1 ho.1,(a2.mono (g1.fz.trans G1.fz)).mono m2,(r1.mono G1.fz).mono m2⟩
   have P2:PrV X.K (upd (upd MT b (.tup [w2,u2])) z (.tup [.ref a,.ref b])) (o2,y2) (.ref b):=⟨b,w2,u2,rfl,G3.fz _ _ Zq,K1 ho.2,b2.mono m2,r2.mono (G2.fz.trans G3.fz)⟩
   have hz:(upd (upd MT b (.tup [w2,u2])) z (.tup [V.ref a,V.ref b])) z=some (.tup [V.ref a,V.ref b]):=Zq
   have h3:=PoS.weak (G2.fz.trans G3.fz) h2
   generalize upd (upd MT b (.tup [w2,u2])) z (.tup [.ref a,.ref b])=QV at *
   generalize upd (upd H2 b (.tup [w2,u2])) z (.tup [.ref a,.ref b])=H3 at *
   refine⟨z,rfl,⟨_,SqT.of (sr5.sub _ _ hz)⟩,?_⟩
   refine⟨λi m σ' H'=>m=2-i/\∃MJ sd',Same QV MJ/\SR X.K H0 B MJ sd' σ' H'/\PoS X.K E H0 B MJ (Ue it ip f ([(o1,y1),(o2,y2)].drop i) sd') D,⟨2,rfl,QV,sd,Same.refl _,sr5,h3⟩,?_⟩
   rintro i m σ' H' ⟨rfl,MJ,sd',e',sr',h'⟩
   have sq:SqT X.K H' z [V.ref a,V.ref b]:=SqT.of (sr'.sub _ _ (e' _ _ hz))
   have one:∀(od:S×DL.D) (v:V) (r:List (S×DL.D)) (n:Nat),[(o1,y1),(o2,y2)].drop i=od::r->[V.ref a,V.ref b][i]?=some v->PrV X.K QV od v->r=[(o1,y1),(o2,y2)].drop (i+1)->2-(i+1)<2-i ->
     (cx X.K z).go i H'/\∃N:L2.St->Hp->Prop,(∀σ' H',N σ' H'->∃m',m'<2-i/\(m'=2-(i+1)/\∃MJ sd',Same QV MJ/\SR X.K H0 B MJ sd' σ' H'/\PoS X.K E H0 B MJ (Ue it ip f ([(o1,y1),(o2,y2)].drop (i+1)) sd') D))/\∀x aj,(cx X.K z).yld i H' x aj->oM X.K 2 (lj (Ii it) (lj (Ii ip) oX)) x σ' aj λσ2 H2=>tb {D with nx:=N,ct:=N,bk:=D.nx} σ2 H2:=λod v r n ed ev pv er hl=>by
    refine⟨⟨_,_,sq,ev⟩,λσ' H'=>∃MJ sd',Same QV MJ/\SR X.K H0 B MJ sd' σ' H'/\PoS X.K E H0 B MJ (Ue it ip f ([(o1,y1),(o2,y2)].drop (i+1)) sd') D,λσ2 H2 w=>⟨2-(i+1),hl,rfl,w⟩,λx aj hy=>?_⟩
    obtain⟨e,hy⟩:=hy
    subst e
    have ex:=hy _ sq
    rw[ev] at ex
    cases ex
    obtain⟨p,va,vb,rfl,q1,q2,q3,q4⟩:=pv.mono e'
    refine .inl ⟨p,[va,vb],rfl,.inl (SqT.of (sr'.sub _ _ q1)),rfl,va,[vb],rfl,vb,[],rfl,rfl,?_⟩
    have sr6:=(sr'.set_st it q2 q3).set_im ip q4
    refine qb H0 B MJ _ _ aj _ sr6 ?_
    rw[ed] at h'
    unfold Ue at h'
    cases ef:f ((sd'.set it (some od.1)).set ip (some (.im od.2))) with
    |ok o=>
     rw[ef] at h'
     cases o with
     |nx s'=>rw[<-er];exact λσ' MT H2 e2 sr2=>⟨MT,s',e'.trans e2,sr2,PoS.weak e2 h'⟩
     |ct s'=>rw[<-er];exact λσ' MT H2 e2 sr2=>⟨MT,s',e'.trans e2,sr2,PoS.weak e2 h'⟩
     |bk s'=>exact h'
     |rt s=>exact h'
    |ex x=>rw[ef] at h';exact h'
    |bad=>rw[ef] at h';exact h'
   match i,sq,h',one with
   |0,sq,h',one=>exact .inr (one (o1,y1) (.ref a) [(o2,y2)] 0 rfl rfl P1 rfl (by decide))
   |1,sq,h',one=>exact .inr (one (o2,y2) (.ref b) [] 0 rfl rfl P2 rfl (by decide))
   |i+2,sq,h',one=>
    have h2:PoS X.K E H0 B MJ (.ok (.nx sd')) D:=by simpa[Ue] using h'
    exact .inl ⟨⟨_,sq,by simp⟩,h2 σ' MJ H' (Same.refl _) sr'⟩
  .exact h.elim
 .exact h.elim
end
def He (i:Nat)(fk fd:Zg->M D)(sd:Zg):M D:=match sd[i]? with
 |some (some (.fl _ _ q))=>(fk sd).bind λk=>(fd sd).bind λd=>(match k with
  |.tup ds=>(match Vq ds with
   |some ks=>.ok ((Xj q ks).getD d)
   |none=>.bad)
  |_=>.bad)
 |_=>.bad
section
variable {X:Cx}{E:XK}{pos p p1 p2 apos e9 cpos:Pos}{a key dflt:Expr}{es:List Expr}{x vn m:Str}{k:Nat}{f:Addr}{fd:FuncData}{ps:List Str}{F:List S->M S}
def Zea (i:Nat){C:Addr}{fk fd:Zg->M D}(hu:X.A.units+64<cLine) (oc:UK X.K "Floor" C) (na:NoAttr X.K C "by_square") (hk:Xq X E key fk) (hf:Xq X E dflt fd)
  (hN:X.N[i]?=some vn:=by rfl) (hv:Mc X.env.scope vn:=by trivial) (hd:(vn==("__debug__":Str))=false:=by decide) (NL:(vn==("__classdict__":Str))=false:=by decide)
  (hb:attributeBase (.Name vn p) "by_square" X.env (eval (.Name vn p) X.env)=eval (.Name vn p) X.env:=by rfl) (mm:M2 X (.Attribute (.Name vn p) "by_square" e9) "get" apos key dflt cpos:=by exact⟨rfl,rfl,rfl,rfl⟩):
  Xq X E (.Call (.Attribute (.Attribute (.Name vn p) "by_square" e9) "get" apos) [key,dflt] [] cpos) (He i fk fd):=by
 obtain⟨tk,pk,qk⟩:=hk
 obtain⟨td,pd,qd⟩:=hf
 refine⟨_,Zda (by lia) (Wq (Qe hN hv hd NL) hb) pk pd mm,λH0 B Hf sd σ H Q sr h=>?_⟩
 unfold He at h
 split at h
 .rename_i a g q ei
  obtain⟨v,e1,C',dx,gs,d,kq,ys,rfl,e2,e3,e4,e6,e7⟩:=sr.imS i _ ei rfl
  rw[oc.at_] at e2
  cases e2
  refine⟨.ref a,e1,a,C,dx,gs,.ref d,rfl,sr.sub _ _ e3,oc.cls,na,e4.sq,d,rfl,.inr ⟨ys,.inl (sr.sub _ _ e6)⟩,?_⟩
  refine qk H0 B Hf sd σ H _ sr (Po.bind h λdk y ML H1 _ g1 ry h1=>?_)
  refine qd H0 B ML sd σ H1 _ (sr.gr g1) (Po.bind h1 λdd z MT H2 _ g2 rz h2=>?_)
  split at h2
  .rename_i ds
   split at h2
   .rename_i ks ek
    obtain⟨b,rfl,uv⟩:=Am ek g2.sub (ry.mono g2.fz)
    have r2:=(e7.mono g1.fz).mono g2.fz
    refine⟨_,DGet.t (g2.sub _ _ (g2.fz _ _ (g1.fz _ _ e6))) uv,?_⟩
    cases eg:Xj q ks with
    |some d'=>
     obtain⟨v,ev,rv⟩:=r2.get ks eg
     rw[ev]
     rw[eg] at h2
     exact Po.ret (R:=rV X.K) g2.sub h2 rv
    |none=>
     rw[r2.none ks eg]
     rw[eg] at h2
     exact Po.ret (R:=rV X.K) g2.sub h2 rz
   .exact h2.elim
  .exact h2.elim
 .exact h.elim
def La (i:Nat)(F:List S->M S)(fs:Zg->M (List D))(sd:Zg):M D:=match sd[i]? with
 |some (some (.fl a g q))=>(fs sd).bind λds=>Pk (F (.fl a g q::ds.map S.im))
 |_=>.bad
def Zeb (i:Nat){C:Addr}{fs:Zg->M (List D)}{pl:Sem Bool} (oc:UK X.K "Floor" C) (hm:OD X.K C "people_at" f) (G:MM X.prog X.w X.K X.mg X.base Yf k f fd ps (Sh X.K F)) (hr:Room k X.A) (hb:Binds X.K fd ps []) (ha:L9 X E (a::es) fs)
  (hN:X.N[i]?=some vn:=by rfl) (hv:Mc X.env.scope vn:=by trivial) (hd:(vn==("__debug__":Str))=false:=by decide) (NL:(vn==("__classdict__":Str))=false:=by decide)
  (P7:starEach (a::es) X.env=(false,eval a X.env)::starEach es X.env:=by rfl) (ND:(backTo pos (starEach es X.env)).any (·.1)=false:=by rfl)
  (ht:eval (.Call (.Attribute (.Name vn p) "people_at" apos) (a::es) [] pos) X.env=(do
   let ov <-eval (.Name vn p) X.env
   standAt apos.atName
   let (f,first) <-holding [ov] (getMethod ov "people_at" pl)
   callWith pos f first (backTo pos (starEach (a::es) X.env)) (backToKw pos (keywordEach [] X.env))):=by rfl):Xq X E (.Call (.Attribute (.Name vn p) "people_at" apos) (a::es) [] pos) (La i F fs):=by
 obtain⟨t,pt,qt⟩:=ha
 refine⟨_,Ac (dvs:=[]) (E:=E0) (pl:=pl) (Qe hN hv hd NL) oc.cls hm G hr hb .nil Jj pt P7 ND ht,λH0 B Hf sd σ H Q sr h=>?_⟩
 unfold La at h
 split at h
 .rename_i a g q ei
  obtain⟨v,e1,rv⟩:=sr.imS i _ ei rfl
  obtain⟨C',dx,gs,d,kq,ys,rfl,e2,e3,e4,e6,e7⟩:=id rv
  rw[oc.at_] at e2
  cases e2
  refine⟨.ref a,e1,a,dx,gs,rfl,sr.sub _ _ e3,e4.m1,qt H0 B Hf sd σ H _ sr (Po.bind h λds vs ML H1 _ g1 rs h1=>?_)⟩
  rw[BP]
  have ro:RepS X.K ML (.fl a g q) (.ref a):=RepS.mono g1.fz rv
  exact Ap g1.sub (.cons ⟨rfl,ro⟩ (Aq rs)) h1
 .exact h.elim
end
def D2 (n:Str)(d:D):List (Str×D)->List (Str×D)
 |[]=>[(n,d)]
 |(g,x)::r=>if g=n then(g,d)::r else(g,x)::D2 n d r
def qW {K:PySem.W.Frag}{H:Hp}{r:List (Str×D)}{gs:List (Str×V)}(h:RepKV K H r gs)(n:Str){d:D}{v:V}(rv:Rep K H d v):RepKV K H (D2 n d r) (Yv n v gs):=by
 induction h with
 |nil=>exact .cons ⟨rfl,rv⟩ .nil
 | @cons p q l l' hp ht ih=>
  obtain⟨p1,p2⟩:=p
  obtain⟨q1,q2⟩:=q
  obtain⟨e,rp⟩:=hp
  have e:p1=q1:=e
  subst e
  unfold D2 Yv
  by_cases z:p1=n
  .rw[AD z,AD z];exact .cons ⟨rfl,rv⟩ ht
  .rw[AF z,AF z];exact .cons ⟨rfl,rp⟩ ih
def iO (K:PySem.W.Frag)(C:Addr)(Hf H:Hp)(a:Addr)(r:List (Str×D)):Prop:=∃dx gs,H a=some (.ins C dx gs)/\RepKV K Hf r gs
def Ss (K:PySem.W.Frag)(C:Addr)(F:List (Str×D)->List D->Option (List (Str×D))):Sp:=λvs H Q _=>∃Hf r ds a rest r',vs=.ref a::rest/\Same Hf H/\Hf a=none/\iO K C Hf H a r/\Reps K Hf ds rest/\F r ds=some r' /\
 ∀MJ H',GrM a Hf H MJ H'->iO K C MJ H' a r'->Q .non H'
theorem GrM.refl {a:Addr}{Hf H:Hp}(e:Same Hf H):GrM a Hf H Hf H:=⟨Same.refl _,e,λ_ _ _ q=>q,λ_ _ q=>q⟩
theorem GrM.trans {a:Addr}{Hf H ML H1 MT H2:Hp}(x:GrM a Hf H ML H1)(y:GrM a ML H1 MT H2)(hl:Lv H a->Lv H1 a):GrM a Hf H MT H2:=
 ⟨x.fz.trans y.fz,y.sub,λb u hb q=>y.all b u hb (x.all b u hb q),λb hb hn=>y.ban b (by
  by_cases e:b=a
  .subst e;exact hl hb
  .obtain⟨o,ho,n⟩:=hb
   exact⟨o,x.all b o e ho,n⟩) (x.ban b hb hn)⟩
def Lb {H:Hp}{a C dx:Addr}{gs:List (Str×V)}(h:H a=some (.ins C dx gs)):Lv H a:=⟨_,h,λ_ q=>by cases q⟩
def GrM.of_gr {a:Addr}{Hf H MJ H':Hp}(g:Gr Hf H MJ H'):GrM a Hf H MJ H':=⟨g.fz,g.sub,λb u _ q=>g.all b u q,g.ban⟩
structure WA (K:PySem.W.Frag) (C:Addr):Prop where
 oc:UK K "Track" C
 n1:NoAttr K C "begin"
 n2:NoAttr K C "square"
 n3:NoAttr K C "heading"
 n4:NoAttr K C "due"
 n5:NoAttr K C "lap"
def kj (r:List (Str×D))(n:Str):Option Int:=match r.lookup n with
 |some (.int i)=>some i
 |_=>none
def yV {K:PySem.W.Frag}{H:Hp}{r:List (Str×D)}{gs:List (Str×V)}(h:RepKV K H r gs){n:Str}{i:Int}(e:kj r n=some i):gs.lookup n=some (.int i):=by
 unfold kj at e
 split at e
 .rename_i j ej
  cases e
  have k:=Pm h n
  rw[ej] at k
  obtain⟨v,e1,e2⟩:=k
  rw[rep_int] at e2
  rw[e1,e2]
 .cases e
structure ISt (K:PySem.W.Frag) (C a:Addr) (H0:Hp) (B:Addr->Prop) (Hb Hf:Hp) (sd:Zg) (σ:L2.St) (H:Hp) (r:List (Str×D)):Prop where
 fb:Same Hb Hf
 sr:SR K H0 B Hf sd σ H
 s0:σ[0]?=some (some (.ref a))
 h0:H0 a=none
 hf:Hf a=none
 im:∀(i:Nat) (t:S),sd[i]?=some (some t)->t.own=false
 at_:iO K C Hf H a r
section
variable {K:PySem.W.Frag}{C a:Addr}{H0:Hp}{B:Addr->Prop}{Hb Hf H MJ H':Hp}{sd:Zg}{σ:L2.St}{r:List (Str×D)}
theorem ISt.gr (x:ISt K C a H0 B Hb Hf sd σ H r)(g:Gr Hf H MJ H'):ISt K C a H0 B Hb MJ sd σ H' r:=by
 obtain⟨dx,gs,e1,e2⟩:=x.at_
 exact⟨x.fb.trans g.fz,x.sr.gr g,x.s0,x.h0,g.ban a (Lb e1) x.hf,x.im,dx,gs,g.all _ _ e1,e2.mono g.fz⟩
theorem ISt.upd (x:ISt K C a H0 B Hb Hf sd σ H r){dx:Addr}{gs:List (Str×V)}{r':List (Str×D)}(h:RepKV K Hf r' gs):ISt K C a H0 B Hb Hf sd σ (L2.upd H a (.ins C dx gs)) r':=by
 have sr:=x.sr
 refine⟨x.fb,⟨λb u q=>?_,λb u q=>?_,sr.ban,sr.bt,sr.len,sr.imS,λi t e o=>?_,λi j t u p cM e1 o1 _ _ _ _=>?_⟩,x.s0,x.h0,x.hf,x.im,dx,gs,Zq,h⟩
 .rw[Zm (Z3 q x.hf)];exact sr.sub b u q
 .rw[Zm (Z3 q x.h0)];exact sr.all b u q
 .rw[x.im i t e] at o;cases o
 .rw[x.im i t e1] at o1;cases o1
theorem ISt.set (x:ISt K C a H0 B Hb Hf sd σ H r)(i:Nat)(hi:i≠0){d:D}{v:V}(h:Rep K Hf d v):ISt K C a H0 B Hb Hf (sd.set i (some (.im d))) (σ.set i (some v)) H r:=by
 refine⟨x.fb,x.sr.set_im i h,(wu hi).trans x.s0,x.h0,x.hf,λj t e=>?_,x.at_⟩
 by_cases hj:i=j
 .subst hj
  have hl:i<sd.length:=by
   have:=(AE.mp e).1
   simpa using this
  rw[AY hl] at e
  cases e
  rfl
 .rw[AR hj] at e
  exact x.im j t e
end
def Bn {K:PySem.W.Frag}{N:List Str}{C:Addr}{Hf H:Hp}{r:List (Str×D)}{ds:List D}{a:Addr}{vs:List V}{m:Nat}(e:Same Hf H)(ea:Hf a=none)(ta:iO K C Hf H a r)(rs:Reps K Hf ds vs)(hN:N.length=ds.length+1+m):
  ISt K C a (Nx H a) (λb=>Lv (Nx H a) b/\Hf b=none) Hf Hf (none::(ds.map (λd=>some (S.im d))++List.replicate m none)) (L2.Je N (.ref a::vs)) H r:=by
 have hlen:=rs.length
 have es:L2.Je N (V.ref a::vs)=some (V.ref a)::(vs.map some++List.replicate m none):=by
  unfold L2.Je
  rw[AM,GF,show N.length-(V.ref a::vs).length=m by rw[AH];lia]
 rw[es]
 have tl:∀(i:Nat) (t:S),(none::(ds.map (λd=>some (S.im d))++List.replicate m none))[i]?=some (some t)->t.own=false/\∃v,(some (V.ref a)::(vs.map some++List.replicate m none))[i]?=some (some v)/\RepS K Hf t v:=λi t h=>by
  cases i with
  |zero=>rw[IW] at h;cases h
  |succ i=>
   rw[GE] at h ⊢
   by_cases hl:i<ds.length
   .rw[BC (by simpa using hl),BE] at h
    cases q:ds[i]? with
    |none=>rw[q] at h;cases h
    |some d=>
     rw[q] at h
     cases h
     obtain⟨y,e1,e2⟩:=rs.get q
     have:i<vs.length:=(AE.mp e1).1
     exact⟨rfl,y,by rw[BC (by simpa using this),BE,e1];rfl,e2⟩
   .rw[BW (by simpa using hl),CQ] at h
    split at h<;>cases h
 refine⟨Same.refl _,⟨e,Vr H a,λ_ h=>h.2,λ_ h=>h.1,by simp[hlen],λi t h _=>(tl i t h).2,λi t h ho=>?_,λi j t u p cM h ho h' UU _ _=>?_⟩,rfl,Vs H a,ea,λi t h=>(tl i t h).1,ta⟩
 .rw[(tl i t h).1] at ho;cases ho
 .rw[(tl i t h).1] at ho;cases ho
def ISt.back {K:PySem.W.Frag}{C a:Addr}{Hf H MJ H':Hp}{sd:Zg}{σ:L2.St}{r:List (Str×D)}(x:ISt K C a (Nx H a) (λb=>Lv (Nx H a) b/\Hf b=none) Hf MJ sd σ H' r):GrM a Hf H MJ H':=by
 refine⟨x.fb,x.sr.sub,λb u hb hu=>x.sr.all b u ((Kf hb).trans hu),λb hb hn=>?_⟩
 by_cases mq:b=a
 .subst mq;exact x.hf
 .obtain⟨o,ho,QU⟩:=hb
  exact x.sr.ban b ⟨⟨o,(Kf mq).trans ho,QU⟩,hn⟩
abbrev Qy:=List (Str×D)
def Hg (X:Cx)(C:Addr)(e:Expr)(g:Zg->Qy->M D):Prop:=
 ∃t:TE,PE X e t/\∀(a:Addr) (H0:Hp) (B:Addr->Prop) (Hb Hf:Hp) (sd:Zg) (σ:L2.St) (H:Hp) (r:Qy) (Q:VK),ISt X.K C a H0 B Hb Hf sd σ H r->Po X.K E0 (rV X.K) Hf H (g sd r) Q->t σ H Q
def gz (X:Cx)(C:Addr)(e:Expr)(g:Zg->Qy->M Bool):Prop:=
 ∃t:TT,PT X e t/\∀(a:Addr) (H0:Hp) (B:Addr->Prop) (Hb Hf:Hp) (sd:Zg) (σ:L2.St) (H:Hp) (r:Qy) (Q:Bool->Hp->Prop),ISt X.K C a H0 B Hb Hf sd σ H r->Po X.K E0 rQ Hf H (g sd r) Q->t σ H Q
def ki (K:PySem.W.Frag)(C a:Addr)(H0:Hp)(B:Addr->Prop)(Hb:Hp)(o:Option (Zg×Qy))(D':Ends):Prop:=match o with
 |some x=>∀σ' MJ H',ISt K C a H0 B Hb MJ x.1 σ' H' x.2->D'.nx σ' H'
 |none=>False
def bz (X:Cx)(C:Addr)(st:Stmt)(g:Zg->Qy->Option (Zg×Qy)):Prop:=
 ∃t:TS,PS X st t/\∀(a:Addr) (H0:Hp) (B:Addr->Prop) (Hb Hf:Hp) (sd:Zg) (σ:L2.St) (H:Hp) (r:Qy) (D':Ends),ISt X.K C a H0 B Hb Hf sd σ H r->ki X.K C a H0 B Hb (g sd r) D'->t D' σ H
def Hh (X:Cx)(C:Addr)(st:List Stmt)(g:Zg->Qy->Option (Zg×Qy)):Prop:=
 ∃t:TS,PSs X st t/\∀(a:Addr) (H0:Hp) (B:Addr->Prop) (Hb Hf:Hp) (sd:Zg) (σ:L2.St) (H:Hp) (r:Qy) (D':Ends),ISt X.K C a H0 B Hb Hf sd σ H r->ki X.K C a H0 B Hb (g sd r) D'->t D' σ H
def ke {α:Type}:M α->Option α
 |.ok a=>some a
 |_=>none
def lD (sd:Zg)(r:Qy):Option (Zg×Qy):=some (sd,r)
def Vu (f g:Zg->Qy->Option (Zg×Qy))(sd:Zg)(r:Qy):Option (Zg×Qy):=(f sd r).bind λx=>g x.1 x.2
def ZF (c:Zg->Qy->M Bool)(f g:Zg->Qy->Option (Zg×Qy))(sd:Zg)(r:Qy):Option (Zg×Qy):=(ke (c sd r)).bind λb=>if b then f sd r else g sd r
def Rp (n:Str)(e:Zg->Qy->M D)(sd:Zg)(r:Qy):Option (Zg×Qy):=(ke (e sd r)).bind λd=>if r.length<=900 then some (sd,D2 n d r) else none
def dC (i:Nat)(e:Zg->Qy->M D)(sd:Zg)(r:Qy):Option (Zg×Qy):=(ke (e sd r)).bind λd=>some (sd.set i (some (.im d)),r)
def fX (n:Str)(e:Zg->Qy->M D)(sd:Zg)(r:Qy):Option (Zg×Qy):=match kj r n,e sd r with
 |some i,.ok (.int j)=>if r.length<=900 then some (sd,D2 n (.int (i+j)) r) else none
 |_,_=>none
def Od (m:Str)(F:Qy->List D->Option Qy)(sd:Zg)(r:Qy):Option (Zg×Qy):=if r.lookup m=none then(F r []).map λr'=>(sd,r') else none
def Vb (f:Zg->M D)(sd:Zg)(_:Qy):M D:=f sd
def Wm (n:Str)(_:Zg)(r:Qy):M D:=match r.lookup n with
 |some d=>.ok d
 |none=>.bad
def Fi (g:D->D->M D)(fa fb:Zg->Qy->M D)(sd:Zg)(r:Qy):M D:=(fa sd r).bind λx=>(fb sd r).bind λy=>g x y
def iN (c:Zg->Qy->M Bool)(fa fb:Zg->Qy->M D)(sd:Zg)(r:Qy):M D:=(c sd r).bind λb=>if b then fa sd r else fb sd r
def gB (f:Zg->Qy->M D)(sd:Zg)(r:Qy):M Bool:=(f sd r).bind asB
section
variable {X:Cx}{C:Addr}{pos pos' p p1 apos ZG:Pos}{e e1 e2:Expr}{x vn n m:Str}
def Xy {f:Zg->M D}(h:Xq X E0 e f):Hg X C e (Vb f):=by
 obtain⟨t,pt,q⟩:=h
 exact⟨t,pt,λa H0 B Hb Hf sd σ H r Q x h=>q H0 B Hf sd σ H Q x.sr h⟩
def U6 (cl:Cls X.K C)(na:NoAttr X.K C n)(hN:X.N[0]?=some vn:=by rfl)(hv:Mc X.env.scope vn:=by trivial) (hd:(vn==("__debug__":Str))=false:=by decide)
  (NL:(vn==("__classdict__":Str))=false:=by decide) (hb:attributeBase (.Name vn p) n X.env (eval (.Name vn p) X.env)=eval (.Name vn p) X.env:=by rfl):Hg X C (.Attribute (.Name vn p) n pos) (Wm n):=by
 refine⟨_,Wq (Qe hN hv hd NL) hb,λa H0 B Hb Hf sd σ H r Q x h=>?_⟩
 obtain⟨dx,gs,e1,e2⟩:=x.at_
 have k:=Pm e2 n
 unfold Wm at h
 split at h
 .rename_i d ed
  rw[ed] at k
  obtain⟨v,l,rv⟩:=k
  exact⟨.ref a,x.s0,a,C,dx,gs,v,rfl,e1,cl,na,l,Po.ret (R:=rV X.K) x.sr.sub h rv⟩
 .exact h.elim
def oV {fa fb:Zg->Qy->M D}{g:D->D->M D}{ta tb:TE}{rr:R2}{a:Addr}{H0:Hp}{B:Addr->Prop}{Hb Hf:Hp}{sd:Zg}{σ:L2.St}{H:Hp}{r:Qy}{Q:VK}(qa:∀(a:Addr) (H0:Hp) (B:Addr->Prop) (Hb Hf:Hp) (sd:Zg) (σ:L2.St) (H:Hp) (r:Qy) (Q:VK),ISt X.K C a H0 B Hb Hf sd σ H r->Po X.K E0 (rV X.K) Hf H (fa sd r) Q->ta σ H Q)(qb:∀(a:Addr) (H0:Hp) (B:Addr->Prop) (Hb Hf:Hp) (sd:Zg) (σ:L2.St) (H:Hp) (r:Qy) (Q:VK),ISt X.K C a H0 B Hb Hf sd σ H r->Po X.K E0 (rV X.K) Hf H (fb sd r) Q->tb σ H Q)(hr:∀(Hf H:Hp) (x y:V) (dx dy:D) (Q:VK),Same Hf H->Rep X.K Hf dx x->Rep X.K Hf dy y->Po X.K E0 (rV X.K) Hf H (g dx dy) Q->rr x y H Q)(x:ISt X.K C a H0 B Hb Hf sd σ H r)(h:Po X.K E0 (rV X.K) Hf H (Fi g fa fb sd r) Q):cw rr ta tb σ H Q:=by
 refine qa a H0 B Hb Hf sd σ H r _ x (Po.bind h λd1 v1 ML H1 _ g1 r1 h1=>?_)
 refine qb a H0 B Hb ML sd σ H1 r _ (x.gr g1) (Po.bind h1 λd2 v2 MT H2 _ g2 r2 h2=>?_)
 exact hr MT H2 v1 v2 d1 d2 Q g2.sub (Rep.mono g2.fz r1) r2 h2
def qV {op:Operator}{g:D->D->M D}{fa fb:Zg->Qy->M D}(ho:Rc X E0 (binaryOp op) g)(ha:Hg X C e1 fa)(hb:Hg X C e2 fb):Hg X C (.BinOp e1 op e2 pos) (Fi g fa fb):=by
 obtain⟨r,hr,qr⟩:=ho
 obtain⟨ta,pa,qa⟩:=ha
 obtain⟨tb,pb,qb⟩:=hb
 exact⟨_,lZ hr pa pb,λa H0 B Hb Hf sd σ H r Q x h=>oV qa qb qr x h⟩
def nu (g:D->M D)(fa:Zg->Qy->M D)(sd:Zg)(r:Qy):M D:=(fa sd r).bind g
def yU {op:UnaryOp}{g:D->M D}{fa:Zg->Qy->M D}(ho:ko X E0 (unaryOp op) g)(ha:Hg X C e1 fa):Hg X C (.UnaryOp op e1 pos) (nu g fa):=by
 obtain⟨r,hr,qr⟩:=ho
 obtain⟨ta,pa,qa⟩:=ha
 refine⟨_,pO hr pa,λa H0 B Hb Hf sd σ H r Q x h=>?_⟩
 refine qa a H0 B Hb Hf sd σ H r _ x (Po.bind h λd v ML H1 _ g1 rv h1=>?_)
 exact qr ML H1 v d Q g1.sub rv h1
def Oe {op:CmpOp}{g:D->D->M D}{fa fb:Zg->Qy->M D}(ho:Rc X E0 (compareOp op) g)(ha:Hg X C e1 fa)(hb:Hg X C e2 fb)(hm:behindInMarks op e2=false):gz X C (.Compare e1 [op] [e2] pos) (gB (Fi g fa fb)):=by
 obtain⟨r,hr,qr⟩:=ho
 obtain⟨ta,pa,qa⟩:=ha
 obtain⟨tb,pb,qb⟩:=hb
 refine⟨_,B8 hr pa pb hm,λa H0 B Hb Hf sd σ H r Q x h=>?_⟩
 refine oV qa qb qr x (Po.bind h λd v ML H1 _ g1 rv h1=>?_)
 unfold asB at h1
 split at h1
 .exact⟨_,rep_bl.mp rv,Po.ret (R:=rQ) g1.sub h1 rfl⟩
 .exact h1.elim
def Of {f:Zg->M Bool}(h:M7 X E0 e f):gz X C e (λsd _=>f sd):=by
 obtain⟨t,pt,q⟩:=h
 exact⟨t,pt,λa H0 B Hb Hf sd σ H r Q x h=>q H0 B Hf sd σ H Q x.sr h⟩
def yT {c:Zg->Qy->M Bool}{fa fb:Zg->Qy->M D}{ce:Expr}(hc:gz X C ce c)(ha:Hg X C e1 fa)(hb:Hg X C e2 fb):Hg X C (.IfExp ce e1 e2 pos) (iN c fa fb):=by
 obtain⟨tc,pc,qc⟩:=hc
 obtain⟨ta,pa,qa⟩:=ha
 obtain⟨tb,pb,qb⟩:=hb
 refine⟨_,C3 pc pa pb,λa H0 B Hb Hf sd σ H r Q x h=>?_⟩
 refine qc a H0 B Hb Hf sd σ H r _ x (Po.bind (R:=rQ) h λb v ML H1 _ g1 rv h1=>?_)
 have e:b=v:=rv
 subst e
 cases b with
 |true=>rw[AD rfl] at h1 ⊢;exact qa a H0 B Hb ML sd σ H1 r Q (x.gr g1) h1
 |false=>rw[AF CB] at h1 ⊢;exact qb a H0 B Hb ML sd σ H1 r Q (x.gr g1) h1
def Og:Hh X C [] lD:=⟨_,Sz,λ_ _ _ _ Hf _ _ _ _ _ x h=>h _ Hf _ x⟩
def Uf {st:Stmt}{g:Zg->Qy->Option (Zg×Qy)}(h:bz X C st g):Hh X C [st] g:=by
 obtain⟨t,pt,q⟩:=h
 exact⟨t,Xu pt,q⟩
def X3 {st:Stmt}{rest:List Stmt}{f g:Zg->Qy->Option (Zg×Qy)}(h:bz X C st f)(h2:Hh X C rest g):Hh X C (st::rest) (Vu f g):=by
 obtain⟨t,pt,q⟩:=h
 obtain⟨t2,WO,q2⟩:=h2
 refine⟨_,Qg pt WO,λa H0 B Hb Hf sd σ H r D' x h=>?_⟩
 refine q a H0 B Hb Hf sd σ H r _ x ?_
 unfold Vu at h
 cases e:f sd r with
 |none=>rw[e] at h;exact h.elim
 |some y=>
  rw[e] at h
  exact λσ' MJ H' x'=>q2 a H0 B Hb MJ y.1 σ' H' y.2 D' x' h
def Hi {c:Expr}{xs ys:List Stmt}{k:Zg->Qy->M Bool}{f g:Zg->Qy->Option (Zg×Qy)}(hc:gz X C c k)(h:Hh X C xs f)(h2:Hh X C ys g):bz X C (.If c xs ys pos) (ZF k f g):=by
 obtain⟨t,pt,q⟩:=hc
 obtain⟨t1,sZ,q1⟩:=h
 obtain⟨t2,WO,q2⟩:=h2
 refine⟨_,Ih pt sZ WO,λa H0 B Hb Hf sd σ H r D' x h=>?_⟩
 refine q a H0 B Hb Hf sd σ H r _ x ?_
 unfold ZF at h
 cases ek:k sd r with
 |ok b=>
  rw[ek] at h
  intro v ML H1 g1 rv
  have e:b=v:=rv
  subst e
  cases b with
  |true=>exact q1 a H0 B Hb ML sd σ H1 r D' (x.gr g1) h
  |false=>exact q2 a H0 B Hb ML sd σ H1 r D' (x.gr g1) h
 |ex z=>rw[ek] at h;exact h.elim
 |bad=>rw[ek] at h;exact h.elim
def Vc {g:Zg->Qy->M D}(cl:Cls X.K C)(na:NoAttr X.K C n)(he:Hg X C e g)(hN:X.N[0]?=some vn:=by rfl)(hv:Mc X.env.scope vn:=by trivial) (hd:(vn==("__debug__":Str))=false:=by decide)
  (NL:(vn==("__classdict__":Str))=false:=by decide) (hs:swapsWith e (some (.Attribute (.Name vn p) n pos')) pos.line X.env=pure false:=by rfl):bz X C (.Assign [.Attribute (.Name vn p) n pos'] e pos) (Rp n g):=by
 obtain⟨t,pt,q⟩:=he
 refine⟨_,Aa (Qe hN hv hd NL) pt hs,λa H0 B Hb Hf sd σ H r D' x h=>?_⟩
 refine q a H0 B Hb Hf sd σ H r _ x ?_
 unfold Rp at h
 cases ek:g sd r with
 |ok d=>
  rw[ek] at h
  intro v ML H1 g1 rv
  have y:=x.gr g1
  obtain⟨dx,gs,e1,e2⟩:=y.at_
  have hl:=RepKV.length e2
  have h:ki X.K C a H0 B Hb (if r.length<=900 then some (sd,D2 n d r) else none) D':=h
  split at h
  .exact⟨.ref a,x.s0,a,C,dx,gs,rfl,e1,cl,na,by lia,h σ ML _ (y.upd (qW e2 n rv))⟩
  .exact h.elim
 |ex z=>rw[ek] at h;exact h.elim
 |bad=>rw[ek] at h;exact h.elim
def Oh (i:Nat){g:Zg->Qy->M D}(hN:X.N.Nodup)(he:Hg X C e g)(h0:i≠0:=by decide)(hi:X.N[i]?=some x:=by rfl)(hx:WN X.env.scope x:=by trivial)(hs:swapsWith e (some (.Name x pos')) pos.line X.env=pure false:=by rfl)(hf:X.fn x=true\/X.env.scope.names.lookup x=some .local:=by first|exact .inl rfl|exact .inr rfl|assumption):bz X C (.Assign [.Name x pos'] e pos) (dC i g):=by
 obtain⟨t,pt,q⟩:=he
 refine⟨_,K3 hN hi hx pt hs hf,λa H0 B Hb Hf sd σ H r D' x h=>?_⟩
 refine q a H0 B Hb Hf sd σ H r _ x ?_
 unfold dC at h
 cases ek:g sd r with
 |ok d=>
  rw[ek] at h
  intro v ML H1 g1 rv
  exact h _ ML H1 ((x.gr g1).set i h0 rv)
 |ex z=>rw[ek] at h;exact h.elim
 |bad=>rw[ek] at h;exact h.elim
def Ar {g:Zg->Qy->M D}(cl:Cls X.K C)(na:NoAttr X.K C n)(he:Hg X C e g)(hN:X.N[0]?=some vn:=by rfl)(hv:Mc X.env.scope vn:=by trivial) (hd:(vn==("__debug__":Str))=false:=by decide)
  (NL:(vn==("__classdict__":Str))=false:=by decide):bz X C (.AugAssign (.Attribute (.Name vn p) n ZG) .Add e pos) (fX n g):=by
 obtain⟨t,pt,q⟩:=he
 refine⟨_,Zax (Qe hN hv hd NL) pt y7,λa H0 B Hb Hf sd σ H r D' x h=>?_⟩
 unfold fX at h
 split at h
 .rename_i i j ei ej
  obtain⟨dx,gs,e1,e2⟩:=x.at_
  refine⟨.ref a,x.s0,a,C,dx,gs,.int i,rfl,e1,cl,na,yV e2 ei,q a H0 B Hb Hf sd σ H r _ x ?_⟩
  rw[ej]
  intro v ML H1 g1 rv
  have y:=x.gr g1
  obtain⟨XZ,cQ,kO,UJ⟩:=y.at_
  have hl:=RepKV.length UJ
  split at h
  .exact⟨i,j,rfl,rep_int.mp rv,XZ,cQ,kO,by lia,h σ ML _ (y.upd (qW UJ n (rep_int.mpr rfl)))⟩
  .exact h.elim
 .exact h.elim
end
def ZE (n m:Nat)(g:Zg->Qy->Option (Zg×Qy))(r:Qy)(ds:List D):Option Qy:=if ds.length=n then(g (none::(ds.map (λd=>some (S.im d))++List.replicate m none)) r).map (·.2) else none
def iM {P:Program}{w:World}{K:PySem.W.Frag}{mg:Str->Option Value}{base:Heap}{x qual:Str}{st:Stmt}{f C:Addr}{fd:FuncData}{N ps:List Str}{k m n:Nat}{fb:Zg->Qy->Option (Zg×Qy)}(F:Fun K x qual st f fd)(sc:MK N ps (Zf st))(hn:ps.length=n+1)(hN:N.length=n+1+m)(OH:∀(MP:Value) (A:Around) (outer:List Env) (s:Shared) (H:Hp) (E:XK),Room k (A.deeper (envOfC qual (Zf st) s.heap.objs.size f MP)) ->
   Hh (Xo Yf P w K mg base N qual (Zf st) f MP A outer s H E).nox C (Xe st) fb):MM P w K mg base Yf (k+1) f fd ps (Ss K C (ZE n m fb)):=by
 refine F.ok sc (λvs H Q E h=>?_) (λMP A outer s H vs Q E hr h=>?_)
 .obtain⟨Hf,r,ds,a,rest,r',rfl,e,ea,ta,rs,hF,q⟩:=h
  unfold ZE at hF
  split at hF
  .rename_i hl
   rw[AH,<-rs.length,hl,hn]
  .cases hF
 .obtain⟨Hf,r,ds,a,rest,r',rfl,e,ea,ta,rs,hF,q⟩:=h
  obtain⟨t,p,qt⟩:=OH MP A outer s H E hr
  unfold ZE at hF
  split at hF
  .rename_i hl
   obtain⟨y,ey,er⟩:=GG.mp hF
   refine⟨t,p,qt a _ _ Hf Hf _ (L2.Je N (.ref a::rest)) H r _ (Bn (N:=N) (m:=m) e ea ta rs (by lia)) ?_⟩
   rw[ey]
   intro σ' MJ H' x'
   rw[er] at x'
   exact q MJ H' x'.back x'.at_
  .cases hF
section
variable {X:Cx}{C:Addr}{pos p apos spos:Pos}{vn m:Str}{k:Nat}{f:Addr}{fd:FuncData}{ps:List Str}{F:Qy->List D->Option Qy}
def D3 {pl:Sem Bool}(cl:Cls X.K C)(hm:OD X.K C m f)(G:MM X.prog X.w X.K X.mg X.base Yf k f fd ps (Ss X.K C F))(hr:Room k X.A)(hb:Binds X.K fd ps [])(hN:X.N[0]?=some vn:=by rfl)(hv:Mc X.env.scope vn:=by trivial) (hd:(vn==("__debug__":Str))=false:=by decide) (NL:(vn==("__classdict__":Str))=false:=by decide)
  (ht:eval (.Call (.Attribute (.Name vn p) m apos) [] [] pos) X.env=(do
   let ov <-eval (.Name vn p) X.env
   standAt apos.atName
   let (f,first) <-holding [ov] (getMethod ov m pl)
   callWith pos f first (backTo pos (starEach [] X.env)) (backToKw pos (keywordEach [] X.env))):=by rfl)
  (hs:swapsWith (.Call (.Attribute (.Name vn p) m apos) [] [] pos) none spos.line X.env=pure false:=by rfl):bz X C (.Expr (.Call (.Attribute (.Name vn p) m apos) [] [] pos) spos) (Od m F):=by
 refine⟨_,Nz (C5 (dvs:=[]) (E:=E0) (pl:=pl) (Qe hN hv hd NL) cl hm G hr hb .nil Jj ht) hs,λa H0 B Hb Hf sd σ H r D' x h=>?_⟩
 unfold Od at h
 split at h
 .rename_i hl
  obtain⟨dx,gs,e1,e2⟩:=x.at_
  have kl:=Pm e2 m
  rw[hl] at kl
  cases eF:F r [] with
  |none=>rw[eF] at h;exact h.elim
  |some r'=>
   rw[eF] at h
   refine⟨.ref a,x.s0,a,dx,gs,rfl,e1,kl,Hf,r,[],a,[],r',rfl,x.sr.sub,x.hf,⟨dx,gs,e1,e2⟩,Reps.nil,eF,λMJ H' g ta=>?_⟩
   have sr:=x.sr
   refine h σ MJ H' ⟨x.fb.trans g.fz,⟨g.sub,λb u q=>g.all b u (Z3 q x.h0) (sr.all b u q),λb hb=>g.ban b (sr.all.lv (sr.bt b hb)) (sr.ban b hb),sr.bt,sr.len,λi t e z=>?_,λi t e o=>?_,λi j t u p cM e1 o1 _ _ _ _=>?_⟩,x.s0,x.h0,g.ban a (Lb e1) x.hf,x.im,ta⟩
   .obtain⟨v,z1,z2⟩:=sr.imS i t e z
    exact⟨v,z1,z2.mono g.fz⟩
   .rw[x.im i t e] at o;cases o
   .rw[x.im i t e1] at o1;cases o1
 .exact h.elim
end
section
variable {K:PySem.W.Frag}{H:Hp}{a:Addr}{o:HO}
def iL (o:HO):Prop:=(∀xs:List V,o≠HO.tup xs)/\(∀xs:List V,o≠HO.lst xs)/\∀(u:Obj) (v:HO),o≠HO.frz u v
def Kg {C dx:Addr}{gs:List (Str×V)}:iL (.ins C dx gs):=⟨λ_ z=>HO.noConfusion z,λ_ z=>HO.noConfusion z,λ_ _ z=>HO.noConfusion z⟩
def Oi {b:Addr}{u:HO}(h:H a=some o)(e:H b=some u)(ne:u≠o):Nx H a b=some u:=by
 rw[Kf λz=>by subst z;rw[h] at e;cases e;exact ne rfl]
 exact e
mutual
theorem Rep.rm (h:H a=some o)(n:iL o):∀{d:D}{v:V},Rep K H d v->Rep K (Nx H a) d v
 |.non,_,q=>by unfold Rep at q ⊢;exact q
 |.bl _,_,q=>by unfold Rep at q ⊢;exact q
 |.int _,_,q=>by unfold Rep at q ⊢;exact q
 |.str _,_,q=>by unfold Rep at q ⊢;exact q
 |.tup ds,_,q=>by
  unfold Rep at q ⊢
  obtain⟨b,xs,e1,e2,e3⟩:=q
  exact⟨b,xs,e1,Oi h e2 (EL (n.1 xs)),Reps.rm h n e3⟩
 |.lst ds,_,q=>by
  unfold Rep at q ⊢
  obtain⟨b,xs,e1,e2,e3⟩:=q
  refine⟨b,xs,e1,?_,Reps.rm h n e3⟩
  rcases e2 with(z|⟨u,z⟩)|z
  .exact .inl (.inl (Oi h z (EL (n.2.1 xs))))
  .exact .inl (.inr ⟨u,Oi h z (EL (n.2.2 _ _))⟩)
  .exact .inr z
theorem Reps.rm (h:H a=some o)(n:iL o):∀{ds:List D}{xs:List V},Reps K H ds xs->Reps K (Nx H a) ds xs
 |[],_,q=>by unfold Reps at q ⊢;exact q
 |d::ds,_,q=>by
  unfold Reps at q ⊢
  obtain⟨x,r,e1,e2,e3⟩:=q
  exact⟨x,r,e1,Rep.rm h n e2,Reps.rm h n e3⟩
end
theorem RepKV.rm {κ:Type}{l:List (κ×D)}{m:List (κ×V)}(h:H a=some o)(n:iL o)(r:RepKV K H l m):RepKV K (Nx H a) l m:=Paired.mapP r λ_ _ q=>⟨q.1,q.2.rm h n⟩
end
def S.adr:S->Option Addr
 |.ob a _ _=>some a
 |.fl a _ _=>some a
 |_=>none
section
variable {K:PySem.W.Frag}{H0 Hf H:Hp}{B:Addr->Prop}{sd:Zg}{σ:L2.St}{a C dx:Addr}{gs:List (Str×V)}
theorem RepS.rm (h:Hf a=some (.ins C dx gs)){t:S}{v:V}(ht:t.adr≠some a)(hx:∀x,t≠.xc x)(q:RepS K Hf t v):RepS K (Nx Hf a) t v:=by
 cases t with
 |im d=>exact Rep.rm h Kg q
 |xc x=>exact absurd rfl (hx x)
 |fn x=>exact q
 |ob b c r=>
  obtain⟨C',XZ,cQ,e1,e2,e3,e4⟩:=q
  have:b≠a:=λz=>ht (by rw[z];rfl)
  exact⟨C',XZ,cQ,e1,e2,(Kf this).trans e3,e4.rm h Kg⟩
 |fl b g q'=>
  obtain⟨C',XZ,cQ,d,k,ys,e1,e2,e3,e4,e5,e6⟩:=q
  have:b≠a:=λz=>ht (by rw[z];rfl)
  exact⟨C',XZ,cQ,d,k,ys,e1,e2,(Kf this).trans e3,⟨let ⟨v,z1,z2⟩:=e4.hall;⟨v,z1,z2.rm h Kg⟩,e4.sq,e4.kn,e4.m1,e4.m2⟩,Oi h e5 (by intro z;cases z),e6.rm h Kg⟩
 |ow ds=>trivial
 |od kvs=>trivial
 |dk kvs=>trivial
def xg (h:Hf a=some (.ins C dx gs)){p:Addr}{t:S}(q:S.at K Hf H p t):S.at K (Nx Hf a) H p t:=by
 cases t with
 |im d=>exact q.elim
 |xc x=>exact q.elim
 |fn x=>exact q.elim
 |ob b c r=>exact q.elim
 |fl b g q'=>exact q.elim
 |ow ds=>obtain⟨xs,e1,e2⟩:=q;exact⟨xs,e1,e2.rm h Kg⟩
 |od kvs=>obtain⟨ys,e1,e2⟩:=q;exact⟨ys,e1,e2.rm h Kg⟩
 |dk kvs=>obtain⟨ys,e1,e2⟩:=q;exact⟨ys,e1,e2.rm h Kg⟩
def D4 {p:Addr}{t:S}(q:S.at K Hf H p t)(h:H a=some (.ins C dx gs)):p≠a:=by
 rintro rfl
 cases t with
 |im d=>exact q.elim
 |xc x=>exact q.elim
 |fn x=>exact q.elim
 |ob b c r=>exact q.elim
 |fl b g q'=>exact q.elim
 |ow ds=>obtain⟨xs,e1,_⟩:=q;rw[h] at e1;cases e1
 |od kvs=>obtain⟨ys,e1,_⟩:=q;rw[h] at e1;cases e1
 |dk kvs=>obtain⟨ys,e1,_⟩:=q;rw[h] at e1;cases e1
def SR.fzO (r:SR K H0 B Hf sd σ H){i:Nat}{c:Str}{rr:Qy}(hs:sd[i]?=some none)(hσ:σ[i]?=some (some (.ref a)))(hC:PySem.W.nsIn K mainGlobals c=some (some (.ref C)))(h:H a=some (.ins C dx gs))(rk:RepKV K Hf rr gs)(h0:H0 a=none)(hf:Hf a=none):
  SR K H0 B (upd Hf a (.ins C dx gs)) (sd.set i (some (.ob a c rr))) σ H:=by
 have sm:=Qc hf (.ins C dx gs)
 have hl:i<sd.length:=(AE.mp hs).1
 have back:∀{j:Nat}{w:S},i≠j->(sd.set i (some (S.ob a c rr)))[j]?=some (some w)->sd[j]?=some (some w):=λ{j w} n e=>by rwa[AR n] at e
 have own:∀{j:Nat}{w:S},(sd.set i (some (S.ob a c rr)))[j]?=some (some w)->w.own=true->i≠j:=λ{j w} e o z=>by
  subst z
  rw[AY hl] at e
  cases e
  cases o
 refine⟨λb u q=>?_,r.all,λb hb=>?_,r.bt,by rw[CZ];exact r.len,λj t e z=>?_,λj t e o=>?_,λj k t u p hjk e1 o1 e2 o2 e3 e4=>r.sep j k t u p hjk (back (own e1 o1) e1) o1 (back (own e2 o2) e2) o2 e3 e4⟩
 .by_cases hb:b=a
  .subst hb;rw[Zq] at q;rw[h];exact q
  .rw[Zm hb] at q;exact r.sub b u q
 .have:b≠a:=λz=>(r.bt b hb).nn (z▸h0)
  rw[Zm this];exact r.ban b hb
 .by_cases n:i=j
  .subst n
   rw[AY hl] at e
   cases e
   exact⟨_,hσ,(⟨C,dx,gs,rfl,hC,Zq,rk.mono sm⟩:RepO K _ a c rr (.ref a))⟩
  .obtain⟨v,e1,e2⟩:=r.imS j t (back n e) z
   exact⟨v,e1,e2.mono sm⟩
 .obtain⟨p,e1,e2,e3,e4⟩:=r.ow j t (back (own e o) e) o
  exact⟨p,e1,e2,by rw[Zm (D4 e4 h)];exact e3,Gi e4 sm λ_ z=>z⟩
def SR.thO (r:SR K H0 B Hf sd σ H){i:Nat}{c:Str}{rr:Qy}(hs:sd[i]?=some (some (.ob a c rr)))(hu:∀(j:Nat) (t:S),j≠i->sd[j]?=some (some t)->t.adr≠some a/\∀x,t≠.xc x):
  σ[i]?=some (some (.ref a))/\∃C dx gs,PySem.W.nsIn K mainGlobals c=some (some (.ref C))/\H a=some (.ins C dx gs)/\RepKV K (Nx Hf a) rr gs/\SR K H0 B (Nx Hf a) (sd.set i none) σ H:=by
 obtain⟨v,e1,C,dx,gs,rfl,e2,e3,e4⟩:=r.imS i _ hs rfl
 have hl:i<sd.length:=(AE.mp hs).1
 have ne:∀{j:Nat}{w:S},(sd.set i none)[j]?=some (some w)->i≠j:=λ{j w} e z=>by
  subst z
  rw[AY hl] at e
  cases e
 have back:∀{j:Nat}{w:S},(sd.set i none)[j]?=some (some w)->sd[j]?=some (some w):=λ{j w} e=>by
  have n:=ne e
  rwa[AR n] at e
 refine⟨e1,C,dx,gs,e2,r.sub _ _ e3,e4.rm e3 Kg,?_⟩
 refine⟨λb u q=>r.sub b u (Vr Hf a b u q),r.all,λb hb=>?_,r.bt,by rw[CZ];exact r.len,λj t e z=>?_,λj t e o=>?_,λj k t u p hjk e1 o1 e2 o2 e3 e4=>r.sep j k t u p hjk (back e1) o1 (back e2) o2 e3 e4⟩
 .by_cases z:b=a
  .subst z;exact Vs Hf b
  .rw[Kf z];exact r.ban b hb
 .obtain⟨v,z1,z2⟩:=r.imS j t (back e) z
  obtain⟨u1,u2⟩:=hu j t (EL (ne e)) (back e)
  exact⟨v,z1,z2.rm e3 u1 u2⟩
 .obtain⟨p,z1,z2,z3,z4⟩:=r.ow j t (back e) o
  refine⟨p,z1,z2,?_,xg e3 z4⟩
  by_cases z:p=a
  .subst z;exact Vs Hf p
  .rw[Kf z];exact z3
end
def D5:List D->M D
 |[.int a,.int b]=>.ok (.int (if b > a then b else a))
 |_=>.bad
def lT:List D->M D
 |[.int a,.int b,.int c]=>.ok (.int (min (min a b) c))
 |_=>.bad
section
variable {X:Cx}{E:XK}
def Zhn (hc:X.calm=true):Wg X E (.builtin "max") D5:=by
 refine⟨_,Zat hc,λHf H xs ds Q e r q=>?_⟩
 unfold D5 at q
 split at q
 .rename_i a b
  obtain⟨x,r1,rfl,h1,h2⟩:=reps_cons.mp r
  obtain⟨y,r2,rfl,h3,h4⟩:=reps_cons.mp h2
  rw[reps_nil.mp h4,rep_int.mp h1,rep_int.mp h3]
  exact⟨a,b,rfl,Po.ret (R:=rV X.K) e q (rep_int.mpr rfl)⟩
 .exact q.elim
def Zbj (hc:X.calm=true):CallR X (.builtin "min") (λxs H Q=>∃a b c,xs=[.int a,.int b,.int c]/\Q (.int (min (min a b) c)) H):=by
 intro pins s σ H xs us Q I r h
 obtain⟨a,b,c,rfl,q⟩:=h
 cases r with
 |cons r1 r=>
  cases r with
  |cons r2 r=>
   cases r with
   |cons r3 r=>
    cases r
    obtain⟨t,rfl⟩:=r1
    obtain⟨u,rfl⟩:=r2
    obtain⟨v,rfl⟩:=r3
    refine min_three_ints (I.ok.hd hc) λh' tk keep=>?_
    refine⟨.int (min (min a b) c),H,I.kept keep,?_,q⟩
    by_cases h1:b<a
    .by_cases h2:c<b
     .simp only[h1,h2,DW]
      exact⟨_,by rw[show min (min a b) c=c by omega]⟩
     .simp only[h1,h2,DW,DM]
      exact⟨_,by rw[show min (min a b) c=b by omega]⟩
    .by_cases h2:c<a
     .simp only[h1,h2,DW,DM]
      exact⟨_,by rw[show min (min a b) c=c by omega]⟩
     .simp only[h1,h2,DM]
      exact⟨_,by rw[show min (min a b) c=a by omega]⟩
def Zho (hc:X.calm=true):Wg X E (.builtin "min") lT:=by
 refine⟨_,Zbj hc,λHf H xs ds Q e r q=>?_⟩
 unfold lT at q
 split at q
 .rename_i a b c
  obtain⟨x,r1,rfl,h1,h2⟩:=reps_cons.mp r
  obtain⟨y,r2,rfl,h3,h4⟩:=reps_cons.mp h2
  obtain⟨z,r3,rfl,h5,h6⟩:=reps_cons.mp h4
  rw[reps_nil.mp h6,rep_int.mp h1,rep_int.mp h3,rep_int.mp h5]
  exact⟨a,b,c,rfl,Po.ret (R:=rV X.K) e q (rep_int.mpr rfl)⟩
 .exact q.elim
end
def FlK (K:PySem.W.Frag)(Hf:Hp)(a:Addr)(g:D)(q:List (List Yx×D))(k:Addr):Prop:=∃C dx gs d ys,PySem.W.nsIn K mainGlobals "Floor"=some (some (.ref C))/\Hf a=some (.ins C dx gs)/\FlG K Hf g d k gs/\Hf d=some (.dT ys)/\RepKV K Hf q ys
theorem FlK.fl {K:PySem.W.Frag}{Hf:Hp}{a k:Addr}{g:D}{q:List (List Yx×D)}(h:FlK K Hf a g q k):RepS K Hf (.fl a g q) (.ref a):=by
 obtain⟨C,dx,gs,d,ys,e1,e2,e3,e4,e5⟩:=h
 exact⟨C,dx,gs,d,k,ys,rfl,e1,e2,e3,e4,e5⟩
theorem FlK.mono {K:PySem.W.Frag}{Hf MJ:Hp}(e:Same Hf MJ){a k:Addr}{g:D}{q:List (List Yx×D)}(h:FlK K Hf a g q k):FlK K MJ a g q k:=by
 obtain⟨C,dx,gs,d,ys,e1,e2,e3,e4,e5⟩:=h
 exact⟨C,dx,gs,d,ys,e1,e _ _ e2,e3.mono e,e _ _ e4,e5.mono e⟩
def CaAt (K:PySem.W.Frag)(Fc:List D->M D)(n:Nat)(Hf H:Hp)(k:Addr):Prop:=∃c ys,H k=some (.dT ys)/\RepKV K Hf c ys/\ys.length<=n/\∀ds ks d,Vq ds=some ks->Xj c ks=some d->Fc ds=.ok d
theorem CaAt.mono {K:PySem.W.Frag}{Fc:List D->M D}{n:Nat}{Hf H MJ H':Hp}{k:Addr}(e:Same Hf MJ)(he:∀o,H k=some o->H' k=some o)(h:CaAt K Fc n Hf H k):CaAt K Fc n MJ H' k:=by
 obtain⟨c,ys,e1,e2,e3,e4⟩:=h
 exact⟨c,ys,he _ e1,e2.mono e,e3,e4⟩
def CaAt.le {K:PySem.W.Frag}{Fc:List D->M D}{n m:Nat}{Hf H:Hp}{k:Addr}(hl:n<=m)(h:CaAt K Fc n Hf H k):CaAt K Fc m Hf H k:=by
 obtain⟨c,ys,e1,e2,e3,e4⟩:=h
 exact⟨c,ys,e1,e2,by lia,e4⟩
def Zeg {d d':D}{k:Yx}(h:iZ d=some k)(h':iZ d'=some k):d=d':=by
 cases d<;>cases h<;>cases d'<;>cases h'<;>rfl
theorem Bo:∀{ds kQ:List D}{ks:List Yx},Vq ds=some ks->Vq kQ=some ks->ds=kQ
 |[],[],_,_,_=>rfl
 |[],d'::r',ks,h,h'=>by
  cases h
  unfold Vq at h'
  split at h'<;>cases h'
 |d::r,[],ks,h,h'=>by
  cases h'
  unfold Vq at h
  split at h<;>cases h
 |d::r,d'::r',ks,h,h'=>by
  unfold Vq at h h'
  split at h
  .rename_i k1 k2 e1 e2
   cases h
   split at h'
   .rename_i k3 k4 e3 e4
    cases h'
    rw[Zeg e1 e3,Bo e2 e4]
   .cases h'
  .cases h
def Zeh {κ:Type}[DecidableEq κ]{c:List (κ×D)}{k k':κ}{d:D}(hn:Xj c k=none):Xj (fZ c k d) k'=if k'=k then some d else Xj c k':=by
 have bS:(c.any λkv=>decide (kv.1=k))=false:=by
  cases h:(c.any λkv=>decide (kv.1=k)) with
  |false=>rfl
  |true=>
   obtain⟨kv,h1,h2⟩:=HQ.mp h
   have hf:(c.find? λkv=>decide (kv.1=k))=none:=GH.mp hn
   exact absurd h2 (KI.mp hf kv h1)
 unfold fZ
 rw[bS]
 show((c++[(k,d)]).find? λkv=>decide (kv.1=k')).map (·.2)=_
 rw[List.find?_append]
 by_cases e:k'=k
 .subst e
  rw[AD rfl,GH.mp hn]
  simp
 .rw[AF e]
  have:([(k,d)].find? λkv=>decide (kv.1=k'))=none:=by
   rw[CC]
   simp[EL e]
  rw[this]
  simp[Xj]
def S8 (i:Nat)(sd:Zg):M D:=match sd[i]? with
 |some (some (.fl _ g _))=>.ok g
 |_=>.bad
section
variable {X:Cx}{E:XK}{p pos:Pos}{vn:Str}
def Bp (i:Nat){C:Addr} (oc:UK X.K "Floor" C) (na:NoAttr X.K C "hall") (hN:X.N[i]?=some vn:=by rfl) (hv:Mc X.env.scope vn:=by trivial) (hd:(vn==("__debug__":Str))=false:=by decide)
  (NL:(vn==("__classdict__":Str))=false:=by decide) (hb:attributeBase (.Name vn p) "hall" X.env (eval (.Name vn p) X.env)=eval (.Name vn p) X.env:=by rfl):Xq X E (.Attribute (.Name vn p) "hall" pos) (S8 i):=by
 refine⟨_,Wq (Qe hN hv hd NL) hb,λH0 B Hf sd σ H Q sr h=>?_⟩
 unfold S8 at h
 split at h
 .rename_i a g q ei
  obtain⟨v,e1,C',dx,gs,d,k,ys,rfl,e2,e3,e4,e5,e6⟩:=sr.imS i _ ei rfl
  rw[oc.at_] at e2
  cases e2
  obtain⟨v,l,rv⟩:=e4.hall
  exact⟨.ref a,e1,a,C,dx,gs,v,rfl,sr.sub _ _ e3,oc.cls,na,l,Po.ret (R:=rV X.K) sr.sub h rv⟩
 .exact h.elim
end
def Vv (F:List D->M S)(g:D)(ds:List D):M D:=Pk (F (g::ds))
def lC (K:PySem.W.Frag)(F:List D->M S):Sp:=λvs H Q _=>∃Hf a g q k n ds ks d v,vs=[.ref a,v]/\Same Hf H/\FlK K Hf a g q k/\Hf k=none/\CaAt K (Vv F g) n Hf H k/\n<sizeLine/\Rep K Hf (.tup ds) v/\Vq ds=some ks/\ds.length=3/\Vv F g ds=.ok d /\
 ∀v' MJ H',GrM k Hf H MJ H'->CaAt K (Vv F g) (n+1) MJ H' k->Rep K MJ d v'->Q v' H'
def yS {m:M S}{d:D}(h:Pk m=.ok d):(match m with | .ok s=>s.toD|_=>M.bad)=.ok d:=by
 cases m with
 |ok s=>cases s<;>first|exact h|cases h
 |ex x=>cases h
 |bad=>cases h
structure HSt (K:PySem.W.Frag) (Ff:List D->M S) (a:Addr) (g:D) (q:List (List Yx×D)) (k:Addr) (n:Nat) (H0:Hp) (B:Addr->Prop) (Hf:Hp) (sd:Zg) (σ:L2.St) (H:Hp):Prop where
 sr:SR K H0 B Hf sd σ H
 s0:sd[0]?=some (some (.fl a g q))
 fl:FlK K Hf a g q k
 hk:Hf k=none
 ca:CaAt K (Vv Ff g) n Hf H k
 hn:n<sizeLine
section
variable {K:PySem.W.Frag}{Ff:List D->M S}{a k:Addr}{g:D}{q:List (List Yx×D)}{n:Nat}{H0:Hp}{B:Addr->Prop}{Hf H ML H1:Hp}{sd:Zg}{σ:L2.St}{Fc:List D->M D}
def CaAt.lv (h:CaAt K Fc n Hf H k):Lv H k:=by
 obtain⟨c,ys,e1,_⟩:=h
 exact⟨_,e1,λ_ q=>by cases q⟩
theorem HSt.gr (x:HSt K Ff a g q k n H0 B Hf sd σ H)(y:Gr Hf H ML H1):HSt K Ff a g q k n H0 B ML sd σ H1:=
 ⟨x.sr.gr y,x.s0,x.fl.mono y.fz,y.ban k x.ca.lv x.hk,x.ca.mono y.fz λo z=>y.all _ _ z,x.hn⟩
def Kon (K:PySem.W.Frag)(Fc:List D->M D)(k:Addr)(n:Nat)(Hf H:Hp)(d:D)(Q:VK):Prop:=∀v' MJ H',GrM k Hf H MJ H'->CaAt K Fc (n+1) MJ H' k->Rep K MJ d v'->Q v' H'
def Kon.gr {d:D}{Q:VK}(h:Kon K Fc k n Hf H d Q)(y:Gr Hf H ML H1):Kon K Fc k n ML H1 d Q:=λv' MJ H' gm ca rv=>
 h v' MJ H' ((GrM.of_gr y).trans gm fun⟨o,e1,e2⟩=>⟨o,y.all _ _ e1,e2⟩) ca rv
end
def cq (X:Cx)(Ff:List D->M S)(st:List Stmt)(f:Zg->M D):Prop:=
 ∃t:TS,PSs X st t/\∀(a k:Addr) (g:D) (q:List (List Yx×D)) (n:Nat) (H0:Hp) (B:Addr->Prop) (Hf:Hp) (sd:Zg) (σ:L2.St) (H:Hp) (D':Ends) (d:D),HSt X.K Ff a g q k n H0 B Hf sd σ H->f sd=.ok d->Kon X.K (Vv Ff g) k n Hf H d D'.rt->t D' σ H
def Gq (Ff:List D->M S)(Fa:List S->M S)(i:Nat)(fk:Zg->M D)(sd:Zg):M D:=match (sd[0]?:Option (Option S)),(sd[i]?:Option (Option S)) with
 |some (some (S.fl _ g _)),some (some o)=>if Nj o then(fk sd).bind λkd=>(match kd with
  |.tup ds=>if ds.length=3/\(Vq ds).isSome=true then(Vv Ff g ds).bind λpr=>Pk (Fa [o,.im pr]) else .bad
  |_=>.bad) else .bad
 |_,_=>.bad
def ag (c:Zg->M Bool)(f g:Zg->M D)(sd:Zg):M D:=(c sd).bind λb=>if b then f sd else g sd
def bind_ok {α β:Type}{m:M α}{f:α->M β}{b:β}(h:m.bind f=.ok b):∃a,m=.ok a/\f a=.ok b:=by
 cases m with
 |ok a=>exact⟨a,rfl,h⟩
 |ex x=>cases h
 |bad=>cases h
section
variable {X:Cx}{Ff:List D->M S}{pos p p1 p2 apos cpos:Pos}{e key:Expr}{x vn fl fn:Str}
def Oj {f:Zg->M D}(h:Xq X E0 e f):cq X Ff [.Return (some e) pos] f:=by
 obtain⟨t,pt,qt⟩:=h
 refine⟨_,Xu (G8 pt),λa k g q n H0 B Hf sd σ H D' d x ed kk=>?_⟩
 refine qt H0 B Hf sd σ H _ x.sr ?_
 rw[ed]
 intro v ML H1 g1 rv
 exact kk v ML H1 (.of_gr g1) ((x.gr g1).ca.le (by lia)) rv
def Hj {c:Expr}{xs rest:List Stmt}{kc:Zg->M Bool}{f g:Zg->M D}(hc:M7 X E0 c kc)(h:cq X Ff xs f)(h2:cq X Ff rest g):cq X Ff (.If c xs [] pos::rest) (ag kc f g):=by
 obtain⟨tc,pc,qc⟩:=hc
 obtain⟨t1,p1,q1⟩:=h
 obtain⟨t2,p2,q2⟩:=h2
 refine⟨_,Qg (Ih pc p1 Sz) p2,λa k g' q n H0 B Hf sd σ H D' d x ed kk=>?_⟩
 obtain⟨b,eb,ed⟩:=bind_ok ed
 refine qc H0 B Hf sd σ H _ x.sr ?_
 rw[eb]
 intro v ML H1 gr rv
 have e:b=v:=rv
 subst e
 cases b with
 |true=>
  rw[AD rfl] at ed ⊢
  exact q1 a k g' q n H0 B ML sd σ H1 _ d (x.gr gr) ed (kk.gr gr)
 |false=>
  rw[AF CB] at ed ⊢
  exact q2 a k g' q n H0 B ML sd σ H1 D' d (x.gr gr) ed (kk.gr gr)
def D6 (i:Nat){Fa:List S->M S}{fk:Zg->M D}{CF fA fB:Addr}{nJ nI:FuncData}{mQ mP:List Str}{kA kB:Nat}{pl:Sem Bool} (oc:UK X.K "Floor" CF) (hm:OD X.K CF "faces_at" fB) (GB:MM X.prog X.w X.K X.mg X.base Yf kB fB nI mP (lC X.K Ff)) (uK:Room kB X.A) (bB:Binds X.K nI mP [])
  (GA:MM X.prog X.w X.K X.mg X.base Yf kA fA nJ mQ (Sh X.K Fa)) (uL:Room kA X.A) (mA:X.mg fn=some (.ref fA)) (tf:PySem.W.keepIn X.K (.ref fA)=true) (bA:Binds X.K nJ mQ []) (hk:Xq X E0 key fk)
  (n0:X.N[0]?=some fl:=by rfl) (v0:Mc X.env.scope fl:=by trivial) (d0:(fl==("__debug__":Str))=false:=by decide) (c0:(fl==("__classdict__":Str))=false:=by decide)
  (ni:X.N[i]?=some vn:=by rfl) (vi:Mc X.env.scope vn:=by trivial) (di:(vn==("__debug__":Str))=false:=by decide) (ci:(vn==("__classdict__":Str))=false:=by decide)
  (uf:Gl X fn:=by rfl) (uk:(fn==("__debug__":Str))=false:=by decide)
  (s1:starEach [.Name vn p,.Call (.Attribute (.Name fl p1) "faces_at" apos) [key] [] cpos] X.env=(false,eval (.Name vn p) X.env)::starEach [.Call (.Attribute (.Name fl p1) "faces_at" apos) [key] [] cpos] X.env:=by rfl)
  (s2:starEach [.Call (.Attribute (.Name fl p1) "faces_at" apos) [key] [] cpos] X.env=(false,eval (.Call (.Attribute (.Name fl p1) "faces_at" apos) [key] [] cpos) X.env)::starEach [] X.env:=by rfl)
  (s3:starEach [key] X.env=(false,eval key X.env)::starEach [] X.env:=by rfl) (ND:(backTo cpos (starEach [] X.env)).any (·.1)=false:=by rfl) (jf:(backTo pos (starEach [.Call (.Attribute (.Name fl p1) "faces_at" apos) [key] [] cpos] X.env)).any (·.1)=false:=by rfl)
  (ht:eval (.Call (.Attribute (.Name fl p1) "faces_at" apos) [key] [] cpos) X.env=(do
   let ov <-eval (.Name fl p1) X.env
   standAt apos.atName
   let (f,first) <-holding [ov] (getMethod ov "faces_at" pl)
   callWith cpos f first (backTo cpos (starEach [key] X.env)) (backToKw cpos (keywordEach [] X.env))):=by rfl) {jD:Pos}:
  cq X Ff [.Return (some (.Call (.Name fn p2) [.Name vn p,.Call (.Attribute (.Name fl p1) "faces_at" apos) [key] [] cpos] [] pos)) jD] (Gq Ff Fa i fk):=by
 obtain⟨tk,pk,qk⟩:=hk
 refine⟨_,Xu (G8 (Ka (dvs:=[]) (E:=E0) GA uL uf mA tf bA .nil Jj (Qm (Qe ni vi di ci) (Qm (Ac (dvs:=[]) (E:=E0) (pl:=pl) (Qe n0 v0 d0 c0) oc.cls hm GB uK bB .nil Jj (Qm pk Ji s3) s3 ND ht) Ji s2) s1) uk s1 jf)),λa k g q n H0 B Hf sd σ H D' d x ed kk=>?_⟩
 unfold Gq at ed
 rw[x.s0] at ed
 split at ed
 .rename_i a' g' q' o h0 hi
  cases h0
  split at ed
  .rename_i ho
   obtain⟨kd,ek,ed⟩:=bind_ok ed
   split at ed
   .rename_i ds
    split at ed
    .rename_i hd
     obtain⟨pr,e1,e2⟩:=bind_ok ed
     obtain⟨ks,bq⟩:=FW.mp hd.2
     obtain⟨f9,si,ri⟩:=x.sr.imS i o hi (K1 ho)
     obtain⟨v0',sO,r0⟩:=x.sr.imS 0 _ x.s0 rfl
     obtain⟨C',dx,gs,dd,k',ys,rfl,c1,c2,c3,c4,c5⟩:=id r0
     rw[oc.at_] at c1
     cases c1
     refine⟨f9,si,.ref a,sO,a,dx,gs,rfl,x.sr.sub _ _ c2,c3.m2,?_⟩
     refine qk H0 B Hf sd σ H _ x.sr ?_
     rw[ek]
     intro v ML H1 g1 rv
     have y:=x.gr g1
     refine⟨ML,a,g,q,k,n,ds,ks,pr,v,rfl,g1.sub,y.fl,y.hk,y.ca,y.hn,rv,bq,hd.1,e1,λv' MJ H' gm ca' YS=>?_⟩
     have ro:RepS X.K MJ o f9:=(ri.mono g1.fz).mono gm.fz
     show Sh X.K Fa ([f9,v']++[]) H' D'.rt E0
     rw[BP]
     refine Ap (E:=E0) (ss:=[o,.im pr]) (vs:=[f9,v']) gm.sub (.cons ⟨K1 ho,ro⟩ (.cons ⟨rfl,YS⟩ .nil)) ?_
     rw[e2]
     intro v2 MT H2 g2 rv2
     have kg:=kk.gr g1
     refine kg v2 MT H2 (gm.trans (.of_gr g2) λ_=>ca'.lv) (ca'.mono g2.fz λo z=>g2.all _ _ z) rv2
    .cases ed
   .cases ed
  .cases ed
 .cases ed
end
def iK (K:PySem.W.Frag)(Ff:List D->M S)(F:List S->M D):Sp:=λvs H Q _=>∃Hf ss a g q k n d,ss[0]?=some (.fl a g q)/\Same Hf H/\cu K Hf ss vs/\FlK K Hf a g q k/\Hf k=none/\CaAt K (Vv Ff g) n Hf H k/\n<sizeLine/\F ss=.ok d/\Kon K (Vv Ff g) k n Hf H d Q
def fL (n:Nat)(f:Zg->M D)(ss:List S):M D:=if ss.length=n then f (ss.map some) else .bad
def vw {P:Program}{w:World}{K:PySem.W.Frag}{mg:Str->Option Value}{base:Heap}{x qual:Str}{st:Stmt}{f:Addr}{fd:FuncData}{N:List Str}{k n:Nat}{Ff:List D->M S}{fb:Zg->M D}(F:Fun K x qual st f fd)(sc:MK N N (Zf st))(hn:N.length=n)(OH:∀(MP:Value) (A:Around) (outer:List Env) (s:Shared) (H:Hp) (E:XK),Room k (A.deeper (envOfC qual (Zf st) s.heap.objs.size f MP)) ->
   cq (Xo Yf P w K mg base N qual (Zf st) f MP A outer s H E).nox Ff (Xe st) fb):MM P w K mg base Yf (k+1) f fd N (iK K Ff (fL n fb)):=by
 refine F.ok sc (λvs H Q E h=>?_) (λMP A outer s H vs Q E hr h=>?_)
 .obtain⟨Hf,ss,a,g,q,k,n',d,h0,e,r,fl,hk,ca,gK,hF,_⟩:=h
  unfold fL at hF
  split at hF
  .rename_i hl
   rw[<-DV r,hl,hn]
  .cases hF
 .obtain⟨Hf,ss,a,g,q,k,n',d,h0,e,r,fl,hk,ca,gK,hF,kk⟩:=h
  obtain⟨t,p,qt⟩:=OH MP A outer s H E hr
  unfold fL at hF
  split at hF
  .rename_i hl
   have sr:=Go (N:=N) (m:=0) e r (by rw[hn,hl];rfl)
   rw[List.replicate_zero,BP] at sr
   refine⟨t,p,qt a k g q n' H _ Hf _ (L2.Je N vs) H _ d ⟨sr,?_,fl,hk,ca,gK⟩ hF kk⟩
   rw[BE,h0]
   rfl
  .cases hF
section
variable {K:PySem.W.Frag}{H0 ir Hf MJ H H':Hp}{B B':Addr->Prop}{sd:Zg}{σ:L2.St}{x k:Addr}
def Cv (sd:Zg)(σ:L2.St)(x:Addr):Prop:=∀(i:Nat) (t:S),sd[i]?=some (some t)->t.own=true->σ[i]?≠some (some (.ref x))
def SR.less (r:SR K H0 B Hf sd σ H)(s:Same ir H0)(hb:∀b,B' b->B b/\Lv ir b):SR K ir B' Hf sd σ H:=
 ⟨r.sub,s.trans r.all,λb h=>r.ban b (hb b h).1,λb h=>(hb b h).2,r.len,r.imS,λi t e o=>by
  obtain⟨p,e1,e2,e3,e4⟩:=r.ow i t e o
  refine⟨p,e1,?_,e3,e4⟩
  cases q:ir p with
  |none=>rfl
  |some u=>exact absurd e2 (by rw[s _ _ q];exact λz=>nomatch z),r.sep⟩
def SR.keep (r:SR K H0 B Hf sd σ H){o:HO}(hk:H k=some o)(hl:Lv H k)(hf:Hf k=none)(off:Cv sd σ k):SR K (upd H0 k o) (λb=>B b\/b=k) Hf sd σ H:=by
 refine⟨r.sub,λb u q=>?_,λb h=>?_,λb h=>?_,r.len,r.imS,λi t e ow=>?_,r.sep⟩
 .by_cases e:b=k
  .subst e;rw[Zq] at q;rw[hk];exact q
  .rw[Zm e] at q;exact r.all b u q
 .rcases h with h|rfl
  .exact r.ban b h
  .exact hf
 .by_cases e:b=k
  .subst e
   obtain⟨u,e1,e2⟩:=hl
   rw[hk] at e1
   cases e1
   exact⟨o,Zq,e2⟩
  .rcases h with h|h
   .obtain⟨u,e1,e2⟩:=r.bt b h
    exact⟨u,(Zm e).trans e1,e2⟩
   .exact absurd h e
 .obtain⟨p,e1,e2,e3,e4⟩:=r.ow i t e ow
  exact⟨p,e1,(Zm λz=>off i t e ow (by rw[e1,z])).trans e2,e3,e4⟩
def SR.back {o:HO}(r:SR K (upd H0 k o) (λb=>B b\/b=k) Hf sd σ H)(h0:H0 k=none)(bt:∀b,B b->Lv H0 b):H k=some o/\Hf k=none/\SR K H0 B Hf sd σ H:=
 ⟨r.all _ _ Zq,r.ban k (.inr rfl),r.less (λb u q=>by rw[Zm (Z3 q h0)];exact q) λb h=>⟨.inl h,bt b h⟩⟩
def SR.grM (r:SR K H0 B Hf sd σ H)(g:GrM x Hf H MJ H')(h0:H0 x=none)(off:Cv sd σ x):SR K H0 B MJ sd σ H':=
 ⟨g.sub,λb u q=>g.all b u (Z3 q h0) (r.all b u q),λb hb=>g.ban b (r.all.lv (r.bt b hb)) (r.ban b hb),r.bt,r.len,λi t e z=>by
  obtain⟨v,z1,z2⟩:=r.imS i t e z
  exact⟨v,z1,z2.mono g.fz⟩,λi t e o=>by
  obtain⟨p,e1,e2,e3,e4⟩:=r.ow i t e o
  exact⟨p,e1,e2,g.ban p (pX e4) e3,Gi e4 g.fz λu h=>g.all _ _ (λz=>off i t e o (by rw[e1,z])) h⟩,r.sep⟩
def SR.set_none (r:SR K H0 B Hf sd σ H)(i:Nat)(v:V)(hi:sd[i]?=some none):SR K H0 B Hf sd (σ.set i (some v)) H:=by
 have ne:∀{j:Nat}{t:S},sd[j]?=some (some t)->i≠j:=λ{j t} e z=>by subst z;rw[hi] at e;cases e
 refine⟨r.sub,r.all,r.ban,r.bt,by rw[CZ];exact r.len,λj t e z=>?_,λj t e o=>?_,λj l t u p h e1 o1 e2 o2 e3 e4=>?_⟩
 .rw[AR (ne e)];exact r.imS j t e z
 .rw[AR (ne e)];exact r.ow j t e o
 .rw[AR (ne e1)] at e3
  rw[AR (ne e2)] at e4
  exact r.sep j l t u p h e1 o1 e2 o2 e3 e4
def SR.offI (r:SR K H0 B Hf sd σ H){C dx:Addr}{gs:List (Str×V)}(hx:H x=some (.ins C dx gs)):Cv sd σ x:=by
 intro i t e ow z
 obtain⟨p,e1,_,_,e4⟩:=r.ow i t e ow
 rw[z] at e1
 cases e1
 exact D4 e4 hx rfl
def SR.offD (r:SR K H0 B Hf sd σ H){ys:List (List Yx×V)}(hx:H x=some (.dT ys))(ho:∀(i:Nat) (t:S),sd[i]?=some (some t)->t.own=true->∃ds,t=.ow ds):Cv sd σ x:=by
 intro i t e ow z
 obtain⟨p,e1,_,_,e4⟩:=r.ow i t e ow
 rw[z] at e1
 cases e1
 obtain⟨ds,rfl⟩:=ho i t e ow
 obtain⟨xs,h,_⟩:=e4
 rw[hx] at h
 cases h
end
section
variable {K:PySem.W.Frag}{E:XK}{H0 Hf H:Hp}{B:Addr->Prop}{sd:Zg}{σ:L2.St}{D':Ends}
def Kq {r:M O}{sd':Zg}(h:r=.ok (.nx sd'))(k:∀σ' MJ H',Same Hf MJ->SR K H0 B MJ sd' σ' H'->D'.nx σ' H'):PoS K E H0 B Hf r D':=by rw[h];exact k
def qU {r:M O}{d:D}(h:r=.ok (.rt (.im d)))(k:∀v MJ H',Same Hf MJ->UF H0 B MJ H'->Rep K MJ d v->D'.rt v H'):PoS K E H0 B Hf r D':=by rw[h];exact k
def S9 {f:Zg->M D}{d:D}{i:Nat}(h:f sd=.ok d):Qa i f sd=.ok (.nx (sd.set i (some (.im d)))):=by
 unfold Qa
 rw[h]
 rfl
def qS {k:Addr}{o:HO}{MJ H':Hp}(s:Same Hf MJ)(fin:UF (upd (Nx H k) k o) (λb=>(Lv (Nx H k) b/\Hf b=none)\/b=k) MJ H'):GrM k Hf H MJ H':=
 ⟨s,fin.sub,λb u hb hu=>fin.all b u (by rw[Zm hb,Kf hb];exact hu),λb hb hn=>by
  by_cases e:b=k
  .subst e;exact fin.ban b (.inr rfl)
  .obtain⟨o',h1,h2⟩:=hb
   exact fin.ban b (.inl ⟨⟨o',(Kf e).trans h1,h2⟩,hn⟩)⟩
def none_of {H H':Hp}(s:Same H H'){x:Addr}(h:H' x=none):H x=none:=by
 cases q:H x with
 |none=>rfl
 |some u=>rw[s _ _ q] at h;cases h
def qQ {C:Addr}{t:TA}{f:Zg->M (List D)}{F:Qy->List D->Option Qy}{l:List D}{r:Qy}{i:Nat}{c:Str}{Dn:L2.St->Hp->Prop}(qt:∀(H0:Hp) (B:Addr->Prop) (Hf:Hp) (sd:Zg) (σ:L2.St) (H:Hp) (Q:List V->Hp->Prop),SR K H0 B Hf sd σ H->Po K E0 (rA K) Hf H (f sd) Q->t σ H Q)(sr:SR K H0 B Hf sd σ H)(ef:f sd=.ok l)(hi:sd[i]?=some none)(eF:F [] l=some r)(hC:PySem.W.nsIn K mainGlobals c=some (some (.ref C)))(k:∀x σ' MJ H',Same Hf MJ->H x=none->SR K H0 B MJ (sd.set i (some (.ob x c r))) σ' H'->Dn σ' H'):pL C (Ss K C F) [] E0 t σ H λv H1=>Dn (σ.set i (some v)) H1:=by
 refine qt H0 B Hf sd σ H _ sr ?_
 rw[ef]
 intro vs ML H1 g1 rs x dx hx XM hne
 have ZQ:ML x=none:=none_of g1.sub hx
 have sm:Same H1 (upd (upd H1 dx (.own x)) x (.ins C dx [])):=(Qc XM _).trans (Qc ((Zm hne.symm).trans hx) _)
 have g2:Gr ML H1 ML (upd (upd H1 dx (.own x)) x (.ins C dx [])):=⟨Same.refl _,g1.sub.trans sm,sm,λ_ _ h=>h⟩
 have h0:H0 x=none:=none_of (sr.all.trans g1.all) hx
 refine⟨ML,[],l,x,vs++[],r,rfl,g2.sub,ZQ,⟨dx,[],Zq,.nil⟩,by rw[BP];exact rs,eF,λQV H3 gm ta=>⟨rfl,?_⟩⟩
 have cN:QV x=none:=gm.ban x (Lb Zq) ZQ
 have sr2:=(sr.gr g1).gr g2
 have sr3:=sr2.grM gm h0 (sr2.offI Zq)
 obtain⟨XZ,gs,e1,e2⟩:=ta
 have sr4:=sr3.set_none i (.ref x) hi
 have hl:i<σ.length:=by
  rw[<-sr.len]
  exact(AE.mp hi).1
 exact k x _ _ _ (g1.fz.trans (gm.fz.trans (Qc cN _))) (none_of g1.all hx) (sr4.fzO hi (AY hl) hC e1 e2 h0 cN)
def pK {C x k:Addr}{F:Qy->List D->Option Qy}{Fc:List D->M D}{m i i1 i2:Nat}{r r':Qy}{now th:D}{c:Str}{Dn:L2.St->Hp->Prop}(sr:SR K H0 B Hf sd σ H)(hs:sd[i]?=some (some (.ob x c r)))(hu:∀(j:Nat) (t:S),j≠i->sd[j]?=some (some t)->t.adr≠some x/\∀z,t≠.xc z)(hC:PySem.W.nsIn K mainGlobals c=some (some (.ref C)))(h0:H0 x=none)(eF:F r [now,th]=some r')(n1:i≠i1)(n2:i≠i2)(s1:sd[i1]?=some (some (.im now)))(s2:sd[i2]?=some (some (.im th)))(hk:Hf k=none)(ca:CaAt K Fc m Hf H k)(tZ:∀MJ H',(∀Hs,Same Hs Hf->Hs x=none->Same Hs MJ)->SR K H0 B MJ (sd.set i (some (.ob x c r'))) σ H'->MJ k=none->CaAt K Fc m MJ H' k->Dn σ H'):
  pP (pM (Ss K C F) [] E0 (Ik (fm i) (Ik (fm i1) (Ik (fm i2) lK)))) {nx:=Dn,rt:=λ_ _=>False} σ H:=by
 obtain⟨z1,C',dx,gs,zc,z2,z3,sr1⟩:=sr.thO hs hu
 rw[hC] at zc
 cases zc
 obtain⟨v1,a1,a2⟩:=sr1.im i1 now (by rw[AR n1];exact s1)
 obtain⟨v2,b1,b2⟩:=sr1.im i2 th (by rw[AR n2];exact s2)
 refine⟨_,z1,_,a1,_,b1,Nx Hf x,r,[now,th],x,[v1,v2],r',rfl,sr1.sub,Vs Hf x,⟨dx,gs,z2,z3⟩,Reps.cons a2 (Reps.cons b2 Reps.nil),eF,λQV H3 gm ta=>?_⟩
 obtain⟨XZ,cQ,e1,e2⟩:=ta
 have hl:i<sd.length:=(AE.mp hs).1
 have hi:(sd.set i none)[i]?=some none:=AY hl
 have sr2:=sr1.grM gm h0 (sr1.offI z2)
 have cN:QV x=none:=gm.ban x (Lb z2) (Vs Hf x)
 have sr3:=sr2.fzO hi z1 hC e1 e2 h0 cN
 rw[List.set_set] at sr3
 obtain⟨cc,ys,c1,c2,c3,c4⟩:=ca
 have kx:k≠x:=λz=>by rw[z,z2] at c1;cases c1
 have uZ:Nx Hf x k=none:=(Kf kx).trans hk
 have bN:Hf x=some (.ins C dx gs):=by
  obtain⟨v,y1,C'',kP,kE,rfl,y2,y3,y4⟩:=sr.imS i _ hs rfl
  rw[sr.sub _ _ y3] at z2
  cases z2
  exact y3
 refine tZ _ H3 (λHs s n=>?_) sr3 ?_ ?_
 .have:Same Hs (Nx Hf x):=λb u q=>by
   rw[Kf (Z3 q n)]
   exact s b u q
  exact this.trans (gm.fz.trans (Qc cN _))
 .rw[Zm kx]
  exact gm.ban k ⟨_,c1,λ_ q=>by cases q⟩ uZ
 .exact⟨cc,ys,gm.all _ _ kx c1,((c2.rm bN Kg).mono gm.fz).mono (Qc cN _),c3,c4⟩
end
section
variable {prog:Program}{w:World}{K:Type} [DecidableEq K] {knd:HeapKind prog w K}{A:Around}{E:Value->Shared->Prop}{s:Shared}
def Su {d a:Addr}{xs:List (K×Addr×Value)}{k:K}{dflt:Value}{Q:Value->Shared->Prop}(hu:knd.room A)(UW:knd.is s.heap k a)(hm:s.heap.DictOfH knd d xs)(h1:∀v,(atKey xs k).map (·.2)=some v->Q v {s with toks:=s.toks+knd.draws k})(h2:(atKey xs k).map (·.2)=none->∀h',h'.DictOfH knd d (storedH xs k a dflt)->Heap.SameBut d s.heap h'->Q dflt {s with heap:=h',toks:=s.toks+knd.draws k})(hsz:xs.length<=sizeLine):wpAny (model prog w) A (dictSetDefault d (.ref a) dflt) Q E s:=by
 obtain⟨o,es,ep,ho,hc,hd,he,mj,hn⟩:=hm
 unfold dictSetDefault
 try with_reducible refine CO ?_
 refine AA (knd.pyHash hu UW (AA (wpAny_dictFind_heap (s:={s with toks:=s.toks+knd.draws k}) hu UW ho hd he mj hn ?_ ?_)))
 .intro QU
  have hnot:k ∉ xs.map (·.1):=not_mem_keys_of_get QU
  refine AA (GU (AA (wpAny_updateDictKeys (hz:=by have e:=size_of_entries he;omega) (s:={s with toks:=s.toks+knd.draws k}) ho hd (AG (h2 (by rw[GJ QU];rfl) _ ⟨_,_,ep+1,LZ _ ho (Obj.isFreed_of_dict (MF hd _)),
   hc.mapDictKeys _,MF hd _,?_,?_,?_⟩ (EZ ..))))))
  .rw[MC (GJ QU)]
   simp[he,entryOfKey]
  .rw[MC (GJ QU)]
   intro x hx
   rcases DK.mp hx with hx|hx
   .exact knd.keeps (mj x hx) ho hd (EZ ..)
   .simp only[CU] at hx
    subst hx
    exact knd.keeps UW ho hd (EZ ..)
  .rw[MC (GJ QU)]
   rw[CY,FT]
   refine⟨hn,by simp,?_⟩
   intro x hx y hy
   simp only[AM,FB,CU] at hy
   subst hy
   exact λe=>hnot (e▸hx)
 .intro j p hj
  refine AA (wpAny_dictEntries (s:={s with toks:=s.toks+knd.draws k}) ho hd ?_)
  rw[PySem.entry_at he j,hj]
  exact AA (GU (AG (h1 _ (by rw[atKey_of_get hn hj];rfl))))
def Pp {d a:Addr}{k:K}(hd:(d==sysModules)=false)(dflt:Value):
  MeetsIn prog w (Builtin.«dict.setdefault» ⟨[.ref d,.ref a,dflt],[]⟩) (λA R s=>knd.room A.in1/\∃xs,knd.is s.heap k a/\s.heap.DictOfH knd d xs/\xs.length<=sizeLine /\
   (∀v,(atKey xs k).map (·.2)=some v->R (.ok (.ret v)) {s with toks:=s.toks+knd.draws k}) /\
   ((atKey xs k).map (·.2)=none->∀h',h'.DictOfH knd d (storedH xs k a dflt)->Heap.SameBut d s.heap h'->R (.ok (.ret dflt)) {s with heap:=h',toks:=s.toks+knd.draws k})):=
 .of_wp λA R s ⟨hu,xs,UW,hm,hz,h1,h2⟩=>by
  unfold Builtin.«dict.setdefault»
  refine AA ?_
  unfold Builtin.Dict.keyAndDefault
  refine AA (wpAny_notOrdered_dict hm.typeIs ?_)
  show wpAny _ _ (pure (d,Value.ref a,some dflt)) _ _ s
  refine AG ?_
  show wpAny _ _ (if(d==sysModules)=true then _ else(dictSetDefault d (.ref a) dflt>>=_)) _ _ s
  rw[AF (by rw[hd];exact CB)]
  exact AA (Su hu UW hm (λv hv=>AG ⟨v,rfl,h1 v hv⟩) (λhn h' mf hs'=>AG ⟨dflt,rfl,h2 hn h' mf hs'⟩) hz)
end
section
variable {X:Cx}{pins:List (Addr×Obj)}{σ:L2.St}{H:Hp}{s:Shared}{a b:Addr}{d:V}{r:Value}{A:Around}{E:Value->Shared->Prop}{kvs:List (List Yx×V)}{k:List Yx}
def Zel {Q:Value->Shared->Prop}(hu:A.units+1<cLine)(I:Inv X pins σ H s)(e:H a=some (.dT kvs))(eb:H b=some (.tup (k.map kV)))(l:kvs.length<sizeLine)(rd:RelV d r)(h1:∀v w' s',X8 kvs k=some v->Inv X pins σ H s'->RelV v w'->Q w' s')(h2:X8 kvs k=none->∀s',Inv X pins σ (upd H a (.dT (Kn kvs k d))) s'->Q r s'):
  wpAny (model X.prog X.w) A (call (.builtin "dict.setdefault") [.ref a,.ref b,r]) Q E s:=by
 obtain⟨z,hd,xs,rel,dd⟩:=pY I.hok e
 have hz:xs.length<=sizeLine:=by rw[<-DV rel];exact z
 have rv:=rel.val k
 refine LI HW dd.typeIs PySem.F.entry_dict_setdefault (PySem.F.args_dict_setdefault_3 _ _ _) (Pp (k:=k) hd r) ⟨FE hu,xs,Ra I.hok eb,dd,hz,λv hv=>?_,λhn h' cY hs=>?_⟩
 .rw[hv] at rv
  cases q:X8 kvs k with
  |none=>rw[q] at rv;exact rv.elim
  |some v0=>rw[q] at rv;exact h1 v0 v _ q (I.tok _) rv
 .rw[hn] at rv
  cases q:X8 kvs k with
  |some v0=>rw[q] at rv;exact rv.elim
  |none=>
   refine h2 q _ ?_
   have hl:(Kn kvs k d).length<=sizeLine:=by have:=V6 kvs k d;omega
   obtain⟨o,es,ep,hq,g2,g3,g4,_,g5⟩:=cY
   refine Ag I (by rw[e];exact True.intro) hs ⟨o,hq⟩ ⟨hl,hd,_,(rel.put k eb rd).keeps λc ys ec=>?_,o,es,ep,hq,g2,g3,g4,g5⟩
   rw[Zm (pQ ec e (λz=>nomatch z))]
   exact ec
end
def yR (td ty tx:TE):TE:=λσ H Q=>td σ H λx H1=>∃a,x=.ref a/\ku H1 a/\ty σ H1 λy H2=>tx σ H2 λz H3=>∃kvs k b,y=.ref b/\H3 a=some (.dT kvs)/\H3 b=some (.tup (k.map kV))/\kvs.length<sizeLine /\
 (∀v,X8 kvs k=some v->Q v H3)/\(X8 kvs k=none->Q z (upd H3 a (.dT (Kn kvs k z))))
def Zem {X:Cx}{o e f:Expr}{apos cpos:Pos}{td ty tx:TE}(hu:X.A.units+1<cLine)(ho:PE X o td)(he:PE X e ty)(hf:PE X f tx) (m:M2 X o "setdefault" apos e f cpos):PE X (.Call (.Attribute o "setdefault" apos) [e,f] [] cpos) (yR td ty tx):=by
 intro pins s σ H Q I h
 refine wpAny_Call_method m.base m.few m.line IR HW PySem.F.type_dict_setdefault (Y8 (ho pins s σ H _ I h) λu s1 ⟨x,H1,I1,rx,a,ex,d,q1⟩=>?_)
 subst ex
 obtain rfl:u=Value.ref a:=rx
 obtain⟨t1,t2,_⟩:=rJ I1 d
 refine⟨t1,t2,?_⟩
 rw[m.trees]
 refine FM rfl (HM (EG (Y8 (he pins s1 σ H1 _ I1 q1) λiv s2 ⟨y,H2,I2,ry,q2⟩=>
  EG (Y8 (hf pins s2 σ H2 _ I2 q2) λfv s3 ⟨z,H3,I3,rz,kvs,k,b,ey,ea,eb,hl,h1,h2⟩=>GM ?_))))
 subst ey
 cases (show iv=Value.ref b from ry)
 exact Zel hu I3 ea eb hl rz (λv w' s4 ev I4 QW=>⟨v,H3,I4,QW,h1 v ev⟩) λev s4 I4=>⟨z,_,I4,rz,h2 ev⟩
abbrev U7:=List (List Yx×List D)
def Wn (ks:List Yx)(p:D):U7->U7
 |[]=>[(ks,[p])]
 |(k,l)::r=>if k=ks then(k,l++[p])::r else(k,l)::Wn ks p r
def OwnP (K:PySem.W.Frag)(H0 Hf H:Hp)(p:List Yx×List D)(q:List Yx×V):Prop:=p.1=q.1/\∃a xs,q.2=.ref a/\H a=some (.lst xs)/\Hf a=none/\H0 a=none/\Reps K Hf p.2 xs
def OwnL (K:PySem.W.Frag)(H0 Hf H:Hp)(acc:U7)(ys:List (List Yx×V)):Prop:=Paired (OwnP K H0 Hf H) acc ys/\(ys.map (·.2)).Nodup
section
variable {K:PySem.W.Frag}{H0 Hf H MJ H':Hp}{acc:U7}{ys:List (List Yx×V)}{ks:List Yx}
theorem Lc {α β:Type}{F G:α->β->Prop}:∀{l₁:List α}{l₂:List β},Paired F l₁ l₂->(∀a b,F a b->b∈l₂->G a b)->Paired G l₁ l₂
 |_,_,.nil,_=>.nil
 |_,_,.cons h t,f=>.cons (f _ _ h (BH ..)) (Lc t λa b x y=>f a b x (AV _ y))
theorem Vd {α β:Type}{F:α->β->Prop}:∀{l₁:List α}{l₂:List β},Paired F l₁ l₂->∀{b},b∈l₂->∃a,F a b
 |_,_,.nil,b,h=>by cases h
 |_,_,.cons h t,b,hb=>by
  rcases AW.mp hb with rfl|hb
  .exact⟨_,h⟩
  .exact Vd t hb
def OwnP.move {p:List Yx×List D}{q:List Yx×V}(h:OwnP K H0 Hf H p q)(e:Same Hf MJ)(he:∀a xs,q.2=.ref a->H a=some (.lst xs)->H' a=some (.lst xs))(hb:∀a,Lv H a->Hf a=none->MJ a=none):OwnP K H0 MJ H' p q:=by
 obtain⟨e1,a,xs,e2,e3,e4,e5,e6⟩:=h
 exact⟨e1,a,xs,e2,he a xs e2 e3,hb a (Lv.lst e3) e4,e5,e6.mono e⟩
def OwnL.gr (h:OwnL K H0 Hf H acc ys)(g:Gr Hf H MJ H'):OwnL K H0 MJ H' acc ys:=
 ⟨Paired.mapP h.1 λ_ _ q=>q.move g.fz (λa xs _ z=>g.all _ _ z) g.ban,h.2⟩
def Zen {v:V}(h:X8 ys ks=some v):v∈ys.map (·.2):=by
 obtain⟨kv,h1,h2⟩:=GG.mp h
 rw[<-h2]
 exact JZ (List.mem_of_find?_eq_some h1)
def Bq {p:List Yx×V}:X8 (p::ys) ks=if p.1=ks then some p.2 else X8 ys ks:=by
 unfold X8
 rw[CC]
 by_cases e:p.1=ks
 .simp[e]
 .simp[e]
def OwnL.there (h:OwnL K H0 Hf H acc ys){v:V}(hv:X8 ys ks=some v):∃a xs,v=.ref a/\H a=some (.lst xs)/\Hf a=none/\H0 a=none/\(∃p∈acc,xs.length=p.2.length)/\∀(p:D) (y:V),Rep K Hf p y->Paired (OwnP K H0 Hf (upd H a (.lst (xs++[y])))) (Wn ks p acc) ys:=by
 obtain⟨h,n⟩:=h
 induction h with
 |nil=>cases hv
 | @cons x q l l' hp ht ih=>
  rw[AM,FN] at n
  rw[Bq] at hv
  obtain⟨x1,x2⟩:=x
  obtain⟨e1,a,xs,e2,e3,e4,e5,e6⟩:=id hp
  have e1:x1=q.1:=e1
  by_cases e:q.1=ks
  .rw[AD e] at hv
   cases hv
   refine⟨a,xs,e2,e3,e4,e5,⟨_,BH ..,e6.length.symm⟩,λp y ry=>?_⟩
   unfold Wn
   rw[AD (e1.trans e)]
   refine .cons ⟨e1,a,xs++[y],e2,Zq,e4,e5,e6.append (Reps.cons ry Reps.nil)⟩ ?_
   refine Lc ht λz z' hz hm=>?_
   refine hz.move (Same.refl _) (λb zs e7 e8=>?_) λ_ _ z=>z
   rw[Zm]
   .exact e8
   .rintro rfl
    exact n.1 (by rw[e2,<-e7];exact JZ hm)
  .rw[AF e] at hv
   obtain⟨a',xs',f1,f2,f3,f4,⟨pp,g1,g2⟩,f5⟩:=ih hv n.2
   refine⟨a',xs',f1,f2,f3,f4,⟨pp,AV _ g1,g2⟩,λp y ry=>?_⟩
   unfold Wn
   rw[AF (λz=>e (e1.symm.trans z))]
   refine .cons (hp.move (Same.refl _) (λb zs e7 e8=>?_) λ_ _ z=>z) (f5 p y ry)
   rw[Zm]
   .exact e8
   .rintro rfl
    exact n.1 (by rw[e7,<-f1];exact Zen hv)
def OwnL.new (h:OwnL K H0 Hf H acc ys)(hv:X8 ys ks=none){p:D}{y:V}{a d:Addr}{u:List (List Yx×V)}{o:HO}(hd:H d=some (.dT u))(ha:H a=none)(h0:H0 a=none)(hf:Hf a=none)(ry:Rep K Hf p y):
  OwnL K H0 Hf (upd (upd H d o) a (.lst [y])) (Wn ks p acc) (Kn ys ks (.ref a)):=by
 have ep:Kn ys ks (V.ref a)=ys++[(ks,.ref a)]:=by
  unfold Kn
  rw[AF]
  intro bS
  obtain⟨kv,h1,h2⟩:=HQ.mp bS
  exact absurd h2 (KI.mp (GH.mp hv) kv h1)
 have ne:∀{x:List Yx×List D}{q:List Yx×V},OwnP K H0 Hf H x q->OwnP K H0 Hf (upd (upd H d o) a (.lst [y])) x q:=λ{x q} hp=>hp.move (Same.refl _) (λb zs e7 e8=>by
  have n1:b≠a:=λz=>by rw[z,ha] at e8;cases e8
  have n2:b≠d:=λz=>by rw[z,hd] at e8;cases e8
  rw[Zm n1,Zm n2];exact e8) λ_ _ z=>z
 rw[ep]
 obtain⟨h,n⟩:=h
 refine⟨?_,?_⟩
 .clear n ep
  induction h with
  |nil=>exact .cons ⟨rfl,a,[y],rfl,Zq,hf,h0,Reps.cons ry Reps.nil⟩ .nil
  | @cons x q l l' hp ht ih=>
   rw[Bq] at hv
   obtain⟨x1,x2⟩:=x
   have e1:x1=q.1:=hp.1
   by_cases e:q.1=ks
   .rw[AD e] at hv;cases hv
   .rw[AF e] at hv
    unfold Wn
    rw[AF (λz=>e (e1.symm.trans z))]
    exact .cons (ne hp) (ih hv)
 .rw[CY,FT]
  refine⟨n,by simp,λv jX w hw=>?_⟩
  simp only[AM,FB,CU] at hw
  subst hw
  rintro rfl
  obtain⟨q,hq,eq⟩:=CH.mp jX
  obtain⟨x,hx⟩:=Vd h hq
  obtain⟨_,b,xs,e2,e3,_⟩:=hx
  rw[eq] at e2
  cases e2
  rw[ha] at e3
  cases e3
theorem Rq {p:D}{n:Nat}:∀{acc:U7},(∀x∈acc,x.2.length<=n)->∀x∈Wn ks p acc,x.2.length<=n+1
 |[],_,x,hx=>by
  unfold Wn at hx
  rw[CU] at hx
  rw[hx]
  simp
 |(k,l)::r,h,x,hx=>by
  unfold Wn at hx
  split at hx
  .rcases AW.mp hx with rfl|hx
   .have:=h _ (BH ..)
    simp only[AJ,AH,FP] at this ⊢
    lia
   .exact HJ (h x (AV _ hx))
  .rcases AW.mp hx with rfl|hx
   .exact HJ (h _ (BH ..))
   .exact Rq (λy hy=>h y (AV _ hy)) x hx
theorem Ld {p:D}:∀{acc:U7},(Wn ks p acc).length<=acc.length+1
 |[]=>AQ _
 |(k,l)::r=>by
  unfold Wn
  split
  .simp
  .have:=Ld (p:=p) (acc:=r)
   simp only[AH]
   lia
open Classical in
noncomputable def ZD (Hf H:Hp)(S:Addr->Prop):Hp:=λb=>match Hf b with
 |some u=>some u
 |none=>if S b then H b else none
def Le {S:Addr->Prop}:Same Hf (ZD Hf H S):=λb u q=>by unfold ZD;rw[q]
def Zhq {S:Addr->Prop}(e:Same Hf H):Same (ZD Hf H S) H:=λb u q=>by
 unfold ZD at q
 split at q
 .rename_i u' eu;cases q;exact e _ _ eu
 .split at q
  .exact q
  .cases q
def Hl {S:Addr->Prop}(e:Same Hf H){b:Addr}(h:S b){o:HO}(ho:H b=some o):ZD Hf H S b=some o:=by
 unfold ZD
 split
 .rename_i u' eu;rw[<-ho];exact(e _ _ eu).symm
 .rw[AD h];exact ho
def D7 {S:Addr->Prop}{b:Addr}(h:¬S b)(hf:Hf b=none):ZD Hf H S b=none:=by
 unfold ZD
 rw[hf]
 exact AF h
variable {sd:Zg}{σ:L2.St}{B:Addr->Prop}
def SR.mut (r:SR K H0 B Hf sd σ H){b:Addr}{o:HO}(h0:H0 b=none)(hf:Hf b=none)(off:Cv sd σ b):SR K H0 B Hf sd σ (upd H b o):=
 ⟨λc u q=>by rw[Zm (Z3 q hf)];exact r.sub c u q,λc u q=>by rw[Zm (Z3 q h0)];exact r.all c u q,r.ban,r.bt,r.len,r.imS,λi t e ow=>by
  obtain⟨p,e1,e2,e3,e4⟩:=r.ow i t e ow
  refine⟨p,e1,e2,e3,Gi e4 (Same.refl _) λu h=>?_⟩
  rw[Zm]
  .exact h
  .rintro rfl
   exact off i t e ow e1,r.sep⟩
def Gr.new (e:Same Hf H){b:Addr}(h:H b=none)(o:HO):Gr Hf H Hf (upd H b o):=⟨Same.refl _,e.trans (Qc h o),Qc h o,λ_ _ z=>z⟩
end
def qD (q:U7):List (List Yx×D):=q.map λp=>(p.1,D.lst p.2)
def iJ (K:PySem.W.Frag)(CF:Addr)(Fb:List D->Option U7):Sp:=λvs H Q _=>∃Hf x dx hall ppl q vh vp,vs=[.ref x,vh,vp]/\Same Hf H/\Hf x=none/\H x=some (.ins CF dx [])/\Rep K Hf hall vh/\Rep K Hf (.lst ppl) vp/\ppl.length<=1000000/\Fb ppl=some q /\
 ∀MJ H' k,Same Hf MJ->Same MJ H'->(∀b u,b≠x->H b=some u->H' b=some u)->(∀b,Lv H b->Hf b=none->b≠x->MJ b=none)->FlK K MJ x hall (qD q) k->MJ k=none->H' k=some (.dT [])->H k=none->Q .non H'
section
variable {X:Cx}{E:XK}{p p2 pos:Pos}{es:List Expr}{k:Nat}
def Hm (fs:Zg->M (List D))(sd:Zg):M (List D):=(fs sd).bind λds=>match ds with
 |[.tup xs,.tup ys]=>.ok (ia xs ys)
 |_=>.bad
def Zbk {l m:Expr}{fs:Zg->M (List D)} (hg:Gl X "zip") (hm:X.mg "zip"=none) (h:L9 X E [l,m] fs) (hs:starEach [l,m] X.env=[(false,eval l X.env),(false,eval m X.env)]:=by rfl) (hs2:starEach [m] X.env=[(false,eval m X.env)]:=by rfl):
  ah X E (.Tuple es k p2) (.Call (.Name "zip" p) [l,m] [] pos) (Hm fs):=by
 obtain⟨t,pt,q⟩:=h
 refine⟨_,Zg8 true true hg hm pt hs hs2,λH0 B Hf sd σ H R sr h=>?_⟩
 refine q H0 B Hf sd σ H _ sr (Po.bind h λds vs ML H1 _ g1 rs h1=>?_)
 split at h1
 .rename_i xs ys
  obtain⟨v,w',rfl,rv,QW⟩:=Df rs
  obtain⟨a,us,rfl,ha,hr⟩:=Qh rv
  obtain⟨b,ws,rfl,hb,je⟩:=Qh QW
  exact⟨a,b,rfl,⟨us,Kz (t:=true) g1.sub ha⟩,⟨ws,Kz (t:=true) g1.sub hb⟩,Po.ret (R:=Tt X.K) g1.sub h1 (ya (t1:=true) (t2:=true) ha hr hb je)⟩
 .exact h1.elim
end
structure Dm (K:PySem.W.Frag) (mg:Str->Option Value) (x:Str) (st:Stmt):Prop where
 ex:∃f fd,Fun K x x st f fd/\mg x=some (.ref f)
structure Mm (K:PySem.W.Frag) (C:Addr) (m q:Str) (st:Stmt):Prop where
 ex:∃f fd,OD K C m f/\Fun K m q st f fd
structure Cl (P:Program) (w:World) (K:PySem.W.Frag) (mg:Str->Option Value) (base:Heap) (n:Nat) (x:Str) (ps:List Str) (F:List D->M S):Prop where
 ex:∃f fd,MM P w K mg base Yf n f fd ps (R9 K F)/\Binds K fd ps []/\PySem.W.keepIn K (.ref f)=true/\mg x=some (.ref f)
section
variable {P:Program}{w:World}{K:PySem.W.Frag}{mg:Str->Option Value}{base:Heap}
def dm_mk {h:Heap}{x:Str}{st:Stmt}{f:Addr}{oc:Value}{od an:Option Addr}{sl:Array (Option Value)}{kV dc pm cd ct:Value}(X:K.In h)(G:h.Ns mainGlobals mg)(a:PySem.W.nsIn K mainGlobals x=some (some (.ref f)))(l:K.lookup f=some ⟨oc,od,.func (PySem.W.fnOf x x (V7 st) (Xe st) (Zf st) .none kV dc pm an cd ct),sl⟩)(c:PySem.W.codeIn K cd x=true)(k:PySem.W.keepIn K (.ref f)=true):Dm K mg x st:=⟨_,_,rB l c k,FJ X G a⟩
def mm_mk {C:Addr}{m q:Str}{st:Stmt}{f:Addr}{oc:Value}{od an:Option Addr}{sl:Array (Option Value)}{kV dc pm cd ct:Value}(a:PySem.W.findIn K (.ref C) m=some (some (.ref f)))(n:PySem.W.isFn K (.ref f)=true)(l:K.lookup f=some ⟨oc,od,.func (PySem.W.fnOf m q (V7 st) (Xe st) (Zf st) .none kV dc pm an cd ct),sl⟩)(c:PySem.W.codeIn K cd q=true)(k:PySem.W.keepIn K (.ref f)=true):Mm K C m q st:=⟨_,_,⟨a,n,k⟩,rB l c k⟩
def Dm.cl {x:Str}{st:Stmt}{n:Nat}{ps:List Str}{F:List D->M S}(d:Dm K mg x st)(hb:∀(kV doc pm:Value) (an:Option Addr) (MP ct:Value) (us:List Value),us.length=ps.length->bindArgs (PySem.W.fnOf x x (V7 st) (Xe st) (Zf st) .none kV doc pm an MP ct) ⟨us,[]⟩=pure (ps.zip us))(h:∀f fd,Fun K x x st f fd->MM P w K mg base Yf n f fd ps (R9 K F)):Cl P w K mg base n x ps F:=
 let ⟨f,fd,F,m⟩:=d.ex
 ⟨f,fd,h f fd F,F.binds hb,F.kp,m⟩
end
def Zx {X:Cx}{E:XK}{pos:Pos}{k:Nat}{ps:List Str}{F:List D->M S}{x:Str}{p:Pos}{a:Expr}{es:List Expr}{fs:Zg->M (List D)}(c:Cl X.prog X.w X.K X.mg X.base k x ps F)(hr:Room k X.A)(ha:L9 X E (a::es) fs)(hg:Gl X x:=by rfl) (QA:(x==("__debug__":Str))=false:=by decide) (he:starEach (a::es) X.env=(false,eval a X.env)::starEach es X.env:=by rfl) (ND:(backTo pos (starEach es X.env)).any (·.1)=false:=by rfl):
  Xq X E (.Call (.Name x p) (a::es) [] pos) (Zu F fs):=
 let ⟨_,_,G,b,k,m⟩:=c.ex
 Xh G hr m k b ha hg QA he ND
end DL
namespace DL
open PySem PySem.Spec PyProof.Rows L2 PySem.W
def Si (a b c:Int):Nat:=if a<b then((b-a-1)/c+1).toNat else 0
def Cw (a c:Int)(n:Nat):List Int:=(List.range n).map fun(i:Nat)=>a+(i:Int)*c
def Ol {a b c:Int}(hc:0<c):Builtin.Range.rangeSize a b c=(Si a b c:Int):=by
 unfold Builtin.Range.rangeSize Si
 rw[AD hc]
 split
 .rename_i h
  have:0<=(b-a-1)/c:=GL (by lia) (by lia)
  lia
 .rfl
def xf {a b c:Int}(hc:0<c):(Si a b c:Int)<=max 0 (b-a):=by
 unfold Si
 split
 .have h0:0<=(b-a-1)/c:=GL (by lia) (by lia)
  have h1:(b-a-1)/c<=b-a-1:=Int.ediv_le_self _ (by lia)
  lia
 .lia
def Zhs {a b c:Int}(ha:-(2 ^ 60)<=a)(ha':a<2 ^ 60)(hb:-(2 ^ 60)<=b)(SB:b<2 ^ 60)(hc:0<c)(j8:c<2 ^ 60):Builtin.Range.small a b c=true:=by
 have h:=Ol (a:=a) (b:=b) hc
 have h2:=xf (a:=a) (b:=b) hc
 unfold Builtin.Range.small
 rw[h]
 simp only[Builtin.Range.rangeFitsLong,BG,ES,HH,ET,hc,DW]
 refine⟨⟨⟨⟨?_,?_⟩,?_⟩,?_⟩,?_⟩<;>lia
def Hn {a c:Int}{n:Nat}{acc:Array Value}(h:ItemsOf (λi v=>∃t,v=Value.int (a+i*c) t) acc n):Vals ((Cw a c n).map V.int) acc.toList:=by
 obtain⟨h1,h2⟩:=h
 have:∀(l:List Value) (k:Nat),(∀j v,l[j]?=some v->∃t,v=Value.int (a+((k+j:Nat):Int)*c) t)->Vals (((List.range' k l.length).map fun(i:Nat)=>a+(i:Int)*c).map V.int) l:=by
  intro l
  induction l with
  |nil=>intro k _;exact .nil
  |cons v l ih=>
   intro k hv
   rw[AH,List.range'_succ,AM,AM]
   refine .cons ?_ (ih (k+1) λj w hj=>?_)
   .obtain⟨t,e⟩:=hv 0 v rfl
    exact⟨t,by rw[e,Nat.add_zero]⟩
   .obtain⟨t,e⟩:=hv (j+1) w (by simpa using hj)
    exact⟨t,by rw[e];congr 4;lia⟩
 have h3:=this acc.toList 0 λj v hj=>by
  rw[Nat.zero_add]
  exact h2 j v (by rw[<-JO];exact hj)
 have e:acc.toList.length=n:=by rw[DN];exact h1
 rw[e] at h3
 unfold Cw
 rw[List.range_eq_range']
 exact h3
section
variable {X:Cx}{E:XK}{pos pos' p p':Pos}{e1 e2 e3:Expr}
def lB (a b c:Int):Prop:=-(2 ^ 60)<=a/\a<2 ^ 60/\-(2 ^ 60)<=b/\b<2 ^ 60/\0<c/\c<2 ^ 60/\Si a b c<=1000000
def vy (xs:List V)(H:Hp)(Q:VK):Prop:=∃a b c:Int,xs=[.int a,.int b,.int c]/\lB a b c/\∀l,H l=none->Q (.ref l) (upd H l (.lst ((Cw a c (Si a b c)).map V.int)))
def As (a c:Int)(n:Nat):(Cw a c n).length=n:=by unfold Cw;rw[AC,BY]
def yQ {pins:List (Addr×Obj)}{s s1:Shared}{σ:L2.St}{H:Hp}{Q:VK}{a b c:Int}{t u v:Tok}{tk:Nat}(hc:X.calm=true)(I1:Inv X pins σ H s1)(ok:lB a b c)(q:∀l,H l=none->Q (.ref l) (upd H l (.lst ((Cw a c (Si a b c)).map V.int)))):
  wpAny (model X.prog X.w) X.A (call (.type "list") [.ref s1.heap.objs.size]) (EP X pins σ Q) X.xe {s1 with heap:=s1.heap.push {cls:=.type "range", data:=.fields #[.int a t,.int b u,.int c v]},toks:=tk}:=by
 obtain⟨o1,o2,o3,o4,o5,o6,o7⟩:=ok
 have I2:Inv X pins σ H {s1 with heap:=s1.heap.push {cls:=.type "range", data:=.fields #[.int a t,.int b u,.int c v]},toks:=tk}:=I1.kept λb o e=>AB _ e
 refine call_list_range (n:=Si a b c) (I1.ok.hd hc) (IsRange.new ..) (Zhs o1 o2 o3 o4 o5 o6) (Ol o5) (BA o7 (by decide)) λh' sD acc' c' kp eS kC=>?_
 refine⟨.ref _,_,I2.laid (t':=sD) (o:=.lst ((Cw a c (Si a b c)).map V.int)) kp (AQ _) ⟨?_,acc'.toList,c',Hn kC,?_⟩,rfl,q _ (I2.hok.fresh (AQ _))⟩
 .rw[AC,As,CG]
  exact BA o7 (by decide)
 .rw[Array.toArray_toList]
  exact eS
def yP {t:TA}(hc:X.calm=true) (hg:Gl X "list") (hm:X.mg "list"=none) (hv:bootBuiltins "list"=some (.type "list")) (WD:Gl X "range") (uT:X.mg "range"=none) (ha:PA X [e1,e2,e3] t)
  (he:starEach [Expr.Call (.Name "range" p') [e1,e2,e3] [] pos'] X.env=(false,eval (Expr.Call (.Name "range" p') [e1,e2,e3] [] pos') X.env)::starEach [] X.env:=by rfl) (ND:(backTo pos (starEach [] X.env)).any (·.1)=false:=by rfl)
  (XJ:starEach [e1,e2,e3] X.env=(false,eval e1 X.env)::starEach [e2,e3] X.env:=by rfl) (bE:(backTo pos' (starEach [e2,e3] X.env)).any (·.1)=false:=by rfl):
  PE X (.Call (.Name "list" p) [.Call (.Name "range" p') [e1,e2,e3] [] pos'] [] pos) (kh vy t):=by
 intro pins s σ H Q I h
 refine EF (Gz I hg hm hv ?_ (by decide) (by decide))
 refine DO ?_ he ND
 rw[he]
 show wpAny _ _ (spliced ((false,eval (Expr.Call (.Name "range" p') [e1,e2,e3] [] pos') X.env)::backTo pos (starEach [] X.env))) _ _ s
 refine EG ?_
 refine EF (Gz I WD uT boot_range ?_ (by decide) (by decide))
 refine DO (Y8 (ha pos' pins s σ H _ I h) λus s1 ⟨vs,H1,I1,r1,q1⟩=>?_) XJ bE
 obtain⟨a,b,c,rfl,ok,q⟩:=q1
 rcases r1 with _|⟨⟨ta,rfl⟩,_|⟨⟨tb,rfl⟩,_|⟨⟨tc,rfl⟩,_|_⟩⟩⟩
 have uq:c≠0:=by have:=ok.2.2.2.2.1;lia
 refine call_range_3 uq ?_ (.inl (IK (qz ?_)))
 .refine GM ?_
  exact yQ (s:=s) hc I1 ok q
 .have h1:=ok.2.2.2.2.1
  have h2:=ok.2.2.2.2.2.1
  have:(2:Nat) ^ 60<2 ^ 4000:=GR (by decide) (by decide)
  have nY:(2:Int) ^ 60=((2 ^ 60:Nat):Int):=by decide
  lia
def fK (a b c:Int):Bool:=decide (-(2 ^ 60)<=a/\a<2 ^ 60/\-(2 ^ 60)<=b/\b<2 ^ 60/\0<c/\c<2 ^ 60/\Si a b c<=1000000)
def yN {a b c:Int}(h:fK a b c=true):lB a b c:=by
 unfold fK at h
 have:=BS h
 exact this
def k8:List D->M D
 |[.int a,.int b,.int c]=>if fK a b c=true then .ok (.lst ((Cw a c (Si a b c)).map D.int)) else .bad
 |_=>.bad
def lI (fs:Zg->M (List D))(sd:Zg):M D:=(fs sd).bind k8
theorem NZ {K:Frag}{H:Hp}:∀l:List Int,Reps K H (l.map D.int) (l.map V.int)
 |[]=>Reps.nil
 |i::l=>Reps.cons (rep_int.mpr rfl) (NZ l)
def yk {fs:Zg->M (List D)}(hc:X.calm=true) (z1:X.mg "list"=none) (z2:X.mg "range"=none) (h:L9 X E [e1,e2,e3] fs) (hg:Gl X "list":=by rfl) (WD:Gl X "range":=by rfl)
  (he:starEach [Expr.Call (.Name "range" p') [e1,e2,e3] [] pos'] X.env=(false,eval (Expr.Call (.Name "range" p') [e1,e2,e3] [] pos') X.env)::starEach [] X.env:=by rfl) (ND:(backTo pos (starEach [] X.env)).any (·.1)=false:=by rfl)
  (XJ:starEach [e1,e2,e3] X.env=(false,eval e1 X.env)::starEach [e2,e3] X.env:=by rfl) (bE:(backTo pos' (starEach [e2,e3] X.env)).any (·.1)=false:=by rfl):
  Xq X E (.Call (.Name "list" p) [.Call (.Name "range" p') [e1,e2,e3] [] pos'] [] pos) (lI fs):=by
 obtain⟨t,pt,qt⟩:=h
 refine⟨_,yP hc hg z1 (by rfl) WD z2 pt he ND XJ bE,λH0 B Hf sd σ H Q sr h=>?_⟩
 refine qt H0 B Hf sd σ H _ sr (Po.bind h λds vs ML H1 _ g1 rs h1=>?_)
 have hlen:=rs.length
 unfold k8 at h1
 split at h1
 .split at h1
  .rename_i a b c _ hb
   obtain⟨x,_,rfl,r1,rs⟩:=reps_cons.mp rs
   obtain⟨y,_,rfl,r2,rs⟩:=reps_cons.mp rs
   obtain⟨z,_,rfl,r3,rs⟩:=reps_cons.mp rs
   cases reps_nil.mp rs
   cases rep_int.mp r1
   cases rep_int.mp r2
   cases rep_int.mp r3
   exact⟨a,b,c,rfl,yN hb,λl hl=>h1 _ _ _ (Gr.alloc g1.sub hl _) (Gr.lst g1.sub hl (NZ _))⟩
  .exact h1.elim
 .exact h1.elim
end
def Zbl {X:Cx}{E:XK}{pos:Pos}{k:Nat}{ps:List Str}{F:List D->M S}{x:Str}{p:Pos}{a:Expr}{es:List Expr}{fs:Zg->M (List D)}(c:Cl X.prog X.w X.K X.mg X.base k x ps F)(hr:Room k X.A)(ha:L9 X E (a::es) fs)(hg:Gl X x:=by rfl) (QA:(x==("__debug__":Str))=false:=by decide) (he:starEach (a::es) X.env=(false,eval a X.env)::starEach es X.env:=by rfl) (ND:(backTo pos (starEach es X.env)).any (·.1)=false:=by rfl):
  cA X E (.Call (.Name x p) (a::es) [] pos) (Do F fs):=
 let ⟨_,_,G,b,k,m⟩:=c.ex
 Zdm G hr m k b ha hg QA he ND
def D8 {X:Cx}{E:XK}{pos:Pos}{k:Nat}{ps:List Str}{F:List D->M S}{x:Str}{p:Pos}{a:Expr}{es:List Expr}{fs:Zg->M (List D×Zg)}(c:Cl X.prog X.w X.K X.mg X.base k x ps F)(hr:Room k X.A)(ha:fj X E (a::es) fs)(hg:Gl X x:=by rfl) (QA:(x==("__debug__":Str))=false:=by decide) (he:starEach (a::es) X.env=(false,eval a X.env)::starEach es X.env:=by rfl) (ND:(backTo pos (starEach es X.env)).any (·.1)=false:=by rfl):
  b8 X E (.Call (.Name x p) (a::es) [] pos) (Bk F fs):=
 let ⟨_,_,G,b,k,m⟩:=c.ex
 Zhf G hr m k b ha hg QA he ND
end DL
namespace Law
open PySem L2 DL
def top (i:Nat):Stmt:=PySem.Challenge.pw_selfsight_k27_whole_one_person_more.main.body.getD i (.Pass ⟨0,0,0,0⟩)
abbrev Kr:Stmt:=top 1
abbrev Lf:Stmt:=top 2
abbrev Au:Stmt:=top 3
abbrev Nk:Stmt:=top 6
abbrev U8:Stmt:=top 7
abbrev Vw:Stmt:=top 8
abbrev Av:Stmt:=top 9
abbrev Jy:Stmt:=top 10
abbrev W4:Stmt:=top 14
abbrev K4:Stmt:=top 15
abbrev Rr:Stmt:=top 16
abbrev Vx:Stmt:=top 17
abbrev U9:Stmt:=top 18
abbrev Nl:Stmt:=top 19
abbrev Up:Stmt:=top 20
abbrev W5:Stmt:=top 21
abbrev Q6:Stmt:=top 22
abbrev Ho:Stmt:=top 23
abbrev Yj:Stmt:=top 25
abbrev Kh:Stmt:=top 26
abbrev Lg:Stmt:=top 27
abbrev Vy:Stmt:=top 28
abbrev X4:Stmt:=top 29
abbrev Lh:Stmt:=top 31
abbrev W6:Stmt:=top 32
abbrev Nm:Stmt:=top 33
abbrev Nn:Stmt:=top 34
abbrev Li:Stmt:=top 35
abbrev Lj:Stmt:=top 36
abbrev Lk:Stmt:=top 37
abbrev No:Stmt:=top 38
abbrev Ll:Stmt:=top 39
abbrev Aw:Stmt:=top 40
abbrev Lm:Stmt:=top 41
abbrev Y3:Stmt:=top 42
abbrev Jz:Stmt:=top 43
abbrev Np:Stmt:=top 44
abbrev Uq:Stmt:=top 45
abbrev Ln:Stmt:=top 46
abbrev Yq:Stmt:=top 47
abbrev Pq:Stmt:=top 48
abbrev Ve:Stmt:=Pg (top 12) 0
abbrev W7:Stmt:=Pg (top 12) 1
abbrev Wa:Stmt:=Pg (top 12) 2
abbrev Wb:Stmt:=Pg (top 13) 0
abbrev Wc:Stmt:=Pg (top 13) 1
abbrev Nq:Stmt:=Pg (top 13) 2
abbrev Rs:Stmt:=Pg (top 13) 3
abbrev Ax:Stmt:=Pg (top 13) 4
abbrev W8:Stmt:=Pg (top 13) 5
section
variable {P:Program}{w:World}{K:PySem.W.Frag}{mg:Str->Option Value}{base:Heap}
noncomputable def Jb:List D->M S:=V5 2 3
  (Zz (Qa 2 (K6 Wt (Zc (Zd 0) Zj)))
   (Zz (Qa 3 (K6 Wt (Zc (Zd 1) Zj)))
   (Zz (Nb (tB (Zn Gv (Zd 3) ↑0)) (Zz (Qa 4 (Zn Q7 (Zd 2) (Zd 3)))
   (Zz (Qa 2 (Zd 3))
   (Qa 3 (Zd 4)))))
   (Qs (Zd 2)))))
def sc_common_divisor:MK ["one","other","greater","lesser","rest"] ["one","other"] (Zf Kr):=⟨rfl,rfl,rfl,by decide +kernel,rfl,by decide +kernel,by decide +kernel⟩
def Pr (d:Dm K mg "common_divisor" Kr) (NA:mg "abs"=none):Cl P w K mg base 1 "common_divisor" ["one","other"] Jb:=
 d.cl (by trivial) λ_ _ F=>Jl F sc_common_divisor rfl rfl λMP A outer s H E hr=>
  (Zh (Zs 2 sc_common_divisor.nd (Qr Na (by rfl) NA (by rfl) (Za (Zb 0) Ze)))
   (Zh (Zs 3 sc_common_divisor.nd (Qr Na (by rfl) NA (by rfl) (Za (Zb 1) Ze)))
   (Zh (M9 BN (Z0 (Wy hr.units) (Zb 3) Zi (Z4 _)) (Zh (Zs 4 sc_common_divisor.nd (Zp Yg (Zb 2) (Zb 3)))
   (Zh (Zs 2 sc_common_divisor.nd (Zb 3))
   (Zl (Zs 3 sc_common_divisor.nd (Zb 4))))))
   (Zl (Zv (Zb 2))))))
noncomputable def Ki:List D->M S:=V5 2 1
  (Zz (Qa 2 (Zu Jb (Zc (Zd 0) (Zc (Zd 1) Zj))))
   (Qs (Q0 (Zc (Zn Yz (Zd 0) (Zd 2)) (Zc (Zn Yz (Zd 1) (Zd 2)) Zj)))))
def sc_amount:MK ["top","bottom","divisor"] ["top","bottom"] (Zf Lf):=⟨rfl,rfl,rfl,by decide +kernel,rfl,by decide +kernel,by decide +kernel⟩
def Zbm (d:Dm K mg "amount" Lf) (NC:Cl P w K mg base 1 "common_divisor" ["one","other"] Jb):Cl P w K mg base 2 "amount" ["top","bottom"] Ki:=
 d.cl (by trivial) λ_ _ F=>Jl F sc_amount rfl rfl λMP A outer s H E hr=>
  (Zh (Zs 2 sc_amount.nd (Zx NC hr.m (Za (Zb 0) (Za (Zb 1) Ze))))
   (Zl (Zv (Qi (Za (Zp Xf (Zb 0) (Zb 2)) (Za (Zp Xf (Zb 1) (Zb 2)) Ze))))))
noncomputable def Vf:List D->M S:=V5 2 0
  (Qs (Zn Mf (Zn Zt 0[0]! 1[1]!) (Zn Zt 1[0]! 0[1]!)))
def Zeo:MK ["one","other"] ["one","other"] (Zf Au):=⟨rfl,rfl,rfl,by decide +kernel,rfl,by decide +kernel,by decide +kernel⟩
def Zep (d:Dm K mg "below" Au)  : Cl P w K mg base 1 "below" ["one","other"] Vf:=
 d.cl (by trivial) λ_ _ F=>Jl F Zeo rfl rfl λMP A outer s H E hr=>
  (Zl (Zv (Ko N7 (Zp Z2 (Zy (Zb 0)) (Zy (Zb 1))) (Zp Z2 (Zy (Zb 1)) (Zy (Zb 0))) (Z4 _))))
noncomputable def Wd:List D->M S:=V5 1 0
  (Qs (Re (cC "int" (Zd 0)) (oN (cC "bool" (Zd 0)))))
def D9:MK ["value"] ["value"] (Zf Nk):=⟨rfl,rfl,rfl,by decide +kernel,rfl,by decide +kernel,by decide +kernel⟩
def Ea (d:Dm K mg "is_whole" Nk) (MO:mg "isinstance"=none) (PL:mg "int"=none) (QE:mg "bool"=none):Cl P w K mg base 1 "is_whole" ["value"] Wd:=
 d.cl (by trivial) λ_ _ F=>Jl F D9 rfl rfl λMP A outer s H E hr=>
  (Zl (Zv (Tp (Gk "int" (by rfl) MO PL (by rfl) (by rfl) (Zb 0)) (Ah (zP (Gk "bool" (by rfl) MO QE (by rfl) (by rfl) (Zb 0)))))))
noncomputable def Xn:List D->M S:=V5 3 0
  (Qs (Re (Zu Wd (Zc (Zd 0) Zj)) (Re (Zn kr (Zd 1) (Zd 0)) (Zn kr (Zd 0) (Zd 2)))))
def Mi:MK ["value","least","greatest"] ["value","least","greatest"] (Zf U8):=⟨rfl,rfl,rfl,by decide +kernel,rfl,by decide +kernel,by decide +kernel⟩
def Mj (d:Dm K mg "is_from_to" U8) (OQ:Cl P w K mg base 1 "is_whole" ["value"] Wd):Cl P w K mg base 2 "is_from_to" ["value","least","greatest"] Xn:=
 d.cl (by trivial) λ_ _ F=>Jl F Mi rfl rfl λMP A outer s H E hr=>
  (Zl (Zv (Tp (Zx OQ hr.m (Za (Zb 0) Ze)) (Tp (Ko pW (Zb 1) (Zb 0) (Z4 _)) (Ah (Ko pW (Zb 0) (Zb 2) (Z4 _)))))))
noncomputable def X5:List D->M S:=V5 5 2
  (Zz (Qa 5 (Cu (tB (Zn Kp (Zd 2) ↑"up")) (Zd 3) (Zd 4)))
   (Zz (Qa 6 (Cu (tB (Zn Kp (Zd 2) ↑"up")) (Zd 0) (Zd 1)))
   (Zz (Js (tB (Zn Kp (Zd 5) ↑0)) (Qs ↑3) Yp)
   (Zz (Js (tB (Zn Kp (Zd 5) (Zd 6))) (Qs ↑4) Yp)
   (Qs (eC .non))))))
def sc_outward_face:MK ["width","height","kind","x","y","line","last"] ["width","height","kind","x","y"] (Zf Vw):=⟨rfl,rfl,rfl,by decide +kernel,rfl,by decide +kernel,by decide +kernel⟩
def Sv (d:Dm K mg "outward_face" Vw)  : Cl P w K mg base 1 "outward_face" ["width","height","kind","x","y"] X5:=
 d.cl (by trivial) λ_ _ F=>Jl F sc_outward_face rfl rfl λMP A outer s H E hr=>
  (Zh (Zs 5 sc_outward_face.nd (Kv (Z0 (Y2 hr.units) (Zb 2) Qw (Z4 _)) (Zb 3) (Zb 4)))
   (Zh (Zs 6 sc_outward_face.nd (Kv (Z0 (Y2 hr.units) (Zb 2) Qw (Z4 _)) (Zb 0) (Zb 1)))
   (Zh (Ql (Z0 (Y2 hr.units) (Zb 5) Zi (Z4 _)) (Zl (Zv Zi)) Qd)
   (Zh (Ql (Z0 (Y2 hr.units) (Zb 5) (Zb 6) (Z4 _)) (Zl (Zv Zi)) Qd)
   (Zl (Zv Kb))))))
noncomputable def Qp:List D->M S:=V5 4 1
  (Zz (Ke (Kl 0[2]!) (Xd 4) (Js (tB (Zn Kp (Bb (Zd 4) K5 (Xv ↑3)) (Q0 (Zc (Zd 1) (Zc (Zd 2) (Zc (Zd 3) Zj)))))) (Qs (Bb (Zd 4) (Xv ↑3) K5)) Yp))
   (Zz (Js (tB (Zn ie (Zu X5 (Zc 0[0]! (Zc 0[1]! (Zc (Zd 1) (Zc (Zd 2) (Zc (Zd 3) Zj)))))) (eC .non))) (Qs (eC .non)) Yp)
   (Qs (Q0 (Zc ↑"p" (Zc ↑"p" Zj))))))
def sc_faces:MK ["hall","kind","x","y","side"] ["hall","kind","x","y"] (Zf Av):=⟨rfl,rfl,rfl,by decide +kernel,rfl,by decide +kernel,by decide +kernel⟩
def Zeq (d:Dm K mg "faces" Av) (NJ:Cl P w K mg base 1 "outward_face" ["width","height","kind","x","y"] X5):Cl P w K mg base 2 "faces" ["hall","kind","x","y"] Qp:=
 d.cl (by trivial) λ_ _ F=>Jl F sc_faces rfl rfl λMP A outer s H E hr=>
  (Zh (Xm BN rfl (Xw (Zy (Zb 0))) (Z5 4 sc_faces.nd) (Zl (Ql (Z0 (Y2 hr.units) (Kw (Zb 4) Vp (Kd Zi)) (Qi (Za (Zb 1) (Za (Zb 2) (Za (Zb 3) Ze)))) (Z4 _)) (Zl (Zv (Kw (Zb 4) (Kd Zi) Vp))) Qd)))
   (Zh (Ql (Z0 qp (Zx NJ hr.m (Za (Zy (Zb 0)) (Za (Zy (Zb 0)) (Za (Zb 1) (Za (Zb 2) (Za (Zb 3) Ze)))))) Kb (Z4 _)) (Zl (Zv Kb)) Qd)
   (Zl (Zv (Qi (Za Qw (Za Qw Ze)))))))
noncomputable def Ug:List D->M S:=V5 3 3
  (Zz (Qa 3 0[0]!)
   (Zz (Qa 4 0[1]!)
   (Zz (Js (tO (tN (tB (Zu Xn (Zc (Zd 1) (Zc ↑0 (Zc (Zd 3) Zj)))))) (tN (tB (Zu Xn (Zc (Zd 2) (Zc ↑0 (Zc (Zd 4) Zj))))))) (Qs (eC (.bl false))) Yp)
   (Zz (Js (tO (tB (Zn aL (Zd 1) (Q0 (Zc ↑0 (Zc (Zd 3) Zj))))) (tB (Zn aL (Zd 2) (Q0 (Zc ↑0 (Zc (Zd 4) Zj)))))) (Qs (eC (.bl true))) Yp)
   (Zz (Qa 5 (Jk (Zc (Q0 (Zc ↑"up" (Zc (Zd 1) (Zc (Zn Vl (Zd 2) ↑1) Zj)))) (Zc (Q0 (Zc ↑"up" (Zc (Zd 1) (Zc (Zd 2) Zj)))) (Zc (Q0 (Zc ↑"flat" (Zc (Zn Vl (Zd 1) ↑1) (Zc (Zd 2) Zj)))) (Zc (Q0 (Zc ↑"flat" (Zc (Zd 1) (Zc (Zd 2) Zj)))) Zj))))))
   (Qs (K6 ff (Zc (Um (Kx (Kl 0[2]!) 1 [5] (Xd 0) (Zn aL (Bb (Zd 0) K5 (Xv ↑3)) (Zd 1)))) Zj))))))))
def sc_is_corner:MK ["hall","x","y","width","height","edges"] ["hall","x","y"] (Zf Jy):=⟨rfl,rfl,rfl,by decide +kernel,rfl,by decide +kernel,by decide +kernel⟩
def Ay (d:Dm K mg "is_corner" Jy) (NH:Cl P w K mg base 2 "is_from_to" ["value","least","greatest"] Xn) (PM:mg "any"=none):Cl P w K mg base 3 "is_corner" ["hall","x","y"] Ug:=
 d.cl (by trivial) λ_ _ F=>Jl F sc_is_corner rfl rfl λMP A outer s H E hr=>
  (Zh (Zs 3 sc_is_corner.nd (Zy (Zb 0)))
   (Zh (Zs 4 sc_is_corner.nd (Zy (Zb 0)))
   (Zh (Ql ((Wv (K7 (Xg (Zx NH hr.m (Za (Zb 1) (Za Zi (Za (Zb 3) Ze)))))) (V8 (K7 (Xg (Zx NH hr.m (Za (Zb 2) (Za Zi (Za (Zb 4) Ze))))))))).pt (Zl (Zv Wr)) Qd)
   (Zh (Ql ((Wv (Z0 (lX (by exact hr.units)) (Zb 1) (Qi (Za Zi (Za (Zb 3) Ze))) (by with_unfolding_all rfl)) (V8 (Z0 (lX (by exact hr.units)) (Zb 2) (Qi (Za Zi (Za (Zb 4) Ze))) (by with_unfolding_all rfl))))).pt (Zl (Zv Wr)) Qd)
   (Zh (Zs 5 sc_is_corner.nd (X1 (Za (Qi (Za Qw (Za (Zb 1) (Za (Zp Kc (Zb 2) Zi) Ze)))) (Za (Qi (Za Qw (Za (Zb 1) (Za (Zb 2) Ze)))) (Za (Qi (Za Qw (Za (Zp Kc (Zb 1) Zi) (Za (Zb 2) Ze)))) (Za (Qi (Za Qw (Za (Zb 1) (Za (Zb 2) Ze)))) Ze))))))
   (Zl (Zv (Qr (qv rfl) (by rfl) PM (by rfl) (Za (Nd (Ky (Nc:=["side","edges"]) rfl (Jt (λy hy hf=>Yo (Uo (sc:=Zf Jy) (by decide +kernel) y hy hf))) (F3 (sc:=Zf Jy) rfl rfl (by decide +kernel) (Uo (by decide +kernel)) (λy hy hf=>Yo (Uo (sc:=Zf Jy) (by decide +kernel) y hy hf)) rfl (U5 (N:=["hall","x","y","width","height","edges"]) rfl (by decide +kernel))) rfl (by decide +kernel) (by decide +kernel) (Ja (by decide)) (Xw (Zy (Zb 0))) (λs3 H3 C ex=>Z5 0 (show(["side","edges"]:List Str).Nodup by decide +kernel)) (λs3 H3 C ex=>(Ko (lX (by exact hr.units)) (Kw (Zb 0) Vp (Kd Zi)) (Zb 1) (by with_unfolding_all rfl))))) Ze)))))))))
noncomputable def Xk:List D->M S:=V5 1 0
  (Qs (Zn Yz 0[0]! 0[1]!))
def Az:MK ["place"] ["place"] (Zf W4):=⟨rfl,rfl,rfl,by decide +kernel,rfl,by decide +kernel,by decide +kernel⟩
def A0 (d:Dm K mg "square_of" W4)  : Cl P w K mg base 1 "square_of" ["place"] Xk:=
 d.cl (by trivial) λ_ _ F=>Jl F Az rfl rfl λMP A outer s H E hr=>
  (Zl (Zv (Zp Xf (Zy (Zb 0)) (Zy (Zb 0)))))
noncomputable def Xr:List D->M S:=V5 2 3
  (Zz (Qa 2 ↑1)
   (Zz (Ke (Hm (Zc (Zd 0) (Zc (Zd 1) Zj))) (Wh 2 (Q8 (Xd 3) (Q8 (Xd 4) Ww))) (Qa 2 (Zn Zt (Zn Zt (Zd 2) 3[1]!) (K6 D5 (Zc ↑1 (Zc (K6 Wt (Zc 4[0]! Zj)) Zj))))))
   (Qs (Zd 2))))
def sc_whole_time_of:MK ["point","step","time","begin","part"] ["point","step"] (Zf K4):=⟨rfl,rfl,rfl,by decide +kernel,rfl,by decide +kernel,by decide +kernel⟩
def Rt (d:Dm K mg "whole_time_of" K4) (SC:mg "zip"=none) (NA:mg "abs"=none) (SE:mg "max"=none):Cl P w K mg base 1 "whole_time_of" ["point","step"] Xr:=
 d.cl (by trivial) λ_ _ F=>Jl F sc_whole_time_of rfl rfl λMP A outer s H E hr=>
  (Zh (Zs 2 sc_whole_time_of.nd Zi)
   (Zh (Xm BN rfl (Zbk (by rfl) SC (Za (Zb 0) (Za (Zb 1) Ze))) (Gj rfl (Q5 (Z5 3 sc_whole_time_of.nd) (Q5 (Z5 4 sc_whole_time_of.nd) Uu))) (Zl (Zs 2 sc_whole_time_of.nd (Zp Z2 (Zp Z2 (Zb 2) (Zy (Zb 3))) (Qr (Zhn rfl) (by rfl) SE (by rfl) (Za Zi (Za (Qr Na (by rfl) NA (by rfl) (Za (Zy (Zb 4)) Ze)) Ze)))))))
   (Zl (Zv (Zb 2)))))
noncomputable def Jn:List D->M S:=V5 3 0
  (Zz (Js (tB (Zn Kp (Zd 0) ↑"corner")) (Qs ↑"corner") Yp)
   (Zz (Js (tB (Zd 1)) (Qs ↑"end") Yp)
   (Zz (Js (tB (Zn Kp (Zd 0) ↑"p")) (Qs ↑"plain") Yp)
   (Zz (Js (tA (tB (Zn Kp (Zd 0) ↑"m")) (tN (tB (Zd 2)))) (Qs ↑"many") Yp)
   (Qs (eC .non))))))
def Lo:MK ["thing","is_over","may_turn"] ["thing","is_over","may_turn"] (Zf Up):=⟨rfl,rfl,rfl,by decide +kernel,rfl,by decide +kernel,by decide +kernel⟩
def Lp (d:Dm K mg "how_it_ends" Up)  : Cl P w K mg base 1 "how_it_ends" ["thing","is_over","may_turn"] Jn:=
 d.cl (by trivial) λ_ _ F=>Jl F Lo rfl rfl λMP A outer s H E hr=>
  (Zh (Ql (Z0 (Y2 hr.units) (Zb 0) Qw (Z4 _)) (Zl (Zv Qw)) Qd)
   (Zh (Ql (Xg (Zb 1)) (Zl (Zv Qw)) Qd)
   (Zh (Ql (Z0 (Y2 hr.units) (Zb 0) Qw (Z4 _)) (Zl (Zv Qw)) Qd)
   (Zh (Ql ((V9 (Z0 (Y2 hr.units) (Zb 0) Qw (Z4 _)) (Vn (K7 (Xg (Zb 2)))))).pt (Zl (Zv Qw)) Qd)
   (Zl (Zv Kb))))))
end
section
variable {P:Program}{w:World}{K:PySem.W.Frag}{mg:Str->Option Value}{base:Heap}
def A3:MK ["self"] ["self"] (Zf W8):=⟨rfl,rfl,rfl,by decide +kernel,rfl,by decide +kernel,by decide +kernel⟩
noncomputable def W9:Qy->List D->Option Qy:=ZE 0 0 (Vu (Rp "heading" (nu Pf (Wm "heading"))) (fX "due" (Wm "lap")))
def A4 {f:Addr}{fd:FuncData}{C:Addr} (F:Fun K "turn_back" "Track.turn_back" W8 f fd) (tc:WA K C):MM P w K mg base Yf 1 f fd ["self"] (Ss K C W9):=
 iM F A3 rfl rfl λMP A outer s H E hr=>(X3 (Vc tc.oc.cls tc.n3 (yU Ng (U6 tc.oc.cls tc.n3))) (Uf (Ar tc.oc.cls tc.n4 (U6 tc.oc.cls tc.n5))))
def Zer:MK ["self"] ["self"] (Zf Ax):=⟨rfl,rfl,rfl,by decide +kernel,rfl,by decide +kernel,by decide +kernel⟩
noncomputable def A5:Qy->List D->Option Qy:=ZE 0 0 (Vu (fX "square" (Wm "heading")) (fX "due" (Wm "lap")))
def Zes {f:Addr}{fd:FuncData}{C:Addr} (F:Fun K "go_on" "Track.go_on" Ax f fd) (tc:WA K C):MM P w K mg base Yf 1 f fd ["self"] (Ss K C A5):=
 iM F Zer rfl rfl λMP A outer s H E hr=>(X3 (Ar tc.oc.cls tc.n2 (U6 tc.oc.cls tc.n3)) (Uf (Ar tc.oc.cls tc.n4 (U6 tc.oc.cls tc.n5))))
def A6:MK ["track","now","thing"] ["track","now","thing"] (Zf W5):=⟨rfl,rfl,rfl,by decide +kernel,rfl,by decide +kernel,by decide +kernel⟩
noncomputable def F_pass_line:Qy->List D->Option Qy:=ZE 2 0 (ZF (gB (Fi Kp (Wm "due") (Vb (Zd 1)))) (ZF (λsd _=>DL.tB (Zn Kp (Zd 2) ↑"m") sd) (Od "turn_back" W9) (Od "go_on" A5)) lD)
def A7 {f:Addr}{fd:FuncData}{C f1 f2:Addr}{OB OR:FuncData} (F:Fun K "pass_line" "pass_line" W5 f fd) (tc:WA K C) (m1:OD K C "turn_back" f1) (G1:MM P w K mg base Yf 1 f1 OB ["self"] (Ss K C W9)) (b1:Binds K OB ["self"] []) (m2:OD K C "go_on" f2) (G2:MM P w K mg base Yf 1 f2 OR ["self"] (Ss K C A5)) (b2:Binds K OR ["self"] []):
  MM P w K mg base Yf 2 f fd ["track","now","thing"] (Ss K C F_pass_line):=
 iM F A6 rfl rfl λMP A outer s H E hr=>(Uf (Hi (Oe (Y2 hr.units) (U6 tc.oc.cls tc.n4) (Xy (Zb 1)) (Z4 _)) (Uf (Hi (Of (Z0 (Y2 hr.units) (Zb 2) Qw (Z4 _))) (Uf (D3 tc.oc.cls m1 G1 hr.m b1)) (Uf (D3 tc.oc.cls m2 G2 hr.m b2)))) Og))
def sc_Track_init:MK ["self","begin","part","whole_time","behind","left"] ["self","begin","part","whole_time"] (Zf Wb):=⟨rfl,rfl,rfl,by decide +kernel,rfl,by decide +kernel,by decide +kernel⟩
noncomputable def Kj:Qy->List D->Option Qy:=ZE 3 2
 (Vu (Rp "begin" (Vb (Zd 1)))
 (Vu (Rp "square" (Vb (Zu Xk (Zc (Zd 1) Zj))))
 (Vu (Rp "heading" (Vb ↑0))
 (Vu (Rp "due" (Vb (Zn Z8 (Zd 3) ↑1)))
 (Vu (Rp "lap" (Vb ↑0))
 (ZF (λsd _=>DL.tB (Zn Gv 2[0]! ↑0) sd)
  (Vu (Rp "heading" (Vb (Cu (DL.tB (Zn N6 2[0]! ↑0)) ↑1 (Dv Pf ↑1))))
  (Vu (Rp "lap" (Vb (Zn Zt 2[1]! (Zn Yz (Zd 3) (K6 Wt (Zc 2[0]! Zj))))))
  (Vu (dC 4 (Vb (Zn Q7 1[0]! 1[1]!)))
  (Vu (dC 5 (iN (gB (Fi N6 (Wm "heading") (Vb ↑0))) (Vb (Zn Vl 1[1]! (Zd 4))) (Vb (Zd 4))))
   (Rp "due" (Fi Zt (Vb (Zd 5)) (Fi Yz (Wm "lap") (Vb 1[1]!)))))))) lD))))))
def Ml {f:Addr}{fd:FuncData}{C:Addr} (F:Fun K "__init__" "Track.__init__" Wb f fd) (tc:WA K C) {f1:Addr}{OB:FuncData} (G1:MM P w K mg base Yf 1 f1 OB ["place"] (R9 K Xk)) (b1:Binds K OB ["place"] []) (k1:PySem.W.keepIn K (.ref f1)=true) (m1:mg "square_of"=some (.ref f1)) (NA:mg "abs"=none):
  MM P w K mg base Yf 2 f fd ["self","begin","part","whole_time"] (Ss K C Kj):=
 iM F sc_Track_init rfl rfl λMP A outer s H E hr=>
  (X3 (Vc tc.oc.cls tc.n1 (Xy (Zb 1)))
  (X3 (Vc tc.oc.cls tc.n2 (Xy (Xh G1 hr.m m1 k1 b1 (Za (Zb 1) Ze))))
  (X3 (Vc tc.oc.cls tc.n3 (Xy Zi))
  (X3 (Vc tc.oc.cls tc.n4 (Xy (Zp Qf (Zb 3) Zi)))
  (X3 (Vc tc.oc.cls tc.n5 (Xy Zi))
  (Uf (Hi (Of (Z0 (Wy hr.units) (Zy (Zb 2)) Zi (Z4 _)))
   (X3 (Vc tc.oc.cls tc.n3 (Xy (Kv (Z0 N8 (Zy (Zb 2)) Zi (Z4 _)) Zi (Bd Ng Zi))))
   (X3 (Vc tc.oc.cls tc.n5 (Xy (Zp Z2 (Zy (Zb 2)) (Zp Xf (Zb 3) (Qr Na (by rfl) NA (by rfl) (Za (Zy (Zb 2)) Ze))))))
   (X3 (Oh 4 sc_Track_init.nd (Xy (Zp Yg (Zy (Zb 1)) (Zy (Zb 1)))))
   (X3 (Oh 5 sc_Track_init.nd (yT (Oe N8 (U6 tc.oc.cls tc.n3) (Xy Zi) (Z4 _)) (Xy (Zp Kc (Zy (Zb 1)) (Zb 4))) (Xy (Zb 4))))
   (Uf (Vc tc.oc.cls tc.n4 (qV Z2 (Xy (Zb 5)) (qV Xf (U6 tc.oc.cls tc.n5) (Xy (Zy (Zb 1))))))))))) Og)))))))
def Mn:MK ["self"] ["self"] (Zf Wc):=⟨rfl,rfl,rfl,by decide +kernel,rfl,by decide +kernel,by decide +kernel⟩
noncomputable def Qq:List S->M S:=Oc 1 0 (Qs (Cu (DL.tB (Zn N6 (Yh 0 "Track" "heading") ↑0)) (Zn Z8 (Yh 0 "Track" "square") ↑1) (Yh 0 "Track" "square")))
def Mo {f:Addr}{fd:FuncData}{C:Addr} (F:Fun K "line_ahead" "Track.line_ahead" Wc f fd) (tc:WA K C):MM P w K mg base Yf 1 f fd ["self"] (Sh K Qq):=
 Hc F Mn rfl rfl λMP A outer s H E hr=>
  (Zl (Zv (Kv (Z0 N8 (Qv 0 tc.oc tc.n3) Zi (Z4 _)) (Zp Qf (Qv 0 tc.oc tc.n2) Zi) (Qv 0 tc.oc tc.n2))))
end
section
variable {P:Program}{w:World}{K:PySem.W.Frag}{mg:Str->Option Value}{base:Heap}
def Eb:MK ["self","time"] ["self","time"] (Zf Nq):=⟨rfl,rfl,rfl,by decide +kernel,rfl,by decide +kernel,by decide +kernel⟩
noncomputable def Yu:List S->M S:=Oc 2 0
 (Zz (Js (DL.tB (Zn Kp (Yh 0 "Track" "heading") ↑0)) (Qs (Yh 0 "Track" "begin")) Yp)
  (Qs (Zu Ki (Zc (Zn Vl (Zn Zt (X2 0 "Track" "line_ahead" Qq Zj) (Yh 0 "Track" "lap")) (Zn Zt (Yh 0 "Track" "heading") (Zn Vl (Yh 0 "Track" "due") (Zd 1)))) (Zc (Yh 0 "Track" "lap") Zj)))))
def Ec {f:Addr}{fd:FuncData}{C:Addr} (F:Fun K "place_at" "Track.place_at" Nq f fd) (tc:WA K C) {f1 f2:Addr}{OB OR:FuncData}
  (m1:OD K C "line_ahead" f1) (G1:MM P w K mg base Yf 1 f1 OB ["self"] (Sh K Qq)) (b1:Binds K OB ["self"] [])
  (G2:MM P w K mg base Yf 2 f2 OR ["top","bottom"] (R9 K Ki)) (b2:Binds K OR ["top","bottom"] []) (k2:PySem.W.keepIn K (.ref f2)=true) (m2:mg "amount"=some (.ref f2)):MM P w K mg base Yf 3 f fd ["self","time"] (Sh K Yu):=
 Hc F Eb rfl rfl λMP A outer s H E hr=>
  (Zh (Ql (Z0 (Y2 hr.units) (Qv 0 tc.oc tc.n3) Zi (Z4 _)) (Zl (Zv (Qv 0 tc.oc tc.n1))) Qd)
   (Zl (Zv (Xh G2 hr.m m2 k2 b2 (Za (Zp Kc (Zp Z2 (Vj 0 tc.oc m1 G1 hr.m b1) (Qv 0 tc.oc tc.n5)) (Zp Z2 (Qv 0 tc.oc tc.n3) (Zp Kc (Qv 0 tc.oc tc.n4) (Zb 1)))) (Za (Qv 0 tc.oc tc.n5) Ze))))))
def sc_time_at:MK ["self","place","left"] ["self","place"] (Zf Rs):=⟨rfl,rfl,rfl,by decide +kernel,rfl,by decide +kernel,by decide +kernel⟩
noncomputable def Vk:List S->M S:=Oc 2 1
 (Zz (Qa 2 (Zn Zt (Yh 0 "Track" "heading") (Zn Vl (Zn Zt (X2 0 "Track" "line_ahead" Qq Zj) 1[1]!) 1[0]!)))
  (Qs (Zu Ki (Zc (Zn Vl (Zn Zt (Yh 0 "Track" "due") 1[1]!) (Zn Zt (Zd 2) (Yh 0 "Track" "lap"))) (Zc 1[1]! Zj)))))
def Hq {f:Addr}{fd:FuncData}{C:Addr} (F:Fun K "time_at" "Track.time_at" Rs f fd) (tc:WA K C) {f1 f2:Addr}{OB OR:FuncData}
  (m1:OD K C "line_ahead" f1) (G1:MM P w K mg base Yf 1 f1 OB ["self"] (Sh K Qq)) (b1:Binds K OB ["self"] [])
  (G2:MM P w K mg base Yf 2 f2 OR ["top","bottom"] (R9 K Ki)) (b2:Binds K OR ["top","bottom"] []) (k2:PySem.W.keepIn K (.ref f2)=true) (m2:mg "amount"=some (.ref f2)):MM P w K mg base Yf 3 f fd ["self","place"] (Sh K Vk):=
 Hc F sc_time_at rfl rfl λMP A outer s H E hr=>
  (Zh (Zs 2 sc_time_at.nd (Zp Z2 (Qv 0 tc.oc tc.n3) (Zp Kc (Zp Z2 (Vj 0 tc.oc m1 G1 hr.m b1) (Zy (Zb 1))) (Zy (Zb 1)))))
   (Zl (Zv (Xh G2 hr.m m2 k2 b2 (Za (Zp Kc (Zp Z2 (Qv 0 tc.oc tc.n4) (Zy (Zb 1))) (Zp Z2 (Zb 2) (Qv 0 tc.oc tc.n5))) (Za (Zy (Zb 1)) Ze))))))
def Mp:MK ["track","pair"] ["track","pair"] (Zf U9):=⟨rfl,rfl,rfl,by decide +kernel,rfl,by decide +kernel,by decide +kernel⟩
noncomputable def F_face_ahead:List S->M S:=Oc 2 0
 (Zz (Js (DL.tB (Zn ie (Zd 1) (eC .non))) (Qs (eC .non)) Yp)
  (Qs (Cu (DL.tB (Zn N6 (Yh 0 "Track" "heading") ↑0)) 1[0]! 1[1]!)))
def Mq {f:Addr}{fd:FuncData}{C:Addr} (F:Fun K "face_ahead" "face_ahead" U9 f fd) (tc:WA K C):MM P w K mg base Yf 1 f fd ["track","pair"] (Sh K F_face_ahead):=
 Hc F Mp rfl rfl λMP A outer s H E hr=>
  (Zh (Ql (Z0 qp (Zb 1) Kb (Z4 _)) (Zl (Zv Kb)) Qd)
   (Zl (Zv (Kv (Z0 N8 (Qv 0 tc.oc tc.n3) Zi (Z4 _)) (Zy (Zb 1)) (Zy (Zb 1))))))
def sc_time_to:MK ["across","upward","person","times","track","place"] ["across","upward","person"] (Zf Rr):=⟨rfl,rfl,rfl,by decide +kernel,rfl,by decide +kernel,by decide +kernel⟩
noncomputable def F_time_to:List S->M S:=Oc 3 3
 (Zz (Tv 3 (Dl Zj))
 (Zz (Pn 4 5 0 1 2[0]! 2[1]!
  (Js (DL.tB (Zn Gv (Yh 4 "Track" "heading") ↑0)) (Uv 3 (X2 4 "Track" "time_at" Vk (Zc (Zd 5) Zj)))
   (Js (DL.tB (Zn Gv (Zd 5) (Yh 4 "Track" "begin"))) (Qs (eC .non)) Yp)))
 (Dq 3 (Qs (Cu (DL.tB (Zn Kp 3[0]! (Zn Ys (Zd 3) (Dv Pf ↑1)))) 3[0]! (eC .non))))))
def Hr {f:Addr}{fd:FuncData}{C:Addr} (F:Fun K "time_to" "time_to" Rr f fd) (tc:WA K C) {f1:Addr}{OB:FuncData}
  (m1:OD K C "time_at" f1) (G1:MM P w K mg base Yf 3 f1 OB ["self","place"] (Sh K Vk)) (b1:Binds K OB ["self","place"] []):MM P w K mg base Yf 4 f fd ["across","upward","person"] (Sh K F_time_to):=
 Hc F sc_time_to rfl rfl λMP A outer s H E hr=>
  (Zh (K8 3 sc_time_to.nd (Ub Ze))
  (Zh (Zd9 4 5 0 1 BN rfl sc_time_to.nd (Zy (Zb 2)) (Zy (Zb 2))
   (Zl (Ql (Z0 (Wy hr.units) (Qv 4 tc.oc tc.n3) Zi (Z4 _)) (Zl (Uc 3 (W3 4 tc.oc m1 G1 hr.m b1 (Za (Zb 5) Ze))))
    (Zl (Ql (Z0 (Wy hr.units) (Zb 5) (Qv 4 tc.oc tc.n1) (Z4 _)) (Zl (Zv Kb)) Qd)))))
  (S6 3 (Zl (Zv (Kv (Z0 (Y2 hr.units) (Zy (Zb 3)) (Qz (Zb 3) (Bd Ng Zi) (λ_ _=>rfl)) (Z4 _)) (Zy (Zb 3)) Kb))))))
def A8:MK ["self","square"] ["self","square"] (Zf W7):=⟨rfl,rfl,rfl,by decide +kernel,rfl,by decide +kernel,by decide +kernel⟩
noncomputable def J2:List S->M S:=Oc 2 0 (Qs (He 0 (Zd 1) (Q0 Zj)))
def A9 {f:Addr}{fd:FuncData}{C:Addr} (F:Fun K "people_at" "Floor.people_at" W7 f fd) (oc:UK K "Floor" C) (na:NoAttr K C "by_square"):MM P w K mg base Yf 1 f fd ["self","square"] (Sh K J2):=
 Hc F A8 rfl rfl λMP A outer s H E hr=>
  (Zl (Zv (Zea 0 hr.units oc na (Zb 1) (Qi Ze))))
def sc_person_ahead:MK ["floor","across","upward","whole_time","first","soonest","person","time"] ["floor","across","upward","whole_time"] (Zf Vx):=⟨rfl,rfl,rfl,by decide +kernel,rfl,by decide +kernel,by decide +kernel⟩
noncomputable def F_person_ahead:List S->M S:=Oc 4 4
 (Zz (Qa 4 (eC .non))
 (Zz (Qa 5 (Q0 (Zc (Zd 3) (Zc ↑1 Zj))))
 (Zz (Ke (Kl (La 0 J2 (Zc (Q0 (Zc (Yh 1 "Track" "square") (Zc (Yh 2 "Track" "square") Zj))) Zj))) (Xd 6)
  (Zz (Qa 7 (T9 F_time_to (Vt 1 (Vt 2 (Uw (Zd 6) T7)))))
   (Js (tA (DL.tB (Zn K9 (Zd 7) (eC .non))) (tA (DL.tB (Zu Vf (Zc (Q0 (Zc ↑0 (Zc ↑1 Zj))) (Zc (Zd 7) Zj)))) (DL.tB (Zu Vf (Zc (Zd 7) (Zc (Zd 5) Zj))))))
    (Zz (Qa 4 (Zd 6)) (Qa 5 (Zd 7))) Yp)))
 (Qs (Zd 4)))))
def Sw {f:Addr}{fd:FuncData}{C CF:Addr} (F:Fun K "person_ahead" "person_ahead" Vx f fd) (tc:WA K C) (oc:UK K "Floor" CF) {f1 f2 f3:Addr}{OB OR VO:FuncData}
  (m1:OD K CF "people_at" f1) (G1:MM P w K mg base Yf 1 f1 OB ["self","square"] (Sh K J2)) (b1:Binds K OB ["self","square"] [])
  (G2:MM P w K mg base Yf 4 f2 OR ["across","upward","person"] (Sh K F_time_to)) (b2:Binds K OR ["across","upward","person"] []) (k2:PySem.W.keepIn K (.ref f2)=true) (m2:mg "time_to"=some (.ref f2))
  (G3:MM P w K mg base Yf 1 f3 VO ["one","other"] (R9 K Vf)) (b3:Binds K VO ["one","other"] []) (k3:PySem.W.keepIn K (.ref f3)=true) (m3:mg "below"=some (.ref f3)):
  MM P w K mg base Yf 5 f fd ["floor","across","upward","whole_time"] (Sh K F_person_ahead):=
 Hc F sc_person_ahead rfl rfl λMP A outer s H E hr=>
  (Zh (Zs 4 sc_person_ahead.nd Kb)
  (Zh (Zs 5 sc_person_ahead.nd (Qi (Za (Zb 3) (Za Zi Ze))))
  (Zh (Xm BN rfl (Xw (Zeb 0 oc m1 G1 hr.m b1 (Za (Qi (Za (Qv 1 tc.oc tc.n2) (Za (Qv 2 tc.oc tc.n2) Ze))) Ze))) (Z5 6 sc_person_ahead.nd)
   (Zh (Zs 7 sc_person_ahead.nd (D1 G2 hr.m m2 k2 b2 (Ku 1 (Ku 2 (Va (Zb 6) Pj)))))
    (Zl (Ql ((V9 (Z0 Rk (Zb 7) Kb (Z4 _)) (V9 (Xg (Xh G3 hr.m m3 k3 b3 (Za (Qi (Za Zi (Za Zi Ze))) (Za (Zb 7) Ze)))) (Vn (Xg (Xh G3 hr.m m3 k3 b3 (Za (Zb 7) (Za (Zb 5) Ze)))))))).pt
     (Zh (Zs 4 sc_person_ahead.nd (Zb 6)) (Zl (Zs 5 sc_person_ahead.nd (Zb 7)))) Qd))))
  (Zl (Zv (Zb 4))))))
end
section
variable {P:Program}{w:World}{K:PySem.W.Frag}{mg:Str->Option Value}{base:Heap}
def iH {n c:Nat}(h:n+64<c):n+1<c:=by omega
def Ed:MK ["self","edge"] ["self","edge"] (Zf Wa):=⟨rfl,rfl,rfl,by decide +kernel,rfl,by decide +kernel,by decide +kernel⟩
def Ee {f:Addr}{fd:FuncData}{C:Addr} (F:Fun K "faces_at" "Floor.faces_at" Wa f fd) (oc:UK K "Floor" C) (aQ:NoAttr K C "hall") (ZI:NoAttr K C "known_faces") {f1:Addr}{OB:FuncData}
  (G1:MM P w K mg base Yf 2 f1 OB ["hall","kind","x","y"] (R9 K Qp)) (b1:Binds K OB ["hall","kind","x","y"] []) (k1:PySem.W.keepIn K (.ref f1)=true) (m1:mg "faces"=some (.ref f1)):
  MM P w K mg base Yf 3 f fd ["self","edge"] (lC K Qp):=by
 refine F.ok Ed (λvs H Q E h=>?_) (λMP A outer s H vs Q E hr h=>?_)
 .obtain⟨Hf,a,g,q,k,n,ds,ks,d,v,rfl,_⟩:=h
  rfl
 .obtain⟨Hf,a,g,q,k,n,ds,ks,d,v,rfl,e,fl,hk,ca,hn,rv,ek,el,ed,q'⟩:=h
  obtain⟨tF,pF,qF⟩:Xq (Xo Yf P w K mg base ["self","edge"] "Floor.faces_at" (Zf Wa) f MP A outer s H E).nox E0 _ _:=Xh G1 hr.m m1 k1 b1 (Za (Bp 0 oc aQ) (Za (Zy (Zb 1)) (Za (Zy (Zb 1)) (Za (Zy (Zb 1)) Ze))))
  refine⟨_,Qg (Ih (zb (Za2 (iH hr.units) (Qe (i:=1) rfl (.inl rfl) (by decide) (by decide)) (Wq (Qe (i:=0) rfl (.inl rfl) (by decide) (by decide)) rfl)) (by rfl)) (Xu (Zgu (iH hr.units) (Wq (Qe (i:=0) rfl (.inl rfl) (by decide) (by decide)) rfl) (Qe (i:=1) rfl (.inl rfl) (by decide) (by decide)) pF rfl)) Sz) (Xu (G8 (Zgt (iH hr.units) (Wq (Qe (i:=0) rfl (.inl rfl) (by decide) (by decide)) rfl) (Qe (i:=1) rfl (.inl rfl) (by decide) (by decide)) (λ_ _=>rfl)))),?_⟩
  obtain⟨C',dx,gs,dq,ys,c1,c2,c3,c4,c5⟩:=id fl
  rw[oc.at_] at c1
  cases c1
  obtain⟨cc,zs,h1,h2,h3,h4⟩:=ca
  obtain⟨b,rfl,hb⟩:=Am ek e rv
  match ds,el with
  |[d0,d1,d2],_=>
  refine⟨_,rfl,_,rfl,a,C,dx,gs,.ref k,rfl,e _ _ c2,oc.cls,ZI,c3.kn,k,_,rfl,DGet.t h1 hb,_,rfl,?_⟩
  cases eg:Xj cc ks with
  |some d'=>
   obtain⟨v',ev,YS⟩:=h2.get ks eg
   have:=h4 _ _ _ ek eg
   rw[ed] at this
   cases this
   rw[ev]
   rw[AF (by simp)]
   refine⟨_,rfl,a,C,dx,gs,.ref k,rfl,e _ _ c2,oc.cls,ZI,c3.kn,_,rfl,k,v',rfl,by rw[<-ev];exact DGet.t h1 hb,?_⟩
   exact q' v' Hf H (GrM.refl e) ⟨cc,zs,h1,h2,by lia,h4⟩ YS
  |none=>
   rw[h2.none ks eg,AD (by rfl)]
   have sr:=Go (K:=K) (N:=["self","edge"]) (ss:=[.fl a g q,.im (.tup [d0,d1,d2])]) (vs:=[.ref a,.ref b]) (m:=0) e (.cons ⟨rfl,fl.fl⟩ (.cons ⟨rfl,rv⟩ .nil)) rfl
   refine qF H _ Hf _ _ H _ sr ?_
   have ef:(Zu Qp (Zc (S8 0) (Zc 1[0]! (Zc 1[1]! (Zc 1[2]! Zj))))) [some (.fl a g q),some (.im (.tup [d0,d1,d2]))]=.ok d:=by
    show(match Qp [g,d0,d1,d2] with | .ok s=>s.toD|_=>M.bad)=.ok d
    exact yS ed
   rw[show([DL.S.fl a g q,DL.S.im (.tup [d0,d1,d2])].map some++List.replicate 0 none)=[some (.fl a g q),some (.im (.tup [d0,d1,d2]))] from rfl,ef]
   intro v1 ML H1 g1 rv1
   have uH:H1 k=some (.dT zs):=g1.all _ _ h1
   have hz:zs.length<sizeLine:=by lia
   refine⟨_,rfl,a,C,dx,gs,.ref k,rfl,g1.all _ _ (e _ _ c2),oc.cls,ZI,c3.kn,_,rfl,k,_,rfl,DPut.t uH (g1.all _ _ hb) hz,?_⟩
   have ub:ML k=none:=g1.ban k ⟨_,h1,λ_ q=>by cases q⟩ hk
   have tL:a≠k:=λz=>by rw[z,hk] at c2;cases c2
   have tK:b≠k:=λz=>by rw[z,h1] at hb;cases hb
   refine⟨_,rfl,a,C,dx,gs,.ref k,rfl,(Zm tL).trans (g1.all _ _ (e _ _ c2)),oc.cls,ZI,c3.kn,_,rfl,k,v1,rfl,?_,?_⟩
   .have:=DGet.t (H:=upd H1 k (.dT (Kn zs ks v1))) (a:=k) (k:=ks) Zq ((Zm tK).trans (g1.all _ _ hb))
    rw[L2.Zc7,AD rfl] at this
    exact this
   .refine q' v1 ML _ ⟨g1.fz,λx u hx=>?_,λx u hx hu=>(Zm hx).trans (g1.all _ _ hu),g1.ban⟩ ⟨fZ cc ks d,_,Zq,(h2.mono g1.fz).put ks rv1,?_,λkQ ZL d' e1 e2=>?_⟩ rv1
    .rw[Zm (Z3 hx ub)];exact g1.sub _ _ hx
    .have:=V6 zs ks v1
     lia
    .rw[Zeh eg] at e2
     split at e2
     .rename_i ee
      subst ee
      cases e2
      rw[Bo e1 ek]
      exact ed
     .exact h4 _ _ _ e1 e2
end
section
variable {P:Program}{w:World}{K:PySem.W.Frag}{mg:Str->Option Value}{base:Heap}
def Ef:MK ["floor","across","upward","now"] ["floor","across","upward","now"] (Zf Nl):=⟨rfl,rfl,rfl,by decide +kernel,rfl,by decide +kernel,by decide +kernel⟩
noncomputable def F_thing_at:List S->M D:=fL 4
 (ag (tA (DL.tB (Zn Kp (Yh 1 "Track" "due") (Zd 3))) (DL.tB (Zn Kp (Yh 2 "Track" "due") (Zd 3))))
  (Cu (DL.tB (Zu Ug (Zc (S8 0) (Zc (X2 1 "Track" "line_ahead" Qq Zj) (Zc (X2 2 "Track" "line_ahead" Qq Zj) Zj))))) ↑"corner" (eC .non))
 (ag (DL.tB (Zn Kp (Yh 1 "Track" "due") (Zd 3)))
  (Gq Qp F_face_ahead 1 (Q0 (Zc ↑"up" (Zc (X2 1 "Track" "line_ahead" Qq Zj) (Zc (Yh 2 "Track" "square") Zj)))))
 (ag (DL.tB (Zn Kp (Yh 2 "Track" "due") (Zd 3)))
  (Gq Qp F_face_ahead 2 (Q0 (Zc ↑"flat" (Zc (Yh 1 "Track" "square") (Zc (X2 2 "Track" "line_ahead" Qq Zj) Zj)))))
 (eC .non))))
def Eg {f:Addr}{fd:FuncData}{C CF:Addr} (F:Fun K "thing_at" "thing_at" Nl f fd) (tc:WA K C) (oc:UK K "Floor" CF) (aQ:NoAttr K CF "hall") {f1 f2 f3 f4:Addr}{OB OR VO XX:FuncData}
  (m1:OD K C "line_ahead" f1) (G1:MM P w K mg base Yf 1 f1 OB ["self"] (Sh K Qq)) (b1:Binds K OB ["self"] [])
  (G2:MM P w K mg base Yf 3 f2 OR ["hall","x","y"] (R9 K Ug)) (b2:Binds K OR ["hall","x","y"] []) (k2:PySem.W.keepIn K (.ref f2)=true) (m2:mg "is_corner"=some (.ref f2))
  (m3:OD K CF "faces_at" f3) (G3:MM P w K mg base Yf 3 f3 VO ["self","edge"] (lC K Qp)) (b3:Binds K VO ["self","edge"] [])
  (G4:MM P w K mg base Yf 1 f4 XX ["track","pair"] (Sh K F_face_ahead)) (b4:Binds K XX ["track","pair"] []) (k4:PySem.W.keepIn K (.ref f4)=true) (m4:mg "face_ahead"=some (.ref f4)):
  MM P w K mg base Yf 4 f fd ["floor","across","upward","now"] (iK K Qp F_thing_at):=
 vw F Ef rfl λMP A outer s H E hr=>
  (Hj ((V9 (Z0 (Y2 hr.units) (Qv 1 tc.oc tc.n4) (Zb 3) (Z4 _)) (Vn (Z0 (Y2 hr.units) (Qv 2 tc.oc tc.n4) (Zb 3) (Z4 _))))).pt
   (Oj (Kv (Xg (Xh G2 hr.m m2 k2 b2 (Za (Bp 0 oc aQ) (Za (Vj 1 tc.oc m1 G1 hr.m b1) (Za (Vj 2 tc.oc m1 G1 hr.m b1) Ze))))) Qw Kb))
  (Hj (Z0 (Y2 hr.units) (Qv 1 tc.oc tc.n4) (Zb 3) (Z4 _))
   (D6 1 oc m3 G3 hr.m b3 G4 hr.m m4 k4 b4 (Qi (Za Qw (Za (Vj 1 tc.oc m1 G1 hr.m b1) (Za (Qv 2 tc.oc tc.n2) Ze)))))
  (Hj (Z0 (Y2 hr.units) (Qv 2 tc.oc tc.n4) (Zb 3) (Z4 _))
   (D6 2 oc m3 G3 hr.m b3 G4 hr.m m4 k4 b4 (Qi (Za Qw (Za (Qv 1 tc.oc tc.n2) (Za (Vj 2 tc.oc m1 G1 hr.m b1) Ze)))))
  (Oj Kb))))
end
abbrev ZC:=List (List Yx×D)
def Ru (a a1 a2:Addr)(g:D)(q:ZC)(pt st mo wt:D)(r1 r2:Qy)(tn:List D)(t8 t9 t10 t11:Option S):Zg:=
 [some (.fl a g q),some (.im pt),some (.im st),some (.im mo),some (.im wt),some (.ob a1 "Track" r1),some (.ob a2 "Track" r2),some (.ow tn),t8,t9,t10,t11]
noncomputable def Ht:Zg->M D:=T9 F_person_ahead (Vt 0 (Vt 5 (Vt 6 (Uw (Zd 4) T7))))
noncomputable def lH:Zg->M D:=K6 lT (Zc (Yh 5 "Track" "due") (Zc (Yh 6 "Track" "due") (Zc (Zd 4) Zj)))
noncomputable def Om:Zg->M D:=Ix 7 (Zu Jn (Zc (Zd 10) (Zc (Zn Kp (Zd 9) (Zd 4)) (Zc (Zn Mf (K6 Wj (Zc (Zd 7) Zj)) (Zd 3)) Zj))))
noncomputable def Uh:Zg->M D:=Q0 (Zc (X2 5 "Track" "place_at" Yu (Zc (Zd 9) Zj)) (Zc (X2 6 "Track" "place_at" Yu (Zc (Zd 9) Zj)) Zj))
noncomputable def iG:Zg->M Bool:=DL.tB (Zn Kp (Zd 10) ↑"m")
noncomputable def Lq (a a1 a2:Addr)(g:D)(q:ZC)(pt st mo wt:D):Nat->Qy->Qy->List D->M D
 |0,_,_,_=>.bad
 |n+1,r1,r2,tn=>
  (Ht (Ru a a1 a2 g q pt st mo wt r1 r2 tn none none none none)).bind λp=>if p.isN=true then
   (lH (Ru a a1 a2 g q pt st mo wt r1 r2 tn none none none none)).bind λnow=>
   (F_thing_at [.fl a g q,.ob a1 "Track" r1,.ob a2 "Track" r2,.im now]).bind λth=>
   (Om (Ru a a1 a2 g q pt st mo wt r1 r2 tn none (some (.im now)) (some (.im th)) none)).bind λwd=>if wd.isN=true then
    (iG (Ru a a1 a2 g q pt st mo wt r1 r2 tn none none (some (.im th)) none)).bind λb=>
    (if b=true then(Uh (Ru a a1 a2 g q pt st mo wt r1 r2 tn none (some (.im now)) none none)).bind λpl=>if few tn=true then .ok (tn++[pl]) else .bad else .ok tn).bind λtn'=>
    (match F_pass_line r1 [now,th],F_pass_line r2 [now,th] with
    |some dW,some gF=>Lq a a1 a2 g q pt st mo wt n dW gF tn'
    |_,_=>.bad)
   else(Uh (Ru a a1 a2 g q pt st mo wt r1 r2 tn none (some (.im now)) none none)).bind λpl=>.ok (.tup [wd,pl,.lst tn])
  else .ok (.tup [.str (Str.ofString "person"),p,.lst tn])
noncomputable def fW (a a1 a2:Addr)(g:D)(q:ZC)(pt st mo:D):M D:=
 (Zu Xr (Zc (Zd 0) (Zc (Zd 1) Zj)) [some (.im pt),some (.im st)]).bind λwt=>
 (Zc 0[0]! (Zc 1[0]! (Zc (Zd 2) Zj)) [some (.im pt),some (.im st),some (.im wt)]).bind λl1=>
 (Zc 0[1]! (Zc 1[1]! (Zc (Zd 2) Zj)) [some (.im pt),some (.im st),some (.im wt)]).bind λl2=>
 match Kj [] l1,Kj [] l2 with
 |some r1,some r2=>Lq a a1 a2 g q pt st mo wt 3000 r1 r2 []
 |_,_=>.bad
def cj (K:PySem.W.Frag)(F:Addr->Addr->Addr->D->ZC->D->D->D->M D):Sp:=λvs H Q _=>∃Hf a g q k pt st mo d rest m,vs=.ref a::rest/\Same Hf H/\FlK K Hf a g q k/\Hf k=none/\CaAt K (Vv Qp g) m Hf H k/\m+3000<=16000000/\Reps K Hf [pt,st,mo] rest/\(∀a1 a2,F a a1 a2 g q pt st mo=.ok d) /\
 ∀v' MJ H',GrM k Hf H MJ H'->CaAt K (Vv Qp g) (m+3000) MJ H' k->Rep K MJ d v'->Q v' H'
def Zhv:Stmt->List Stmt
 |.While _ b _ _=>b
 |_=>[]
abbrev wA (i:Nat):Stmt:=(Xe Q6).getD i (.Pass ⟨0,0,0,0⟩)
abbrev wB (i:Nat):Stmt:=(Zhv (wA 4)).getD i (.Pass ⟨0,0,0,0⟩)
def Ps {i:Nat}{f:Zg->M O}{sd:Zg}{p:D}(h:sd[i]?=some (some (.im p))):Js (DL.tB (Zn K9 (Zd i) (eC .non))) f Yp sd=if p.isN=true then .ok (.nx sd) else f sd:=by
 have e:DL.tB (Zn K9 (Zd i) (eC .non)) sd=.ok (!p.isN):=by
  unfold DL.tB Zn Zd eC
  rw[h]
  cases p<;>rfl
 unfold Js
 rw[e]
 cases p.isN<;>rfl
def Lr {f:Zg->M D}{g:Zg->M (List D)}{sd:Zg}{d:D}{l:List D}(h1:f sd=.ok d)(h2:g sd=.ok l):Zc f g sd=.ok (d::l):=by
 unfold Zc
 rw[h1]
 show M.bind (g sd) _=_
 rw[h2]
 rfl
def Pl (t:Option S):Prop:=∀s,t=some s->∃d,s=.im d
def Y4:Pl none:=λ_ h=>by cases h
def Qx {d:D}:Pl (some (.im d)):=λ_ h=>by cases h;exact⟨d,rfl⟩
def Rv {a a1 a2:Addr}{g:D}{q:ZC}{pt st mo wt:D}{r1 r2:Qy}{tn:List D}{t8 t9 t10 t11:Option S}(h8:Pl t8)(h9:Pl t9)(UY:Pl t10)(XS:Pl t11){i:Nat}{t:S}(h:(Ru a a1 a2 g q pt st mo wt r1 r2 tn t8 t9 t10 t11)[i]?=some (some t)):
  (i=0/\t=.fl a g q)\/(i=5/\t=.ob a1 "Track" r1)\/(i=6/\t=.ob a2 "Track" r2)\/t=.ow tn\/∃d,t=.im d:=by
 match i,h with
 |0,h=>cases h;exact .inl ⟨rfl,rfl⟩
 |1,h=>cases h;exact .inr (.inr (.inr (.inr ⟨_,rfl⟩)))
 |2,h=>cases h;exact .inr (.inr (.inr (.inr ⟨_,rfl⟩)))
 |3,h=>cases h;exact .inr (.inr (.inr (.inr ⟨_,rfl⟩)))
 |4,h=>cases h;exact .inr (.inr (.inr (.inr ⟨_,rfl⟩)))
 |5,h=>cases h;exact .inr (.inl ⟨rfl,rfl⟩)
 |6,h=>cases h;exact .inr (.inr (.inl ⟨rfl,rfl⟩))
 |7,h=>cases h;exact .inr (.inr (.inr (.inl rfl)))
 |8,h=>exact .inr (.inr (.inr (.inr (h8 t (BJ h)))))
 |9,h=>exact .inr (.inr (.inr (.inr (h9 t (BJ h)))))
 |10,h=>exact .inr (.inr (.inr (.inr (UY t (BJ h)))))
 |11,h=>exact .inr (.inr (.inr (.inr (XS t (BJ h)))))
 |i+12,h=>cases h
section
variable {a a1 a2:Addr}{g:D}{q:ZC}{pt st mo wt:D}{r1 r2:Qy}{tn:List D}{t8 t9 t10 t11:Option S}
def Ca (h8:Pl t8)(h9:Pl t9)(UY:Pl t10)(XS:Pl t11)(i:Nat)(t:S)(h:(Ru a a1 a2 g q pt st mo wt r1 r2 tn t8 t9 t10 t11)[i]?=some (some t))(o:t.own=true):∃ds,t=.ow ds:=by
 rcases Rv h8 h9 UY XS h with⟨_,rfl⟩|⟨_,rfl⟩|⟨_,rfl⟩|rfl|⟨d,rfl⟩
 .cases o
 .cases o
 .cases o
 .exact⟨_,rfl⟩
 .cases o
def xN (h8:Pl t8)(h9:Pl t9)(UY:Pl t10)(XS:Pl t11)(n1:a≠a1)(n2:a2≠a1)(i:Nat)(t:S)(hi:i≠5)(h:(Ru a a1 a2 g q pt st mo wt r1 r2 tn t8 t9 t10 t11)[i]?=some (some t)):t.adr≠some a1/\∀z,t≠.xc z:=by
 rcases Rv h8 h9 UY XS h with⟨_,rfl⟩|⟨e,rfl⟩|⟨_,rfl⟩|rfl|⟨d,rfl⟩
 .exact⟨λz=>n1 (BJ z),λ_ z=>by cases z⟩
 .exact absurd e hi
 .exact⟨λz=>n2 (BJ z),λ_ z=>by cases z⟩
 .exact⟨(λz=>by cases z),(λ_ z=>by cases z)⟩
 .exact⟨(λz=>by cases z),(λ_ z=>by cases z)⟩
def xM (h8:Pl t8)(h9:Pl t9)(UY:Pl t10)(XS:Pl t11)(n1:a≠a2)(n2:a1≠a2)(i:Nat)(t:S)(hi:i≠6)(h:(Ru a a1 a2 g q pt st mo wt r1 r2 tn t8 t9 t10 t11)[i]?=some (some t)):t.adr≠some a2/\∀z,t≠.xc z:=by
 rcases Rv h8 h9 UY XS h with⟨_,rfl⟩|⟨_,rfl⟩|⟨e,rfl⟩|rfl|⟨d,rfl⟩
 .exact⟨λz=>n1 (BJ z),λ_ z=>by cases z⟩
 .exact⟨λz=>n2 (BJ z),λ_ z=>by cases z⟩
 .exact absurd e hi
 .exact⟨(λz=>by cases z),(λ_ z=>by cases z)⟩
 .exact⟨(λz=>by cases z),(λ_ z=>by cases z)⟩
end
def WI (K:PySem.W.Frag)(H Hf:Hp)(a a1 a2 k:Addr)(g:D)(q:ZC)(pt st mo wt d:D)(m0 n:Nat)(σ':L2.St)(H':Hp):Prop:=
 ∃MJ r1 r2 tn t8 t9 t10 t11 m,Same Hf MJ/\SR K (Nx H k) (λb=>Lv (Nx H k) b/\Hf b=none) MJ (Ru a a1 a2 g q pt st mo wt r1 r2 tn t8 t9 t10 t11) σ' H'/\MJ k=none/\CaAt K (Vv Qp g) m MJ H' k/\m+n<=m0+3000/\Pl t8/\Pl t9/\Pl t10/\Pl t11/\Lq a a1 a2 g q pt st mo wt n r1 r2 tn=.ok d
section
variable {P:Program}{w:World}{K:PySem.W.Frag}{mg:Str->Option Value}{base:Heap}
abbrev Xz:List Str:=["floor","point","step","most","whole_time","across","upward","turns","person","now","thing","word"]
def sc_walk_on:MK Xz ["floor","point","step","most"] (Zf Q6):=⟨rfl,rfl,rfl,by decide +kernel,rfl,by decide +kernel,by decide +kernel⟩
def Hu {f:Addr}{fd:FuncData}{C CF:Addr} (F:Fun K "walk_on" "walk_on" Q6 f fd) (tc:WA K C) (oc:UK K "Floor" CF) {f1 f2 f3 f4 f5 f6 f7:Addr}{OB OR VO XX nM nL nK:FuncData}
  (G1:MM P w K mg base Yf 1 f1 OB ["point","step"] (R9 K Xr)) (b1:Binds K OB ["point","step"] []) (k1:PySem.W.keepIn K (.ref f1)=true) (m1:mg "whole_time_of"=some (.ref f1))
  (rf:Mk K C f2) (G2:MM P w K mg base Yf 2 f2 OR ["self","begin","part","whole_time"] (Ss K C Kj)) (b2:Binds K OR ["self","begin","part","whole_time"] []) (m2:mg "Track"=some (.ref C))
  (G3:MM P w K mg base Yf 5 f3 VO ["floor","across","upward","whole_time"] (Sh K F_person_ahead)) (b3:Binds K VO ["floor","across","upward","whole_time"] []) (k3:PySem.W.keepIn K (.ref f3)=true) (m3:mg "person_ahead"=some (.ref f3))
  (G4:MM P w K mg base Yf 4 f4 XX ["floor","across","upward","now"] (iK K Qp F_thing_at)) (b4:Binds K XX ["floor","across","upward","now"] []) (k4:PySem.W.keepIn K (.ref f4)=true) (m4:mg "thing_at"=some (.ref f4))
  (G5:MM P w K mg base Yf 1 f5 nM ["thing","is_over","may_turn"] (R9 K Jn)) (b5:Binds K nM ["thing","is_over","may_turn"] []) (k5:PySem.W.keepIn K (.ref f5)=true) (m5:mg "how_it_ends"=some (.ref f5))
  (m6:OD K C "place_at" f6) (G6:MM P w K mg base Yf 3 f6 nL ["self","time"] (Sh K Yu)) (b6:Binds K nL ["self","time"] [])
  (G7:MM P w K mg base Yf 2 f7 nK ["track","now","thing"] (Ss K C F_pass_line)) (b7:Binds K nK ["track","now","thing"] []) (k7:PySem.W.keepIn K (.ref f7)=true) (m7:mg "pass_line"=some (.ref f7))
  (SD:mg "min"=none) (MX:mg "len"=none):
  MM P w K mg base Yf 6 f fd ["floor","point","step","most"] (cj K fW):=by
 refine F.ok sc_walk_on (λvs H Q E h=>?_) (λMP A outer s H vs Q E hr h=>?_)
 .obtain⟨Hf,a,g,q,k,pt,st,mo,d,rest,m,rfl,_,_,_,_,_,rs,_⟩:=h
  have:=rs.length
  rw[AH,<-this]
  rfl
 .obtain⟨Hf,a,g,q,k,pt,st,mo,d,rest,m0,rfl,e,fl,hk,ck,gL,rs,hF,kk⟩:=h
  obtain⟨tT,pT,qT⟩:M7 (Xo Yf P w K mg base Xz "walk_on" (Zf Q6) f MP A outer s H E).nox E0 _ (DL.tB (eC (.bl true))):=Xg Wr
  obtain⟨t1,p1,q1⟩:N4 (Xo Yf P w K mg base Xz "walk_on" (Zf Q6) f MP A outer s H E).nox E0 (wA 0) _:=Zs 4 sc_walk_on.nd (Xh G1 hr.m m1 k1 b1 (Za (Zb 1) (Za (Zb 2) Ze)))
  obtain⟨t2,p2,q2⟩:L9 (Xo Yf P w K mg base Xz "walk_on" (Zf Q6) f MP A outer s H E).nox E0 _ _:=Za (Zy (Zb 1)) (Za (Zy (Zb 2)) (Za (Zb 4) Ze))
  obtain⟨t3,p3,q3⟩:L9 (Xo Yf P w K mg base Xz "walk_on" (Zf Q6) f MP A outer s H E).nox E0 _ _:=Za (Zy (Zb 1)) (Za (Zy (Zb 2)) (Za (Zb 4) Ze))
  obtain⟨t4,p4,q4⟩:N4 (Xo Yf P w K mg base Xz "walk_on" (Zf Q6) f MP A outer s H E).nox E0 (wA 3) _:=K8 7 sc_walk_on.nd (Ub Ze)
  obtain⟨t5,p5,q5⟩:N4 (Xo Yf P w K mg base Xz "walk_on" (Zf Q6) f MP A outer s H E).nox E0 (wB 0) (Qa 8 Ht):=Zs 8 sc_walk_on.nd (D1 G3 hr.m m3 k3 b3 (Ku 0 (Ku 5 (Ku 6 (Va (Zb 4) Pj)))))
  obtain⟨t6,p6,q6⟩:N4 (Xo Yf P w K mg base Xz "walk_on" (Zf Q6) f MP A outer s H E).nox E0 (wB 1) _:=Ql (Z0 Rk (Zb 8) Kb (Z4 _)) (S6 7 (Zl (Zv (Qi (Za Qw (Za (Zb 8) (Za (Zb 7) Ze))))))) Qd
  obtain⟨t7,p7,q7⟩:N4 (Xo Yf P w K mg base Xz "walk_on" (Zf Q6) f MP A outer s H E).nox E0 (wB 2) (Qa 9 lH):=Zs 9 sc_walk_on.nd (Qr (Zho rfl) (by rfl) SD (by rfl) (Za (Qv 5 tc.oc tc.n4) (Za (Qv 6 tc.oc tc.n4) (Za (Zb 4) Ze))))
  obtain⟨t8,p8,q8⟩:aI (Xo Yf P w K mg base Xz "walk_on" (Zf Q6) f MP A outer s H E).nox E0 _ _:=Ku 0 (Ku 5 (Ku 6 (Va (Zb 9) Pj)))
  obtain⟨t9,p9,q9⟩:N4 (Xo Yf P w K mg base Xz "walk_on" (Zf Q6) f MP A outer s H E).nox E0 (wB 4) (Qa 11 Om):=Zs 11 sc_walk_on.nd (Zg7 7 (Xh G5 hr.m m5 k5 b5 (Za (Zb 10) (Za (Ko (Y2 hr.units) (Zb 9) (Zb 4) (Z4 _)) (Za (Ko N7 (Qr Wu (by rfl) MX (by rfl) (Za (Zb 7) Ze)) (Zb 3) (Z4 _)) Ze)))))
  obtain⟨t10,tI,jF⟩:N4 (Xo Yf P w K mg base Xz "walk_on" (Zf Q6) f MP A outer s H E).nox E0 (wB 5) (Js _ (Dq 7 (Qs (Q0 (Zc (Zd 11) (Zc Uh (Zc (Zd 7) Zj)))))) Yp):=Ql (Z0 Rk (Zb 11) Kb (Z4 _)) (S6 7 (Zl (Zv (Qi (Za (Zb 11) (Za (Qi (Za (W3 5 tc.oc m6 G6 hr.m b6 (Za (Zb 9) Ze)) (Za (W3 6 tc.oc m6 G6 hr.m b6 (Za (Zb 9) Ze)) Ze))) (Za (Zb 7) Ze))))))) Qd
  obtain⟨t11,tH,sY⟩:N4 (Xo Yf P w K mg base Xz "walk_on" (Zf Q6) f MP A outer s H E).nox E0 (wB 6) (Js iG (Uv 7 Uh) Yp):=Ql (Z0 (Y2 hr.units) (Zb 10) Qw (Z4 _)) (Zl (Uc 7 (Qi (Za (W3 5 tc.oc m6 G6 hr.m b6 (Za (Zb 9) Ze)) (Za (W3 6 tc.oc m6 G6 hr.m b6 (Za (Zb 9) Ze)) Ze))))) Qd
  refine⟨_,Qg p1 (Qg (K3 sc_walk_on.nd (i:=5) rfl (.inl rfl) (N2 (dvs:=[]) (E:=E0) rf G2 hr.m (by rfl) m2 b2 .nil Jj p2) rfl (.inl rfl))
   (Qg (K3 sc_walk_on.nd (i:=6) rfl (.inl rfl) (N2 (dvs:=[]) (E:=E0) rf G2 hr.m (by rfl) m2 b2 .nil Jj p3) rfl (.inl rfl))
   (Qg p4 (Xu (C4 BN pT
    (Qg p5 (Qg p6 (Qg p7
    (Qg (K3 sc_walk_on.nd (i:=10) rfl (.inl rfl) (Ka (dvs:=[]) (E:=E0) G4 hr.m (by rfl) m4 k4 b4 .nil Jj p8) rfl (.inl rfl))
    (Qg p9 (Qg tI (Qg tH
    (Qg (Nz (Ka (dvs:=[]) (E:=E0) G7 hr.m (by rfl) m7 k7 b7 .nil Jj (Qm (Qe (i:=5) rfl (.inl rfl) (by decide) (by decide)) (Qm (Qe (i:=9) rfl (.inl rfl) (by decide) (by decide)) (Qm (Qe (i:=10) rfl (.inl rfl) (by decide) (by decide)) Ji rfl) rfl) rfl)) rfl)
    (Xu (Nz (Ka (dvs:=[]) (E:=E0) G7 hr.m (by rfl) m7 k7 b7 .nil Jj (Qm (Qe (i:=6) rfl (.inl rfl) (by decide) (by decide)) (Qm (Qe (i:=9) rfl (.inl rfl) (by decide) (by decide)) (Qm (Qe (i:=10) rfl (.inl rfl) (by decide) (by decide)) Ji rfl) rfl) rfl)) rfl))))))))))))))),?_⟩
  have YU:=hF 0 0
  unfold fW at YU
  obtain⟨wt,ew,YU⟩:=bind_ok YU
  obtain⟨l1,nU,YU⟩:=bind_ok YU
  obtain⟨l2,nR,YU⟩:=bind_ok YU
  split at YU
  case h_2=>cases YU
  rename_i r1 r2 eZ eV
  have hL:∀a1 a2,Lq a a1 a2 g q pt st mo wt 3000 r1 r2 []=.ok d:=λa1 a2=>by
   have h:=hF a1 a2
   unfold fW at h
   rw[ew] at h
   simp only[M.bind] at h
   rw[nU] at h
   simp only[M.bind] at h
   rw[nR] at h
   simp only[M.bind] at h
   rw[eZ,eV] at h
   exact h
  clear YU hF
  have hlen:=rs.length
  have sr0:=Go (K:=K) (N:=Xz) (ss:=[.fl a g q,.im pt,.im st,.im mo]) (vs:=.ref a::rest) (m:=8) e (.cons ⟨rfl,fl.fl⟩ (Aq rs)) rfl
  refine q1 _ _ _ _ _ _ _ sr0 (Kq (S9 ew) λσ1 ML H1 s1 sr1=>?_)
  refine qQ (i:=5) q2 sr1 nU rfl eZ tc.oc.at_ λa1 σ2 MT H2 s2 n1 sr2=>?_
  refine qQ (i:=6) q3 sr2 nR rfl eV tc.oc.at_ λa2 σ3 QV H3 s3 n2 sr3=>?_
  refine q4 _ _ _ _ _ _ _ sr3 (Kq (show _=M.ok (O.nx _) from rfl) λσ4 YQ H4 s4 sr4=>?_)
  have aQ:H a1=none:=none_of sr1.all n1
  have ZI:H a2=none:=none_of sr2.all n2
  have nO:Hf a1=none:=none_of e aQ
  have nN:Hf a2=none:=none_of e ZI
  have n12:a1≠a2:=λz=>by
   obtain⟨v,y1,C'',kP,kE,rfl,y2,y3,y4⟩:=sr2.imS 5 (.ob a1 "Track" r1) rfl rfl
   rw[z] at y3
   rw[sr2.sub _ _ y3] at n2
   cases n2
  obtain⟨x0,x1,x2,x3,x4,x5,x6,x7⟩:=id fl
  have tS:a≠a1:=λz=>by rw[z,nO] at x6;cases x6
  have tQ:a≠a2:=λz=>by rw[z,nN] at x6;cases x6
  have lk:Lv H k:=ck.lv
  have w0:WI K H Hf a a1 a2 k g q pt st mo wt d m0 3000 σ4 H4:=⟨YQ,r1,r2,[],none,none,none,none,m0,s1.trans (s2.trans (s3.trans s4)),sr4.less (Vr H k) λb hb=>⟨⟨(Vr H k).lv hb.1,hb.2⟩,hb.1⟩,sr4.ban k ⟨lk,hk⟩,
   ck.mono (s1.trans (s2.trans (s3.trans s4))) (λo z=>sr4.all _ _ z),AQ _,Y4,Y4,Y4,Y4,hL a1 a2⟩
  refine⟨WI K H Hf a a1 a2 k g q pt st mo wt d m0,⟨_,w0⟩,λn σ5 H5 hW=>?_⟩
  clear w0 sr0 sr1 sr2 sr3 sr4 s1 s2 s3 s4 hL eZ eV n1 n2
  obtain⟨PV,r1,r2,tn,t8,t9,t10,t11,m,s5,sr5,cL,ca5,hm,h8,h9,UY,XS,hl⟩:=hW
  cases n with
  |zero=>cases hl
  |succ n=>
  refine qT _ _ _ _ _ _ _ sr5 ?_
  show Po K E0 rQ PV H5 (M.ok true) _
  intro v YO H6 g6 rv
  have ev:true=v:=rv
  subst ev
  rw[AD rfl]
  refine⟨WI K H Hf a a1 a2 k g q pt st mo wt d m0 n,λσ' H' w=>⟨n,DS n,w⟩,?_⟩
  have sr6:=sr5.gr g6
  have cK:YO k=none:=g6.ban k ca5.lv cL
  have ca6:=ca5.mono g6.fz (λo z=>g6.all _ _ z)
  have s6:=s5.trans g6.fz
  clear sr5 ca5 cL s5 g6
  unfold Lq at hl
  obtain⟨p,ep,hl⟩:=bind_ok hl
  obtain⟨c6,y6,bR,rc6,jR,eN⟩:=id ca6
  have UH:=sr6.keep bR ca6.lv cK (sr6.offD bR (Ca h8 h9 UY XS))
  refine q5 _ _ _ _ _ _ _ UH (Kq (S9 ep) λσ7 PK H7 s7 sr7=>?_)
  have sr7:SR K _ _ PK (Ru a a1 a2 g q pt st mo wt r1 r2 tn (some (.im p)) t9 t10 t11) σ7 H7:=sr7
  refine q6 _ _ _ _ _ _ _ sr7 ?_
  by_cases hp:p.isN=true
  case neg=>
   rw[AF hp] at hl
   cases hl
   refine qU (d:=.tup [.str (Str.ofString "person"),p,.lst tn]) ?_ λv MJ H' s fin rv=>kk v MJ H' (qS (s6.trans (s7.trans s)) fin) ⟨c6,y6,fin.all _ _ Zq,rc6.mono (s7.trans s),by lia,eN⟩ rv
   rw[Ps (p:=p) rfl,AF hp]
   rfl
  rw[AD hp] at hl
  obtain⟨now,en,hl⟩:=bind_ok hl
  obtain⟨th,vC,hl⟩:=bind_ok hl
  obtain⟨wd,vB,hl⟩:=bind_ok hl
  refine Kq (by rw[Ps (p:=p) rfl,AD hp]) λσ8 ai H8 s8 sr8=>?_
  refine q7 _ _ _ _ _ _ _ sr8 (Kq (S9 en) λσ9 aN H9 s9 sr9=>?_)
  have sr9:SR K _ _ aN (Ru a a1 a2 g q pt st mo wt r1 r2 tn (some (.im p)) (some (.im now)) t10 t11) σ9 H9:=sr9
  obtain⟨aS,cJ,sr9⟩:=sr9.back (Vs H k) λb hb=>hb.1
  have s69:=s6.trans (s7.trans (s8.trans s9))
  have ca9:CaAt K (Vv Qp g) m aN H9 k:=⟨c6,y6,aS,rc6.mono (s7.trans (s8.trans s9)),jR,eN⟩
  clear UH sr6 sr7 sr8 ca6 cK bR rc6
  refine q8 _ _ _ _ _ _ _ sr9 ?_
  show Po K E0 (fM K) aN H9 (M.ok [.fl a g q,.ob a1 "Track" r1,.ob a2 "Track" r2,.im now]) _
  intro vs UE il g10 dR
  show iK K Qp F_thing_at (vs++[]) il _ E0
  rw[BP]
  have ca10:=ca9.mono g10.fz (λo z=>g10.all _ _ z)
  have RM:UE k=none:=g10.ban k ca9.lv cJ
  have sr10:=sr9.gr g10
  have s10:=s69.trans g10.fz
  refine⟨UE,_,a,g,q,k,m,th,rfl,g10.sub,dR,fl.mono s10,RM,ca10,by rw[CG];lia,vC,λv' fu H11 gm ca11 YS=>?_⟩
  have d9:fu k=none:=gm.ban k ca10.lv RM
  obtain⟨c10,y10,SY,_⟩:=id ca10
  have sr11:SR K _ _ fu (Ru a a1 a2 g q pt st mo wt r1 r2 tn (some (.im p)) (some (.im now)) (some (.im th)) t11) _ H11:=(sr10.grM gm (Vs H k) (sr10.offD SY (Ca Qx Qx UY XS))).set_im 10 YS
  have s11:=s10.trans gm.fz
  clear sr9 sr10 ca9 ca10 cJ RM s69 s10 dR gm aS g10 SY YS
  obtain⟨c6,y6,bR,rc6,jR,eN⟩:=id ca11
  have UH:=sr11.keep bR ca11.lv d9 (sr11.offD bR (Ca Qx Qx Qx XS))
  refine q9 _ _ _ _ _ _ _ UH (Kq (S9 vB) λσ12 mD H12 s12 ZH=>?_)
  have ZH:SR K _ _ mD (Ru a a1 a2 g q pt st mo wt r1 r2 tn (some (.im p)) (some (.im now)) (some (.im th)) (some (.im wd))) σ12 H12:=ZH
  refine jF _ _ _ _ _ _ _ ZH ?_
  by_cases hw:wd.isN=true
  case neg=>
   rw[AF hw] at hl
   obtain⟨pl,WH,hl⟩:=bind_ok hl
   cases hl
   refine qU (d:=.tup [wd,pl,.lst tn]) ?_ λv MJ H' s fin rv=>kk v MJ H' (qS (s11.trans (s12.trans s)) fin) ⟨c6,y6,fin.all _ _ Zq,rc6.mono (s12.trans s),by lia,eN⟩ rv
   rw[Ps (p:=wd) rfl,AF hw]
   have e3:=Lr (f:=Zd 11) (g:=Zc Uh (Zc (Zd 7) Zj)) (sd:=frz 7 (Ru a a1 a2 g q pt st mo wt r1 r2 tn (some (.im p)) (some (.im now)) (some (.im th)) (some (.im wd)))) (d:=wd) rfl (Lr (d:=pl) WH (Lr (d:=.lst tn) (l:=[]) rfl rfl))
   unfold Dq Qs Q0
   rw[e3]
   rfl
  rw[AD hw] at hl
  obtain⟨b,eb,hl⟩:=bind_ok hl
  obtain⟨tn',bo,hl⟩:=bind_ok hl
  split at hl
  case h_2=>cases hl
  rename_i dW gF eZ eV
  refine Kq (by rw[Ps (p:=wd) rfl,AD hw]) λσ13 Hf13 H13 s13 dN=>?_
  refine sY _ _ _ _ _ _ _ dN (Kq (sd':=Ru a a1 a2 g q pt st mo wt r1 r2 tn' (some (.im p)) (some (.im now)) (some (.im th)) (some (.im wd))) ?_ λσ14 mC H14 mK sr14=>?_)
  .have cX:iG (Ru a a1 a2 g q pt st mo wt r1 r2 tn (some (.im p)) (some (.im now)) (some (.im th)) (some (.im wd)))=.ok b:=eb
   unfold Js
   rw[cX]
   cases b with
   |false=>cases bo;rfl
   |true=>
    rw[AD rfl] at bo
    obtain⟨pl,WH,bo⟩:=bind_ok bo
    split at bo
    .rename_i hfew
     cases bo
     have e2:Uh (Ru a a1 a2 g q pt st mo wt r1 r2 tn (some (.im p)) (some (.im now)) (some (.im th)) (some (.im wd)))=.ok pl:=WH
     show(Uh (Ru a a1 a2 g q pt st mo wt r1 r2 tn (some (.im p)) (some (.im now)) (some (.im th)) (some (.im wd)))).bind (λd=>if few tn=true then _ else _)=_
     rw[e2]
     show(if few tn=true then _ else _)=_
     rw[AD hfew]
     rfl
    .cases bo
  obtain⟨j7,jt,sr14⟩:=sr14.back (Vs H k) λb hb=>hb.1
  have dO:=s11.trans (s12.trans (s13.trans mK))
  have kU:CaAt K (Vv Qp g) (m+1) mC H14 k:=⟨c6,y6,j7,rc6.mono (s12.trans (s13.trans mK)),jR,eN⟩
  clear UH sr11 ZH dN ca11 d9 bR rc6
  refine pK (i:=5) (i1:=9) (i2:=10) sr14 rfl (xN Qx Qx Qx Qx tS n12.symm) tc.oc.at_ (none_of (Vr H k) aQ) eZ (by decide) (by decide) rfl rfl jt kU λmB H15 sM ao jr kT=>?_
  have ao:SR K _ _ mB (Ru a a1 a2 g q pt st mo wt dW r2 tn' (some (.im p)) (some (.im now)) (some (.im th)) (some (.im wd))) _ H15:=ao
  refine pK (i:=6) (i1:=9) (i2:=10) ao rfl (xM Qx Qx Qx Qx tQ n12) tc.oc.at_ (none_of (Vr H k) ZI) eV (by decide) (by decide) rfl rfl jr kT λl9 H16 sL i8 jq kS=>?_
  exact⟨l9,dW,gF,tn',_,_,_,_,m+1,sL Hf (sM Hf dO nO) nN,i8,jq,kS,by lia,Qx,Qx,Qx,Qx,hl⟩
end
noncomputable def gw:Zg->M D:=Q0 (Zc (Zu Xk (Zc 3[0]! Zj)) (Zc (Zu Xk (Zc 3[1]! Zj)) Zj))
noncomputable def On (p:D):Option (List Yx):=match gw [none,none,none,some (.im p),none] with
 |.ok (.tup ds)=>Vq ds
 |_=>none
noncomputable def Br:U7->List D->Option U7
 |acc,[]=>some acc
 |acc,p::r=>match On p with
  |some ks=>Br (Wn ks p acc) r
  |none=>none
theorem Pt (f:Str)(v:V):∀fs:List (Str×V),(Yv f v fs).length<=fs.length+1
 |[]=>AQ _
 |(g,x)::r=>by
  unfold Yv
  split
  .simp
  .have:=Pt f v r
   simp only[AH]
   lia
section
variable {P:Program}{w:World}{K:PySem.W.Frag}{mg:Str->Option Value}{base:Heap}
abbrev gu:List Str:=["self","hall","people","person","square"]
def sc_Floor_init:MK gu ["self","hall","people"] (Zf Ve):=⟨rfl,rfl,rfl,by decide +kernel,rfl,by decide +kernel,by decide +kernel⟩
def cg (hall:D)(ppl:List D)(t3 t4:Option S):Zg:=[none,some (.im hall),some (.im (.lst ppl)),t3,t4]
def Rw {hall:D}{ppl:List D}{t3 t4:Option S}(h3:Pl t3)(h4:Pl t4){σ:L2.St}{b:Addr}:Cv (cg hall ppl t3 t4) σ b:=by
 intro i t h o
 have:∃d,t=.im d:=by
  match i,h with
  |0,h=>cases h
  |1,h=>cases h;exact⟨_,rfl⟩
  |2,h=>cases h;exact⟨_,rfl⟩
  |3,h=>exact h3 t (BJ h)
  |4,h=>exact h4 t (BJ h)
  |i+5,h=>cases h
 obtain⟨d,rfl⟩:=this
 cases o
def FI (K:PySem.W.Frag)(CF dx x k d:Addr)(gs:List (Str×V))(H Hf:Hp)(hall:D)(ppl:List D)(q:U7)(i m:Nat)(σ':L2.St)(H':Hp):Prop:=
 m=ppl.length-i/\i<=ppl.length/\∃MJ t3 t4 ys acc,Same Hf MJ/\SR K (Nx H x) (λb=>Lv (Nx H x) b/\Hf b=none) MJ (cg hall ppl t3 t4) σ' H'/\Pl t3/\Pl t4/\σ'[0]?=some (some (.ref x))/\MJ x=none/\H' x=some (.ins CF dx gs)/\H' k=some (.dT [])/\MJ k=none /\
  H' d=some (.dT ys)/\MJ d=none/\OwnL K (Nx H x) MJ H' acc ys/\acc.length<=i/\(∀p∈acc,p.2.length<=i)/\Br acc (ppl.drop i)=some q
def Mr {f:Addr}{fd:FuncData}{CF:Addr} (F:Fun K "__init__" "Floor.__init__" Ve f fd) (oc:UK K "Floor" CF) (aQ:NoAttr K CF "hall") (ZI:NoAttr K CF "known_faces") (mW:NoAttr K CF "by_square") {f1:Addr}{OB:FuncData}
  (G1:MM P w K mg base Yf 1 f1 OB ["place"] (R9 K Xk)) (b1:Binds K OB ["place"] []) (k1:PySem.W.keepIn K (.ref f1)=true) (m1:mg "square_of"=some (.ref f1)):
  MM P w K mg base Yf 2 f fd ["self","hall","people"] (iJ K CF (Br [])):=by
 refine F.ok sc_Floor_init (λvs H Q E h=>?_) (λMP A outer s H vs Q E hr h=>?_)
 .obtain⟨Hf,x,dx,hall,ppl,q,vh,vp,rfl,_⟩:=h
  rfl
 .obtain⟨Hf,x,dx,hall,ppl,q,vh,vp,rfl,e,bN,hx,rh,rp,hlen,hq,kk⟩:=h
  obtain⟨tk,pk,qk⟩:Xq (Xo Yf P w K mg base gu "Floor.__init__" (Zf Ve) f MP A outer s H E).nox E0 _ gw:=Qi (Za (Xh G1 hr.m m1 k1 b1 (Za (Zy (Zb 3)) Ze)) (Za (Xh G1 hr.m m1 k1 b1 (Za (Zy (Zb 3)) Ze)) Ze))
  refine⟨_,Qg (Aa (Qe (i:=0) rfl (.inl rfl) (by decide) (by decide)) (Qe (i:=1) rfl (.inl rfl) (by decide) (by decide)) rfl)
   (Qg (Aa (Qe (i:=0) rfl (.inl rfl) (by decide) (by decide)) Db rfl)
   (Qg (Aa (Qe (i:=0) rfl (.inl rfl) (by decide) (by decide)) Db rfl)
   (Xu (Tg BN rfl (Zgb (Qe (i:=2) rfl (.inl rfl) (by decide) (by decide))) (S0 (i:=3) sc_Floor_init.nd rfl (.inl rfl) (.inl rfl))
    (Qg (K3 sc_Floor_init.nd (i:=4) rfl (.inl rfl) pk rfl (.inl rfl))
    (Xu (Nz (pf FX II IH Gh (Zem (iH hr.units) (Wq (Qe (i:=0) rfl (.inl rfl) (by decide) (by decide)) rfl) (Qe (i:=4) rfl (.inl rfl) (by decide) (by decide)) (Fn Ji) ⟨rfl,rfl,rfl,rfl⟩) (Qm (Qe (i:=3) rfl (.inl rfl) (by decide) (by decide)) Ji rfl)) rfl))))))),?_⟩
  obtain⟨ap,xs,rfl,mr,rxs⟩:=rep_lst.mp rp
  have st:=Bn (K:=K) (N:=gu) (C:=CF) (Hf:=Hf) (H:=H) (r:=[]) (ds:=[hall,.lst ppl]) (a:=x) (vs:=[vh,.ref ap]) (m:=2) e bN ⟨dx,[],hx,.nil⟩ (Reps.cons rh (Reps.cons rp Reps.nil)) rfl
  have sr0:SR K (Nx H x) (λb=>Lv (Nx H x) b/\Hf b=none) Hf (cg hall ppl none none) (Je gu [.ref x,vh,.ref ap]) H:=st.sr
  refine⟨vh,rfl,.ref x,rfl,x,CF,dx,[],rfl,hx,oc.cls,aQ,by decide,?_⟩
  have sr1:=sr0.mut (b:=x) (o:=.ins CF dx (Yv "hall" vh [])) (Vs H x) bN (Rw Y4 Y4)
  intro k hk
  have xk:x≠k:=by rintro rfl;rw[Zq] at hk;cases hk
  have WC:H k=none:=by rw[Zm xk.symm] at hk;exact hk
  refine⟨.ref x,rfl,x,CF,dx,_,rfl,(Zm xk).trans Zq,oc.cls,ZI,by have:=Pt "hall" vh [];simp only[FP] at this;lia,?_⟩
  have sr2:=sr1.gr (Gr.new sr1.sub hk (.dT []))
  have sr3:=sr2.mut (b:=x) (o:=.ins CF dx (Yv "known_faces" (.ref k) (Yv "hall" vh []))) (Vs H x) bN (Rw Y4 Y4)
  intro d hd
  have xd:x≠d:=by rintro rfl;rw[Zq] at hd;cases hd
  have kd:k≠d:=by rintro rfl;rw[Zm xk.symm,Zq] at hd;cases hd
  have j0:H d=none:=by rw[Zm xd.symm,Zm kd.symm,Zm xd.symm] at hd;exact hd
  refine⟨.ref x,rfl,x,CF,dx,_,rfl,(Zm xd).trans Zq,oc.cls,mW,by have:=Pt "hall" vh [];have:=Pt "known_faces" (.ref k) (Yv "hall" vh []);simp only[FP] at *;lia,?_⟩
  have sr4:=sr3.gr (Gr.new sr3.sub hd (.dT []))
  have sr5:=sr4.mut (b:=x) (o:=.ins CF dx (Yv "by_square" (.ref d) (Yv "known_faces" (.ref k) (Yv "hall" vh [])))) (Vs H x) bN (Rw Y4 Y4)
  have g1:(Yv "by_square" (.ref d) (Yv "known_faces" (.ref k) (Yv "hall" vh []))).lookup ("hall":Str)=some vh:=by
   rw[Qt,AF (by decide),Qt,AF (by decide),Qt,AD rfl]
  have g2:(Yv "by_square" (.ref d) (Yv "known_faces" (.ref k) (Yv "hall" vh []))).lookup ("by_square":Str)=some (.ref d):=by rw[Qt,AD rfl]
  have g3:(Yv "by_square" (.ref d) (Yv "known_faces" (.ref k) (Yv "hall" vh []))).lookup ("known_faces":Str)=some (.ref k):=by rw[Qt,AF (by decide),Qt,AD rfl]
  have g4:(Yv "by_square" (.ref d) (Yv "known_faces" (.ref k) (Yv "hall" vh []))).lookup ("people_at":Str)=none:=by
   rw[Qt,AF (by decide),Qt,AF (by decide),Qt,AF (by decide)];rfl
  have g5:(Yv "by_square" (.ref d) (Yv "known_faces" (.ref k) (Yv "hall" vh []))).lookup ("faces_at":Str)=none:=by
   rw[Qt,AF (by decide),Qt,AF (by decide),Qt,AF (by decide)];rfl
  generalize Yv "by_square" (.ref d) (Yv "known_faces" (.ref k) (Yv "hall" vh []))=gs at *
  refine⟨.ref ap,rfl,ap,rfl,⟨xs,sr5.sub.seq mr⟩,FI K CF dx x k d gs H Hf hall ppl q,⟨_,rfl,CL _,Hf,none,none,[],[],Same.refl _,sr5,Y4,Y4,rfl,bN,Zq,?_,none_of e WC,?_,none_of e j0,⟨.nil,by simp⟩,AQ _,(λ_ h=>by cases h),hq⟩,λi m σ' H' hI=>?_⟩
  .rw[Zm xk.symm,Zm kd,Zm xk.symm,Zq]
  .rw[Zm xd.symm,Zq]
  clear sr0 sr1 sr2 sr3 sr4 sr5 st hk hd
  obtain⟨rfl,hi,MJ,t3,t4,ys,acc,s',sr,h3,h4,σ0,fx,Hx,Hk,fk,Hd,u9,own,la,ll,hb⟩:=hI
  have sq:SqL K H' ap xs:=sr.sub.seq (s'.seq mr)
  have lx:=rxs.length
  by_cases OF:i<ppl.length
  case neg=>
   have ei:i=ppl.length:=by lia
   left
   refine⟨⟨xs,sq,by lia⟩,?_⟩
   rw[ei,List.drop_length] at hb
   cases hb
   have nS:∀b,Lv H b->b≠x->¬(b=x\/b=d\/∃p∈ys,p.2=V.ref b):=λb hb cH z=>by
    rcases z with z|z|⟨p,z1,z2⟩
    .exact cH z
    .rw[z] at hb;exact hb.nn j0
    .obtain⟨y,_,a',xs',e2,_,_,e5,_⟩:=Vd own.1 z1
     rw[z2] at e2
     cases e2
     rw[Kf cH] at e5
     exact hb.nn e5
   refine kk (ZD MJ H' λb=>b=x\/b=d\/∃p∈ys,p.2=V.ref b) H' k (s'.trans Le) (Zhq sr.sub) (λb u hb hu=>sr.all b u ((Kf hb).trans hu)) (λb hl hf hne=>?_) ?_ ?_ Hk WC
   .obtain⟨o,o1,o2⟩:=id hl
    exact D7 (nS b hl hne) (sr.ban b ⟨⟨o,(Kf hne).trans o1,o2⟩,hf⟩)
   .have sm:=s'.trans (Le (Hf:=MJ) (H:=H') (S:=λb=>b=x\/b=d\/∃p∈ys,p.2=V.ref b))
    refine⟨CF,dx,gs,d,ys,oc.at_,Hl sr.sub (.inl rfl) Hx,⟨⟨vh,g1,rh.mono sm⟩,g2,g3,g4,g5⟩,Hl sr.sub (.inr (.inl rfl)) Hd,?_⟩
    have:∀{l:U7}{l':List (List Yx×V)},Paired (OwnP K (Nx H x) MJ H') l l'->(∀p∈l',p∈ys)->RepKV K (ZD MJ H' λb=>b=x\/b=d\/∃p∈ys,p.2=V.ref b) (qD l) l':=by
     intro l l' hl hm
     induction hl with
     |nil=>exact .nil
     | @cons y z r r' hp ht ih=>
      obtain⟨e1,a',xs',e2,e3,e4,e5,e6⟩:=hp
      refine .cons ⟨e1,?_⟩ (ih λp hp=>hm p (AV _ hp))
      show Rep K _ (.lst y.2) z.2
      rw[e2]
      exact rep_lst.mpr ⟨a',xs',rfl,SqL.of (Hl sr.sub (.inr (.inr ⟨z,hm z (BH ..),e2⟩)) e3),e6.mono Le⟩
    exact this own.1 λ_ h=>h
   .refine D7 (λz=>?_) fk
    rcases z with z|z|⟨p,z1,z2⟩
    .exact xk z.symm
    .exact kd z
    .obtain⟨y,_,a',xs',e2,e3,_⟩:=Vd own.1 z1
     rw[z2] at e2
     cases e2
     rw[Hk] at e3
     cases e3
  right
  have SB:Br acc (ppl[i]::ppl.drop (i+1))=some q:=by rw[<-CM OF];exact hb
  unfold Br at SB
  split at SB
  case h_2=>cases SB
  rename_i ks bq
  unfold On at bq
  split at bq
  case h_2=>cases bq
  rename_i ds vI
  obtain⟨y,ey,ry⟩:=rxs.get (AU OF)
  refine⟨⟨xs,y,sq,ey⟩,FI K CF dx x k d gs H Hf hall ppl q (i+1) (ppl.length-(i+1)),λσ' H' w=>⟨_,by lia,w⟩,λv aj hy=>?_⟩
  obtain⟨rfl,hy⟩:=hy
  have ev:=hy _ sq
  rw[ey] at ev
  cases ev
  have sP:=ry.mono s'
  have sr1:SR K _ _ MJ (cg hall ppl (some (.im ppl[i])) t4) _ aj:=sr.set_im 3 sP
  refine qk _ _ _ _ _ _ _ sr1 ?_
  rw[show gw (cg hall ppl (some (.im ppl[i])) t4)=.ok (.tup ds) from vI]
  intro v4 MT H2 g6 mN
  have sr2:SR K _ _ MT (cg hall ppl (some (.im ppl[i])) (some (.im (.tup ds)))) _ H2:=(sr1.gr g6).set_im 4 mN
  obtain⟨b,rfl,j9⟩:=Am bq g6.sub mN
  have own2:=own.gr g6
  have hsz:=CG
  have lk:Lv aj k:=⟨_,Hk,λ_ q=>by cases q⟩
  have tW:Lv aj d:=⟨_,Hd,λ_ q=>by cases q⟩
  have lys:=DV own.1
  obtain⟨w3,mH,mM⟩:=sr2.im 3 ppl[i] rfl
  obtain⟨w4,sE,sQ⟩:=sr2.im 4 (.tup ds) rfl
  obtain⟨b',rfl,j9⟩:=Am bq sr2.sub sQ
  have σ0':(List.set (List.set σ' 3 (some y)) 4 (some (V.ref b)))[0]?=some (some (.ref x)):=by rw[AR (by decide),AR (by decide)];exact σ0
  refine⟨.ref x,σ0',x,CF,dx,gs,.ref d,rfl,g6.all _ _ Hx,oc.cls,mW,g2,d,rfl,.inr ⟨ys,.inl (g6.all _ _ Hd)⟩,_,sE,?_⟩
  refine⟨CL _,λpl ND=>?_⟩
  have own3:=own2.gr (Gr.new sr2.sub ND (.lst []))
  have sr3:=sr2.gr (Gr.new sr2.sub ND (.lst []))
  have nx:x≠pl:=λz=>by rw[<-z,g6.all _ _ Hx] at ND;cases ND
  have nk:k≠pl:=λz=>by rw[<-z,g6.all _ _ Hk] at ND;cases ND
  have nd:d≠pl:=λz=>by rw[<-z,g6.all _ _ Hd] at ND;cases ND
  have nb:b'≠pl:=λz=>by rw[<-z,j9] at ND;cases ND
  have l7:upd H2 pl (.lst []) x=some (.ins CF dx gs):=(Zm nx).trans (g6.all _ _ Hx)
  have l8:upd H2 pl (.lst []) k=some (.dT []):=(Zm nk).trans (g6.all _ _ Hk)
  have mE:upd H2 pl (.lst []) d=some (.dT ys):=(Zm nd).trans (g6.all _ _ Hd)
  have s2:=s'.trans g6.fz
  have nF:MT x=none:=g6.ban x (Lb Hx) fx
  have nH:MT k=none:=g6.ban k lk fk
  have OR:MT d=none:=g6.ban d tW u9
  refine⟨ys,ks,b',rfl,mE,(Zm nb).trans j9,by lia,λv ev=>?_,λen=>?_⟩
  .obtain⟨a',cD,rfl,e3,e4,e5,⟨pp,u5,g2'⟩,u6⟩:=own3.there ev
   have l1:=ll pp u5
   refine⟨.inl ⟨rfl,cD,SqL.of e3⟩,w3,mH,a',cD,w3,rfl,rfl,e3,by lia,?_⟩
   have n1:x≠a':=λz=>by rw[<-z,l7] at e3;cases e3
   have n2:k≠a':=λz=>by rw[<-z,l8] at e3;cases e3
   have n3:d≠a':=λz=>by rw[<-z,mE] at e3;cases e3
   exact⟨rfl,OF,MT,_,_,ys,Wn ks ppl[i] acc,s2,sr3.mut e5 e4 (Rw Qx Qx),Qx,Qx,σ0',nF,(Zm n1).trans l7,(Zm n2).trans l8,nH,(Zm n3).trans mE,OR,⟨u6 _ _ mM,own3.2⟩,by have:=Ld (ks:=ks) (p:=ppl[i]) (acc:=acc);lia,Rq ll,SB⟩
  .have WH:upd (upd H2 pl (.lst [])) d (.dT (Kn ys ks (.ref pl))) pl=some (.lst []):=(Zm nd.symm).trans Zq
   refine⟨.inl ⟨rfl,[],SqL.of WH⟩,w3,mH,pl,[],w3,rfl,rfl,WH,by rw[CG];decide,?_⟩
   have h0:Nx H x pl=none:=none_of sr2.all ND
   have ml:MT pl=none:=none_of sr2.sub ND
   have eH:upd (upd (upd H2 pl (.lst [])) d (.dT (Kn ys ks (.ref pl)))) pl (.lst ([]++[w3]))=upd (upd H2 d (.dT (Kn ys ks (.ref pl)))) pl (.lst [w3]):=by
    funext c
    by_cases c1:c=pl
    .subst c1;rw[Zq,Zq];rfl
    .rw[Zm c1,Zm c1]
     by_cases c2:c=d
     .subst c2;rw[Zq,Zq]
     .rw[Zm c2,Zm c2,Zm c1]
   have sr4:=(sr3.mut (b:=d) (o:=.dT (Kn ys ks (.ref pl))) (none_of (Vr H x) j0) OR (Rw Qx Qx)).mut (b:=pl) (o:=.lst ([]++[w3])) h0 ml (Rw Qx Qx)
   refine⟨rfl,OF,MT,_,_,Kn ys ks (.ref pl),Wn ks ppl[i] acc,s2,sr4,Qx,Qx,σ0',nF,?_,?_,nH,?_,OR,?_,by have:=Ld (ks:=ks) (p:=ppl[i]) (acc:=acc);lia,Rq ll,SB⟩
   .rw[Zm nx,Zm xd];exact l7
   .rw[Zm nk,Zm kd];exact l8
   .rw[Zm nd,Zq]
   .rw[eH]
    exact own2.new en (g6.all _ _ Hd) ND h0 ml mM
end
open Classical in
noncomputable def wD (hall:D)(q:U7)(pt st mo:D):M D:=if h:∃d,∀a a1 a2,fW a a1 a2 hall (qD q) pt st mo=.ok d then .ok h.choose else .bad
def lS {hall pt st mo d:D}{q:U7}(h:wD hall q pt st mo=.ok d)(a a1 a2:Addr):fW a a1 a2 hall (qD q) pt st mo=.ok d:=by
 unfold wD at h
 split at h
 .rename_i hh
  cases h
  exact hh.choose_spec a a1 a2
 .cases h
def xK {hall pt st mo d:D}{q:U7}(h:∀a a1 a2,fW a a1 a2 hall (qD q) pt st mo=.ok d):wD hall q pt st mo=.ok d:=by
 have hh:∃d,∀a a1 a2,fW a a1 a2 hall (qD q) pt st mo=.ok d:=⟨d,h⟩
 unfold wD
 rw[dif_pos hh,<-hh.choose_spec 0 0 0]
 exact h 0 0 0
def pJ:Stmt->List Stmt
 |.For _ _ b _ _=>b
 |_=>[]
section
variable {K:PySem.W.Frag}
def Eh {H Hf ML H1 MJ H':Hp}{sd:Zg}{σ:L2.St}{CF x dx k:Addr}{g:D}{kv:ZC}{i:Nat}(sr:SR K H (λb=>Lv H b/\Hf b=none) ML sd σ H1)(im:∀(j:Nat) (t:S),sd[j]?=some (some t)->t.own=false)(hx:H1 x=none)(XM:H1 dx=none)(hne:dx≠x)(s1:Same ML MJ)(s2:Same MJ H')(al:∀b u,b≠x->upd (upd H1 dx (.own x)) x (.ins CF dx []) b=some u->H' b=some u)(ba:∀b,Lv (upd (upd H1 dx (.own x)) x (.ins CF dx [])) b->ML b=none->b≠x->MJ b=none)(fl:FlK K MJ x g kv k):
  SR K H (λb=>Lv H b/\Hf b=none) MJ (sd.set i (some (.fl x g kv))) (σ.set i (some (.ref x))) H':=by
 have sm:Same H1 (upd (upd H1 dx (.own x)) x (.ins CF dx [])):=(Qc XM _).trans (Qc ((Zm hne.symm).trans hx) _)
 have ne:∀{b u},H b=some u->b≠x:=λ{b u} hb z=>by
  have:=sr.all _ _ hb
  rw[z,hx] at this
  cases this
 have r:SR K H (λb=>Lv H b/\Hf b=none) MJ sd σ H':=⟨s2,λb u hb=>al b u (ne hb) (sm _ _ (sr.all _ _ hb)),λb hb=>by
   obtain⟨o,ho,_⟩:=id hb.1
   exact ba b (sm.lv (sr.all.lv hb.1)) (sr.ban b hb) (ne ho),sr.bt,sr.len,λj t e o=>by
   obtain⟨v,z1,z2⟩:=sr.imS j t e o
   exact⟨v,z1,z2.mono s1⟩,λj t e o=>(by rw[im j t e] at o;cases o),λj l t u p _ e o=>(by rw[im j t e] at o;cases o)⟩
 exact r.set_st (d:=.fl x g kv) i rfl fl.fl
end
open Classical in
noncomputable def F_walk:List D->M S
 |[hall,.lst ppl,pt,st,mo]=>(match Br [] ppl with
  |some q=>if h:ppl.length<=1000000/\∃d,∀a a1 a2,fW a a1 a2 hall (qD q) pt st mo=.ok d then .ok (.im h.2.choose) else .bad
  |none=>.bad)
 |_=>.bad
def Zbn {hall pt st mo d:D}{ppl:List D}{q:U7}(hq:Br [] ppl=some q)(hl:ppl.length<=1000000)(h:∀a a1 a2,fW a a1 a2 hall (qD q) pt st mo=.ok d):F_walk [hall,.lst ppl,pt,st,mo]=.ok (.im d):=by
 have hh:ppl.length<=1000000/\∃d,∀a a1 a2,fW a a1 a2 hall (qD q) pt st mo=.ok d:=⟨hl,d,h⟩
 simp only[F_walk,hq]
 rw[dif_pos hh]
 have:=hh.2.choose_spec 0 0 0
 rw[h 0 0 0] at this
 cases this
 rfl
def Bs {ds:List D}{s:S}(h:F_walk ds=.ok s):∃hall ppl pt st mo q d,ds=[hall,.lst ppl,pt,st,mo]/\Br [] ppl=some q/\ppl.length<=1000000/\(∀a a1 a2,fW a a1 a2 hall (qD q) pt st mo=.ok d)/\s=.im d:=by
 unfold F_walk at h
 split at h
 .rename_i hall ppl pt st mo
  split at h
  .rename_i q hq
   split at h
   .rename_i hh
    cases h
    exact⟨hall,ppl,pt,st,mo,q,_,rfl,hq,hh.1,hh.2.choose_spec,rfl⟩
   .cases h
  .cases h
 .cases h
section
variable {P:Program}{w:World}{K:PySem.W.Frag}{mg:Str->Option Value}{base:Heap}
abbrev lR:List Str:=["hall","people","point","step","most"]
def Zhw:MK lR lR (Zf Ho):=⟨rfl,rfl,rfl,by decide +kernel,rfl,by decide +kernel,by decide +kernel⟩
def Zev {f:Addr}{fd:FuncData}{CF:Addr} (F:Fun K "walk" "walk" Ho f fd) {f1 f2:Addr}{OB OR:FuncData}
  (fq:Mk K CF f1) (G1:MM P w K mg base Yf 2 f1 OB ["self","hall","people"] (iJ K CF (Br []))) (b1:Binds K OB ["self","hall","people"] []) (m1:mg "Floor"=some (.ref CF))
  (G2:MM P w K mg base Yf 6 f2 OR ["floor","point","step","most"] (cj K fW)) (b2:Binds K OR ["floor","point","step","most"] []) (k2:PySem.W.keepIn K (.ref f2)=true) (m2:mg "walk_on"=some (.ref f2)):
  MM P w K mg base Yf 7 f fd lR (R9 K F_walk):=by
 refine F.ok Zhw (λvs H Q E h=>?_) (λMP A outer s H vs Q E hr h=>?_)
 .obtain⟨Hf,ds,s,e,rs,hF,_⟩:=h
  obtain⟨hall,ppl,pt,st,mo,q,d,rfl,_⟩:=Bs hF
  rw[<-rs.length]
  rfl
 .obtain⟨Hf,ds,s',e,rs,hF,kk⟩:=h
  obtain⟨hall,ppl,pt,st,mo,q,d,rfl,hq,hl,hw,rfl⟩:=Bs hF
  refine⟨_,Xu (G8 (Ka (dvs:=[]) (E:=E0) G2 hr.m (by rfl) m2 k2 b2 .nil Jj
   (Qm (N2 (dvs:=[]) (E:=E0) fq G1 hr.m (by rfl) m1 b1 .nil Jj (Qm (Qe (i:=0) rfl (.inl rfl) (by decide) (by decide)) (Qm (Qe (i:=1) rfl (.inl rfl) (by decide) (by decide)) Ji rfl) rfl))
   (Qm (Qe (i:=2) rfl (.inl rfl) (by decide) (by decide)) (Qm (Qe (i:=3) rfl (.inl rfl) (by decide) (by decide)) (Qm (Qe (i:=4) rfl (.inl rfl) (by decide) (by decide)) Ji rfl) rfl) rfl) rfl))),?_⟩
  obtain⟨v0,_,rfl,r0,rs⟩:=reps_cons.mp rs
  obtain⟨v1,_,rfl,r1,rs⟩:=reps_cons.mp rs
  obtain⟨v2,_,rfl,r2,rs⟩:=reps_cons.mp rs
  obtain⟨v3,_,rfl,r3,rs⟩:=reps_cons.mp rs
  obtain⟨v4,_,rfl,r4,rs⟩:=reps_cons.mp rs
  cases reps_nil.mp rs
  refine⟨v0,rfl,v1,rfl,λx dx hx XM hne=>?_⟩
  have sm:Same H (upd (upd H dx (.own x)) x (.ins CF dx [])):=(Qc XM _).trans (Qc ((Zm hne.symm).trans hx) _)
  refine⟨Hf,x,dx,hall,ppl,q,v0,v1,rfl,e.trans sm,none_of e hx,Zq,r0,r1,hl,hq,λMJ H' k s1 s2 al ba fl hk ck nk=>⟨rfl,v2,rfl,v3,rfl,v4,rfl,?_⟩⟩
  have tM:H k=none:=none_of sm nk
  refine⟨MJ,x,hall,qD q,k,pt,st,mo,d,[v2,v3,v4],0,rfl,s2,fl,hk,⟨[],[],ck,.nil,AQ _,λ_ _ _ _ h=>by cases h⟩,by decide,Reps.cons (r2.mono s1) (Reps.cons (r3.mono s1) (Reps.cons (r4.mono s1) Reps.nil)),λa1 a2=>hw x a1 a2,λv' MT H2 gm _ rv=>kk v' MT H2 ⟨s1.trans gm.fz,gm.sub,λb u hb=>?_,λb hb hn=>?_⟩ rv⟩
  .have bx:b≠x:=λz=>by rw[z,hx] at hb;cases hb
   have bk:b≠k:=λz=>by rw[z,tM] at hb;cases hb
   exact gm.all b u bk (al b u bx (sm _ _ hb))
  .obtain⟨o,ho,no⟩:=id hb
   have bx:b≠x:=λz=>by rw[z,hx] at ho;cases ho
   exact gm.ban b ⟨o,al b o bx (sm _ _ ho),no⟩ (ba b (sm.lv hb) hn bx)
end
section
variable {P:Program}{w:World}{K:PySem.W.Frag}{mg:Str->Option Value}{base:Heap}
noncomputable def Y5:List D->M S:=V5 3 7
  (Zz (Qa 3 (Zn Zt 0[1]! 1[1]!))
   (Zz (Qa 4 (Zn Zt 0[0]! 1[1]!))
   (Zz (Qa 5 (Zn Zt 1[0]! 0[1]!))
   (Zz (Qa 6 (Zn Zt (Zd 2) (Zd 3)))
   (Zz (Qa 7 (Jk Zj))
   (Zz (Ke (Kl (Q0 (Zc (Zd 5) (Zc (Dv Pf (Zd 5)) Zj)))) (Xd 8) (Zz (Qa 9 (Zn Vl (Zn Q7 (Zn Z8 (Zn Vl (Zd 8) (Zd 4)) (Zd 6)) (Zn Zt ↑2 (Zd 3))) (Zd 6)))
   (Qa 7 (Zn Z8 (Zd 7) (lI (Zc (Zd 9) (Zc (Zn Z8 (Zd 6) ↑1) (Zc (Zn Zt ↑2 (Zd 3)) Zj))))))))
   (lW (Kx (Kl (K6 S5 (Zc (Zd 7) Zj))) 1 [3] (Xd 0) (Zu Ki (Zc (Zd 0) (Zc (Zd 1) Zj)))))))))))
def sc_parts_to_images:MK ["one","other","reach","bottom","begin","end","farthest","tops","image","least"] ["one","other","reach"] (Zf Yj):=⟨rfl,rfl,rfl,by decide +kernel,rfl,by decide +kernel,by decide +kernel⟩
def Nr (d:Dm K mg "parts_to_images" Yj) (c_amount:Cl P w K mg base 2 "amount" ["top","bottom"] Ki) (OE:mg "list"=none) (MN:mg "range"=none) (NF:mg "sorted"=none):Cl P w K mg base 3 "parts_to_images" ["one","other","reach"] Y5:=
 d.cl (by trivial) λ_ _ F=>Jl F sc_parts_to_images rfl rfl λMP A outer s H E hr=>
  (Zh (Zs 3 sc_parts_to_images.nd (Zp Z2 (Zy (Zb 0)) (Zy (Zb 1))))
   (Zh (Zs 4 sc_parts_to_images.nd (Zp Z2 (Zy (Zb 0)) (Zy (Zb 1))))
   (Zh (Zs 5 sc_parts_to_images.nd (Zp Z2 (Zy (Zb 1)) (Zy (Zb 0))))
   (Zh (Zs 6 sc_parts_to_images.nd (Zp Z2 (Zb 2) (Zb 3)))
   (Zh (Zs 7 sc_parts_to_images.nd (X1 Ze))
   (Zh (Xm BN rfl (Xw (Qi (Za (Zb 5) (Za (Bd Ng (Zb 5)) Ze)))) (Z5 8 sc_parts_to_images.nd) (Zh (Zs 9 sc_parts_to_images.nd (Zp Kc (Zp Yg (Zp Qf (Zp Kc (Zb 8) (Zb 4)) (Zb 6)) (Zp Z2 Zi (Zb 3))) (Zb 6)))
   (Zl (Zs 7 sc_parts_to_images.nd (Zp Qf (Zb 7) (yk rfl OE MN (Za (Zb 9) (Za (Zp Qf (Zb 6) Zi) (Za (Zp Z2 Zi (Zb 3)) Ze)))))))))
   (Zl (Zdx (Ky (Nc:=["top","bottom"]) rfl (Jt (λy hy hf=>Yo (Uo (sc:=Zf Yj) (by decide +kernel) y hy hf))) (F3 (sc:=Zf Yj) rfl rfl (by decide +kernel) (Uo (by decide +kernel)) (λy hy hf=>Yo (Uo (sc:=Zf Yj) (by decide +kernel) y hy hf)) rfl (U5 (N:=["one","other","reach","bottom","begin","end","farthest","tops","image","least"]) rfl (by decide +kernel))) rfl (by decide +kernel) (by decide +kernel) (Ja (by decide)) (Xw (Qr Za8 (by rfl) NF (by rfl) (Za (Zb 7) Ze))) (λs3 H3 C ex=>Z5 0 (show(["top","bottom"]:List Str).Nodup by decide +kernel)) (λs3 H3 C ex=>by exact(Zx c_amount hr.m (Za (Zb 0) (Za (Zb 1) Ze)))))))))))))
noncomputable def Yk:List D->M S:=V5 4 4
  (Zz (Tv 4 (Dl Zj))
   (Zz (Qa 5 (Zu Y5 (Zc 0[1]! (Zc 1[1]! (Zc (Zd 3) Zj)))))
   (Zz (Ke (Kl (Zu Y5 (Zc 0[0]! (Zc 1[0]! (Zc (Zd 2) Zj))))) (Xd 6) (Ke (Kl (Zd 5)) (Xd 7) (Js (tB (Dv (dD 0 1 0 1) (Q0 (Zc (Zd 6) (Zc (Zd 7) Zj))))) (Uv 4 (Q0 (Zc (Zd 6) (Zc (Zd 7) Zj)))) Yp)))
   (Dp 4))))
def sc_steps_to_images:MK ["one","other","reach_across","reach_upward","steps","parts_upward","dx","dy"] ["one","other","reach_across","reach_upward"] (Zf Kh):=⟨rfl,rfl,rfl,by decide +kernel,rfl,by decide +kernel,by decide +kernel⟩
def Nt (d:Dm K mg "steps_to_images" Kh) (MV:Cl P w K mg base 3 "parts_to_images" ["one","other","reach"] Y5) {NK:Addr} (UP:mg "NO_STEP"=some (.ref NK)) (UN:Bl K NK 0 1 0 1=true):Cl P w K mg base 4 "steps_to_images" ["one","other","reach_across","reach_upward"] Yk:=
 d.cl (by trivial) λ_ _ F=>Jl F sc_steps_to_images rfl rfl λMP A outer s H E hr=>
  (Zh (K8 4 sc_steps_to_images.nd (Ub Ze))
   (Zh (Zs 5 sc_steps_to_images.nd (Zx MV hr.m (Za (Zy (Zb 0)) (Za (Zy (Zb 1)) (Za (Zb 3) Ze)))))
   (Zh (Xm BN rfl (Xw (Zx MV hr.m (Za (Zy (Zb 0)) (Za (Zy (Zb 1)) (Za (Zb 2) Ze))))) (Z5 6 sc_steps_to_images.nd) (Zl (Xm BN rfl (Xw (Zb 5)) (Z5 7 sc_steps_to_images.nd) (Zl (Ql (Zhh hr.units UP UN (Qi (Za (Zb 6) (Za (Zb 7) Ze)))) (Zl (Uc 4 (Qi (Za (Zb 6) (Za (Zb 7) Ze))))) Qd)))))
   (Zl (W0 4)))))
noncomputable def Vz:List D->M S:=V5 2 0
  (Qs (Re (Zn Kp 0[0]! ↑"end") (Zn Kp 0[1]! (Zd 1))))
def Zbo:MK ["told","person"] ["told","person"] (Zf Lg):=⟨rfl,rfl,rfl,by decide +kernel,rfl,by decide +kernel,by decide +kernel⟩
def Zbp (d:Dm K mg "is_way" Lg)  : Cl P w K mg base 1 "is_way" ["told","person"] Vz:=
 d.cl (by trivial) λ_ _ F=>Jl F Zbo rfl rfl λMP A outer s H E hr=>
  (Zl (Zv (Tp (Ko (Y2 hr.units) (Zy (Zb 0)) Qw (Z4 _)) (Ah (Ko (Y2 hr.units) (Zy (Zb 0)) (Zb 1) (Z4 _))))))
end
def Ma (hall:D)(ppl:List D)(one other most:D)(fl fo t7 t8:Option S):Zg:=[some (.im hall),some (.im (.lst ppl)),some (.im one),some (.im other),some (.im most),fl,fo,t7,t8]
noncomputable def iY:Zg->M (List D):=Kl (Zu Yk (Zc (Zn Ys (Zd 1) (Zd 2)) (Zc (Zn Ys (Zd 1) (Zd 3)) (Zc (Zn Zt (Zn Z8 (Zd 4) ↑1) 0[0]!) (Zc (Zn Zt (Zn Z8 (Zd 4) ↑1) 0[1]!) Zj)))))
noncomputable def tY:Zg->M Bool:=DL.tB (Zu Vz (Zc (Zd 8) (Zc (Zn Ys (Zd 1) (Zd 3)) Zj)))
def fV:Zg->M D:=Q0 (Zc 7[0]! (Zc 7[1]! (Zc 8[2]! Zj)))
noncomputable def Wi (hall:D)(ppl:List D)(q:U7)(one other most:D):List D->List D->M (List D)
 |[],fo=>.ok fo
 |st::r,fo=>(Ys (.lst ppl) one).bind λpt=>(wD hall q pt st most).bind λd=>
  (tY (Ma hall ppl one other most none none (some (.im st)) (some (.im d)))).bind λb=>
  if b=true then(fV (Ma hall ppl one other most none none (some (.im st)) (some (.im d)))).bind λrow=>if few fo=true then Wi hall ppl q one other most r (fo++[row]) else .bad
  else Wi hall ppl q one other most r fo
noncomputable def F_ways:List D->M S
 |[hall,.lst ppl,one,other,most]=>(match Br [] ppl with
  |some q=>if ppl.length<=1000000 then(iY (Ma hall ppl one other most none none none none)).bind λsteps=>if steps.length<=5000 then(Wi hall ppl q one other most steps []).bind λfo=>.ok (.ow fo) else .bad else .bad
  |none=>.bad)
 |_=>.bad
def Bt {ds:List D}{s:S}(h:F_ways ds=.ok s):∃hall ppl one other most q steps fo,ds=[hall,.lst ppl,one,other,most]/\Br [] ppl=some q/\ppl.length<=1000000/\iY (Ma hall ppl one other most none none none none)=.ok steps/\steps.length<=5000/\Wi hall ppl q one other most steps []=.ok fo/\s=.ow fo:=by
 unfold F_ways at h
 split at h
 .rename_i hall ppl one other most
  split at h
  .rename_i q hq
   split at h
   .rename_i hl
    obtain⟨steps,e1,h⟩:=bind_ok h
    split at h
    .rename_i hs
     obtain⟨fo,e2,h⟩:=bind_ok h
     cases h
     exact⟨hall,ppl,one,other,most,q,steps,fo,rfl,hq,hl,e1,hs,e2,rfl⟩
    .cases h
   .cases h
  .cases h
 .cases h
def Oo {hall:D}{ppl:List D}{one other most:D}{a:Addr}{g:D}{kv:ZC}{fo:List D}{t7 t8:Option S}(h7:Pl t7)(h8:Pl t8)(i:Nat)(t:S)(h:(Ma hall ppl one other most (some (.fl a g kv)) (some (.ow fo)) t7 t8)[i]?=some (some t))(o:t.own=true):∃ds,t=.ow ds:=by
 match i,h with
 |0,h=>cases h;cases o
 |1,h=>cases h;cases o
 |2,h=>cases h;cases o
 |3,h=>cases h;cases o
 |4,h=>cases h;cases o
 |5,h=>cases h;cases o
 |6,h=>cases h;exact⟨_,rfl⟩
 |7,h=>obtain⟨d,rfl⟩:=h7 t (BJ h);cases o
 |8,h=>obtain⟨d,rfl⟩:=h8 t (BJ h);cases o
 |i+9,h=>cases h
section
variable {P:Program}{w:World}{K:PySem.W.Frag}{mg:Str->Option Value}{base:Heap}
abbrev Pu:List Str:=["hall","people","one","other","most","floor","found","step","told"]
def sc_ways:MK Pu ["hall","people","one","other","most"] (Zf Vy):=⟨rfl,rfl,rfl,by decide +kernel,rfl,by decide +kernel,by decide +kernel⟩
abbrev yA (i:Nat):Stmt:=(Xe Vy).getD i (.Pass ⟨0,0,0,0⟩)
abbrev yB (i:Nat):Stmt:=(pJ (yA 2)).getD i (.Pass ⟨0,0,0,0⟩)
def z9 {f:Addr}{fd:FuncData}{CF:Addr} (F:Fun K "ways" "ways" Vy f fd) {f1 f2 f3 f4:Addr}{OB OR VO XX:FuncData}{l3 l4:Nat}
  (fq:Mk K CF f1) (G1:MM P w K mg base Yf 2 f1 OB ["self","hall","people"] (iJ K CF (Br []))) (b1:Binds K OB ["self","hall","people"] []) (m1:mg "Floor"=some (.ref CF))
  (G2:MM P w K mg base Yf 6 f2 OR ["floor","point","step","most"] (cj K fW)) (b2:Binds K OR ["floor","point","step","most"] []) (k2:PySem.W.keepIn K (.ref f2)=true) (m2:mg "walk_on"=some (.ref f2))
  (h3:l3<=6) (G3:MM P w K mg base Yf l3 f3 VO ["one","other","reach_across","reach_upward"] (R9 K Yk)) (b3:Binds K VO ["one","other","reach_across","reach_upward"] []) (k3:PySem.W.keepIn K (.ref f3)=true) (m3:mg "steps_to_images"=some (.ref f3))
  (h4:l4<=6) (G4:MM P w K mg base Yf l4 f4 XX ["told","person"] (R9 K Vz)) (b4:Binds K XX ["told","person"] []) (k4:PySem.W.keepIn K (.ref f4)=true) (m4:mg "is_way"=some (.ref f4)):
  MM P w K mg base Yf 7 f fd ["hall","people","one","other","most"] (R9 K F_ways):=by
 refine F.ok sc_ways (λvs H Q E h=>?_) (λMP A outer s H vs Q E hr h=>?_)
 .obtain⟨Hf,ds,s,e,rs,hF,_⟩:=h
  obtain⟨hall,ppl,one,other,most,q,steps,fo,rfl,_⟩:=Bt hF
  rw[<-rs.length]
  rfl
 .obtain⟨Hf,ds,s',e,rs,hF,kk⟩:=h
  obtain⟨hall,ppl,one,other,most,q,steps,fo,rfl,hq,hl,kI,uV,gN,rfl⟩:=Bt hF
  obtain⟨tF,pF,qF⟩:L9 (Xo Yf P w K mg base Pu "ways" (Zf Vy) f MP A outer s H E).nox E0 _ _:=Za (Zb 0) (Za (Zb 1) Ze)
  obtain⟨t2,p2,q2⟩:N4 (Xo Yf P w K mg base Pu "ways" (Zf Vy) f MP A outer s H E).nox E0 (yA 1) _:=K8 6 sc_ways.nd (Ub Ze)
  obtain⟨wi,pI,qI⟩:ah (Xo Yf P w K mg base Pu "ways" (Zf Vy) f MP A outer s H E).nox E0 _ _ iY:=Xw (Xh G3 (hr.mono (by lia)) m3 k3 b3 (Za (Qz (Zb 1) (Zb 2) (λ_ _=>rfl)) (Za (Qz (Zb 1) (Zb 3) (λ_ _=>rfl)) (Za (Zp Z2 (Zp Qf (Zb 4) Zi) (Zy (Zb 0))) (Za (Zp Z2 (Zp Qf (Zb 4) Zi) (Zy (Zb 0))) Ze)))))
  obtain⟨tg,pG,qG⟩:aM (Xo Yf P w K mg base Pu "ways" (Zf Vy) f MP A outer s H E).nox _ (Xd 7):=Z5 7 sc_ways.nd
  obtain⟨tA,pA,qA⟩:aI (Xo Yf P w K mg base Pu "ways" (Zf Vy) f MP A outer s H E).nox E0 _ _:=Ku 5 (Va (Qz (Zb 1) (Zb 2) (λ_ _=>rfl)) (Va (Zb 7) (Va (Zb 4) Pj)))
  obtain⟨tR,pR,qR⟩:N4 (Xo Yf P w K mg base Pu "ways" (Zf Vy) f MP A outer s H E).nox E0 (yB 1) (Js tY (Uv 6 fV) Yp):=Ql (Xg (Xh G4 (hr.mono (by lia)) m4 k4 b4 (Za (Zb 8) (Za (Qz (Zb 1) (Zb 3) (λ_ _=>rfl)) Ze)))) (Zl (Uc 6 (Qi (Za (Zy (Zb 7)) (Za (Zy (Zb 7)) (Za (Zy (Zb 8)) Ze)))))) Qd
  obtain⟨tE,pE,qE⟩:N4 (Xo Yf P w K mg base Pu "ways" (Zf Vy) f MP A outer s H E).nox E0 (yA 3) _:=W0 6
  refine⟨_,Qg (K3 sc_ways.nd (i:=5) rfl (.inl rfl) (N2 (dvs:=[]) (E:=E0) fq G1 hr.m (by rfl) m1 b1 .nil Jj pF) rfl (.inl rfl))
   (Qg p2 (Qg (Tg BN rfl pI pG (Qg (K3 sc_ways.nd (i:=8) rfl (.inl rfl) (Ka (dvs:=[]) (E:=E0) G2 hr.m (by rfl) m2 k2 b2 .nil Jj pA) rfl (.inl rfl)) (Xu pR))) (Xu pE))),?_⟩
  have sr0:=Tq (K:=K) (N:=Pu) (m:=4) e rs rfl
  refine qF _ _ _ _ _ _ _ sr0 ?_
  show Po K E0 (rA K) Hf H (M.ok [hall,.lst ppl]) _
  intro r6 ML H1 g1 rs1 x dx hx XM hne
  obtain⟨vh,_,rfl,rh,rs1⟩:=reps_cons.mp rs1
  obtain⟨vp,_,rfl,rp,rs1⟩:=reps_cons.mp rs1
  cases reps_nil.mp rs1
  have sm:Same H1 (upd (upd H1 dx (.own x)) x (.ins CF dx [])):=(Qc XM _).trans (Qc ((Zm hne.symm).trans hx) _)
  refine⟨ML,x,dx,hall,ppl,q,vh,vp,rfl,g1.sub.trans sm,none_of g1.sub hx,Zq,rh,rp,hl,hq,λMT H2 k s1 s2 al ba fl hk ck nk=>⟨rfl,?_⟩⟩
  have sr1:=sr0.gr g1
  have sr2:SR K H _ MT (Ma hall ppl one other most (some (.fl x hall (qD q))) none none none) _ H2:=Eh (i:=5) sr1 (λj t h=>by
   match j,h with
   |0,h=>cases h;rfl
   |1,h=>cases h;rfl
   |2,h=>cases h;rfl
   |3,h=>cases h;rfl
   |4,h=>cases h;rfl
   |5,h=>cases h
   |6,h=>cases h
   |7,h=>cases h
   |8,h=>cases h
   |j+9,h=>cases h) hx XM hne s1 s2 al ba fl
  have WC:H k=none:=none_of (g1.all.trans sm) nk
  have ca2:CaAt K (Vv Qp hall) 0 MT H2 k:=⟨[],[],ck,.nil,AQ _,λ_ _ _ _ h=>by cases h⟩
  have bt:∀b,(Lv H b/\Hf b=none)->Lv H b:=λb hb=>hb.1
  have UH:=sr2.keep ck ca2.lv hk (sr2.offD ck λi t h o=>by
   match i,h with
   |0,h=>cases h;cases o
   |1,h=>cases h;cases o
   |2,h=>cases h;cases o
   |3,h=>cases h;cases o
   |4,h=>cases h;cases o
   |5,h=>cases h;cases o
   |6,h=>cases h
   |7,h=>cases h
   |8,h=>cases h
   |i+9,h=>cases h)
  refine q2 _ _ _ _ _ _ _ UH (Kq (sd':=Ma hall ppl one other most (some (.fl x hall (qD q))) (some (.ow [])) none none) rfl λσ3 QV H3 s3 sr3=>?_)
  obtain⟨j6,jo,sr3⟩:=sr3.back WC bt
  have ca3:CaAt K (Vv Qp hall) 0 QV H3 k:=⟨[],[],j6,.nil,AQ _,λ_ _ _ _ h=>by cases h⟩
  have fl3:=fl.mono s3
  have sA:=g1.fz.trans (s1.trans s3)
  clear UH sr2 sr1 ca2
  refine qI _ _ _ _ _ _ _ sr3 ?_
  rw[show iY (Ma hall ppl one other most (some (.fl x hall (qD q))) (some (.ow [])) none none)=.ok steps from kI]
  intro J YQ H4 g4 J4
  refine⟨λi m σ' H'=>m=steps.length-i/\∃MJ OI t7 t8,Same YQ MJ/\SR K H (λb=>Lv H b/\Hf b=none) MJ (Ma hall ppl one other most (some (.fl x hall (qD q))) (some (.ow OI)) t7 t8) σ' H'/\MJ k=none/\CaAt K (Vv Qp hall) (3000*i) MJ H' k/\Pl t7/\Pl t8/\Wi hall ppl q one other most (steps.drop i) OI=.ok fo,
   ⟨_,rfl,YQ,[],none,none,Same.refl _,sr3.gr g4,g4.ban k ca3.lv jo,ca3.mono g4.fz (λo z=>g4.all _ _ z),Y4,Y4,gN⟩,?_⟩
  rintro i m σ5 H5 ⟨rfl,PV,OI,t7,t8,s5,sr5,cL,ca5,h7,h8,ON⟩
  have jj:=J4 i PV H5 s5 sr5.sub
  cases qi:steps[i]? with
  |none=>
   rw[qi] at jj
   refine .inl ⟨jj,?_⟩
   rw[DY (BL.mp qi)] at ON
   cases ON
   refine qE _ _ _ _ _ _ _ sr5 ?_
   show PoS K E0 _ _ PV (M.ok (O.rt (.ow fo))) _
   intro v MJ H' s6 fin rv
   exact kk v MJ H' ⟨sA.trans (g4.fz.trans (s5.trans s6)),fin.sub,fin.all,λb hb hn=>fin.ban b ⟨hb,hn⟩⟩ rv
  |some st=>
   rw[qi] at jj
   obtain⟨go,yl⟩:=jj
   have OF:i<steps.length:=(AE.mp qi).1
   have hd:steps.drop i=st::steps.drop (i+1):=by
    rw[CM OF]
    congr 1
    exact(AE.mp qi).2
   rw[hd] at ON
   refine .inr ⟨go,λσ' H'=>∃MJ OI t7 t8,Same YQ MJ/\SR K H (λb=>Lv H b/\Hf b=none) MJ (Ma hall ppl one other most (some (.fl x hall (qD q))) (some (.ow OI)) t7 t8) σ' H'/\MJ k=none/\CaAt K (Vv Qp hall) (3000*(i+1)) MJ H' k/\Pl t7/\Pl t8/\Wi hall ppl q one other most (steps.drop (i+1)) OI=.ok fo,
    λσ' H' w=>⟨steps.length-(i+1),by lia,rfl,w⟩,λy H6 y6=>?_⟩
   obtain⟨YO,g6,ry⟩:=yl y H6 y6
   have sr6:=sr5.gr g6
   have cK:YO k=none:=g6.ban k ca5.lv cL
   have ca6:=ca5.mono g6.fz (λo z=>g6.all _ _ z)
   refine qG _ _ YO _ σ5 H6 y st (Ma hall ppl one other most (some (.fl x hall (qD q))) (some (.ow OI)) (some (.im st)) t8) _ sr6 ry rfl λσ7 sr7=>?_
   unfold Wi at ON
   obtain⟨pt,kL,ON⟩:=bind_ok ON
   obtain⟨d,ed,ON⟩:=bind_ok ON
   obtain⟨b,eb,ON⟩:=bind_ok ON
   refine qA _ _ _ _ _ _ _ sr7 ?_
   have ea:Vt 5 (Uw (Zn Ys (Zd 1) (Zd 2)) (Uw (Zd 7) (Uw (Zd 4) T7))) (Ma hall ppl one other most (some (.fl x hall (qD q))) (some (.ow OI)) (some (.im st)) t8)=.ok [.fl x hall (qD q),.im pt,.im st,.im most]:=by
    have:Zn Ys (Zd 1) (Zd 2) (Ma hall ppl one other most (some (.fl x hall (qD q))) (some (.ow OI)) (some (.im st)) t8)=.ok pt:=kL
    unfold Vt Uw
    rw[this]
    rfl
   rw[ea]
   intro iu ai H8 g8 jC
   show cj K fW (iu++[]) H8 _ E0
   rw[BP]
   rcases jC with _|⟨⟨_,r0⟩,_|⟨⟨_,r1⟩,_|⟨⟨_,r2⟩,_|⟨⟨_,r3⟩,_|_⟩⟩⟩⟩
   have kF:FlK K ai x hall (qD q) k:=fl3.mono (g4.fz.trans (s5.trans (g6.fz.trans g8.fz)))
   obtain⟨_,_,_,_,_,_,rfl,_⟩:=id r0
   have sr8:=sr7.gr g8
   have d8:ai k=none:=g8.ban k ca6.lv cK
   have ca8:=ca6.mono g8.fz (λo z=>g8.all _ _ z)
   refine⟨ai,x,hall,qD q,k,pt,st,most,d,_,3000*i,rfl,g8.sub,kF,d8,ca8,by lia,Reps.cons r1 (Reps.cons r2 (Reps.cons r3 Reps.nil)),λa1 a2=>lS ed x a1 a2,λv' aN H9 gm ca9 YS=>?_⟩
   obtain⟨c8,y8,j5,_⟩:=id ca8
   have cJ:aN k=none:=gm.ban k ca8.lv d8
   have sr9:SR K _ _ aN (Ma hall ppl one other most (some (.fl x hall (qD q))) (some (.ow OI)) (some (.im st)) (some (.im d))) _ H9:=(sr8.grM gm WC (sr8.offD j5 (Oo Qx h8))).set_im 8 YS
   obtain⟨c9,y9,aS,rc9,tX,gX⟩:=id ca9
   have UH:=sr9.keep aS ca9.lv cJ (sr9.offD aS (Oo Qx Qx))
   have cX:tY (Ma hall ppl one other most (some (.fl x hall (qD q))) (some (.ow OI)) (some (.im st)) (some (.im d)))=.ok b:=eb
   have sAll:=s5.trans (g6.fz.trans (g8.fz.trans gm.fz))
   cases b with
   |false=>
    rw[AF (by decide)] at ON
    refine qR _ _ _ _ _ _ _ UH (Kq (sd':=Ma hall ppl one other most (some (.fl x hall (qD q))) (some (.ow OI)) (some (.im st)) (some (.im d))) (by unfold Js;rw[cX];rfl) λσ10 UE il s10 sr10=>?_)
    obtain⟨SY,RM,sr10⟩:=sr10.back WC bt
    exact⟨UE,OI,_,_,sAll.trans s10,sr10,RM,⟨c9,y9,SY,rc9.mono s10,by lia,gX⟩,Qx,Qx,ON⟩
   |true=>
    rw[AD rfl] at ON
    obtain⟨row,bp,ON⟩:=bind_ok ON
    split at ON
    case isFalse=>cases ON
    rename_i hfew
    refine qR _ _ _ _ _ _ _ UH (Kq (sd':=Ma hall ppl one other most (some (.fl x hall (qD q))) (some (.ow (OI++[row]))) (some (.im st)) (some (.im d))) ?_ λσ10 UE il s10 sr10=>?_)
    .have kK:fV (Ma hall ppl one other most (some (.fl x hall (qD q))) (some (.ow OI)) (some (.im st)) (some (.im d)))=.ok row:=bp
     unfold Js
     rw[cX]
     show(fV (Ma hall ppl one other most (some (.fl x hall (qD q))) (some (.ow OI)) (some (.im st)) (some (.im d)))).bind (λd=>if few OI=true then _ else _)=_
     rw[kK]
     show(if few OI=true then _ else _)=_
     rw[AD hfew]
     rfl
    obtain⟨SY,RM,sr10⟩:=sr10.back WC bt
    exact⟨UE,_,_,_,sAll.trans s10,sr10,RM,⟨c9,y9,SY,rc9.mono s10,by lia,gX⟩,Qx,Qx,ON⟩
end
def Mb (hall:D)(ppl:List D)(one other most reach:D)(fl fo t8 t9 t10:Option S):Zg:=[some (.im hall),some (.im (.lst ppl)),some (.im one),some (.im other),some (.im most),some (.im reach),fl,fo,t8,t9,t10]
noncomputable def iI:Zg->M (List D):=Kl (Zu Yk (Zc (Zn Ys (Zd 1) (Zd 2)) (Zc (Zn Ys (Zd 1) (Zd 3)) (Zc (Zd 5) (Zc (Zd 5) Zj)))))
noncomputable def Ei:Zg->M D:=Cu (DL.tB (Zu Vz (Zc (Zd 9) (Zc (Zn Ys (Zd 1) (Zd 3)) Zj)))) ↑"seen" 9[0]!
def c7:Zg->M D:=Q0 (Zc 8[0]! (Zc 8[1]! (Zc (Zd 10) (Zc 9[1]! Zj))))
noncomputable def Gw (hall:D)(ppl:List D)(q:U7)(one other most reach:D):List D->List D->M (List D)
 |[],fo=>.ok fo
 |st::r,fo=>(Ys (.lst ppl) one).bind λpt=>(wD hall q pt st most).bind λd=>
  (Ei (Mb hall ppl one other most reach none none (some (.im st)) (some (.im d)) none)).bind λwd=>
  (c7 (Mb hall ppl one other most reach none none (some (.im st)) (some (.im d)) (some (.im wd)))).bind λrow=>if few fo=true then Gw hall ppl q one other most reach r (fo++[row]) else .bad
noncomputable def F_images:List D->M S
 |[hall,.lst ppl,one,other,most,reach]=>(match Br [] ppl with
  |some q=>if ppl.length<=1000000 then(iI (Mb hall ppl one other most reach none none none none none)).bind λsteps=>if steps.length<=5000 then(Gw hall ppl q one other most reach steps []).bind λfo=>.ok (.ow fo) else .bad else .bad
  |none=>.bad)
 |_=>.bad
def Sj {ds:List D}{s:S}(h:F_images ds=.ok s):∃hall ppl one other most reach q steps fo,ds=[hall,.lst ppl,one,other,most,reach]/\Br [] ppl=some q/\ppl.length<=1000000/\iI (Mb hall ppl one other most reach none none none none none)=.ok steps/\steps.length<=5000/\Gw hall ppl q one other most reach steps []=.ok fo/\s=.ow fo:=by
 unfold F_images at h
 split at h
 .rename_i hall ppl one other most reach
  split at h
  .rename_i q hq
   split at h
   .rename_i hl
    obtain⟨steps,e1,h⟩:=bind_ok h
    split at h
    .rename_i hs
     obtain⟨fo,e2,h⟩:=bind_ok h
     cases h
     exact⟨hall,ppl,one,other,most,reach,q,steps,fo,rfl,hq,hl,e1,hs,e2,rfl⟩
    .cases h
   .cases h
  .cases h
 .cases h
def Op {hall:D}{ppl:List D}{one other most reach:D}{a:Addr}{g:D}{kv:ZC}{fo:List D}{t8 t9 t10:Option S}(h8:Pl t8)(h9:Pl t9)(UY:Pl t10)(i:Nat)(t:S)(h:(Mb hall ppl one other most reach (some (.fl a g kv)) (some (.ow fo)) t8 t9 t10)[i]?=some (some t))(o:t.own=true):∃ds,t=.ow ds:=by
 match i,h with
 |0,h=>cases h;cases o
 |1,h=>cases h;cases o
 |2,h=>cases h;cases o
 |3,h=>cases h;cases o
 |4,h=>cases h;cases o
 |5,h=>cases h;cases o
 |6,h=>cases h;cases o
 |7,h=>cases h;exact⟨_,rfl⟩
 |8,h=>obtain⟨d,rfl⟩:=h8 t (BJ h);cases o
 |9,h=>obtain⟨d,rfl⟩:=h9 t (BJ h);cases o
 |10,h=>obtain⟨d,rfl⟩:=UY t (BJ h);cases o
 |i+11,h=>cases h
section
variable {P:Program}{w:World}{K:PySem.W.Frag}{mg:Str->Option Value}{base:Heap}
abbrev Vg:List Str:=["hall","people","one","other","most","reach","floor","found","step","told","word"]
def sc_images:MK Vg ["hall","people","one","other","most","reach"] (Zf X4):=⟨rfl,rfl,rfl,by decide +kernel,rfl,by decide +kernel,by decide +kernel⟩
abbrev xA (i:Nat):Stmt:=(Xe X4).getD i (.Pass ⟨0,0,0,0⟩)
abbrev xB (i:Nat):Stmt:=(pJ (xA 2)).getD i (.Pass ⟨0,0,0,0⟩)
def Zbr {f:Addr}{fd:FuncData}{CF:Addr} (F:Fun K "images" "images" X4 f fd) {f1 f2 f3 f4:Addr}{OB OR VO XX:FuncData}{l3 l4:Nat}
  (fq:Mk K CF f1) (G1:MM P w K mg base Yf 2 f1 OB ["self","hall","people"] (iJ K CF (Br []))) (b1:Binds K OB ["self","hall","people"] []) (m1:mg "Floor"=some (.ref CF))
  (G2:MM P w K mg base Yf 6 f2 OR ["floor","point","step","most"] (cj K fW)) (b2:Binds K OR ["floor","point","step","most"] []) (k2:PySem.W.keepIn K (.ref f2)=true) (m2:mg "walk_on"=some (.ref f2))
  (h3:l3<=6) (G3:MM P w K mg base Yf l3 f3 VO ["one","other","reach_across","reach_upward"] (R9 K Yk)) (b3:Binds K VO ["one","other","reach_across","reach_upward"] []) (k3:PySem.W.keepIn K (.ref f3)=true) (m3:mg "steps_to_images"=some (.ref f3))
  (h4:l4<=6) (G4:MM P w K mg base Yf l4 f4 XX ["told","person"] (R9 K Vz)) (b4:Binds K XX ["told","person"] []) (k4:PySem.W.keepIn K (.ref f4)=true) (m4:mg "is_way"=some (.ref f4)):
  MM P w K mg base Yf 7 f fd ["hall","people","one","other","most","reach"] (R9 K F_images):=by
 refine F.ok sc_images (λvs H Q E h=>?_) (λMP A outer s H vs Q E hr h=>?_)
 .obtain⟨Hf,ds,s,e,rs,hF,_⟩:=h
  obtain⟨hall,ppl,one,other,most,reach,q,steps,fo,rfl,_⟩:=Sj hF
  rw[<-rs.length]
  rfl
 .obtain⟨Hf,ds,s',e,rs,hF,kk⟩:=h
  obtain⟨hall,ppl,one,other,most,reach,q,steps,fo,rfl,hq,hl,kI,uV,gN,rfl⟩:=Sj hF
  obtain⟨tF,pF,qF⟩:L9 (Xo Yf P w K mg base Vg "images" (Zf X4) f MP A outer s H E).nox E0 _ _:=Za (Zb 0) (Za (Zb 1) Ze)
  obtain⟨t2,p2,q2⟩:N4 (Xo Yf P w K mg base Vg "images" (Zf X4) f MP A outer s H E).nox E0 (xA 1) _:=K8 7 sc_images.nd (Ub Ze)
  obtain⟨wi,pI,qI⟩:ah (Xo Yf P w K mg base Vg "images" (Zf X4) f MP A outer s H E).nox E0 _ _ iI:=Xw (Xh G3 (hr.mono (by lia)) m3 k3 b3 (Za (Qz (Zb 1) (Zb 2) (λ_ _=>rfl)) (Za (Qz (Zb 1) (Zb 3) (λ_ _=>rfl)) (Za (Zb 5) (Za (Zb 5) Ze)))))
  obtain⟨tg,pG,qG⟩:aM (Xo Yf P w K mg base Vg "images" (Zf X4) f MP A outer s H E).nox _ (Xd 8):=Z5 8 sc_images.nd
  obtain⟨tA,pA,qA⟩:aI (Xo Yf P w K mg base Vg "images" (Zf X4) f MP A outer s H E).nox E0 _ _:=Ku 6 (Va (Qz (Zb 1) (Zb 2) (λ_ _=>rfl)) (Va (Zb 8) (Va (Zb 4) Pj)))
  obtain⟨tR,pR,qR⟩:N5 (Xo Yf P w K mg base Vg "images" (Zf X4) f MP A outer s H E).nox E0 [xB 1,xB 2] (Zz (Qa 10 Ei) (Uv 7 c7)):=Zh (Zs 10 sc_images.nd (Kv (Xg (Xh G4 (hr.mono (by lia)) m4 k4 b4 (Za (Zb 9) (Za (Qz (Zb 1) (Zb 3) (λ_ _=>rfl)) Ze)))) Qw (Zy (Zb 9)))) (Zl (Uc 7 (Qi (Za (Zy (Zb 8)) (Za (Zy (Zb 8)) (Za (Zb 10) (Za (Zy (Zb 9)) Ze)))))))
  obtain⟨tE,pE,qE⟩:N4 (Xo Yf P w K mg base Vg "images" (Zf X4) f MP A outer s H E).nox E0 (xA 3) _:=W0 7
  refine⟨_,Qg (K3 sc_images.nd (i:=6) rfl (.inl rfl) (N2 (dvs:=[]) (E:=E0) fq G1 hr.m (by rfl) m1 b1 .nil Jj pF) rfl (.inl rfl))
   (Qg p2 (Qg (Tg BN rfl pI pG (Qg (K3 sc_images.nd (i:=9) rfl (.inl rfl) (Ka (dvs:=[]) (E:=E0) G2 hr.m (by rfl) m2 k2 b2 .nil Jj pA) rfl (.inl rfl)) pR)) (Xu pE))),?_⟩
  have sr0:=Tq (K:=K) (N:=Vg) (m:=5) e rs rfl
  refine qF _ _ _ _ _ _ _ sr0 ?_
  show Po K E0 (rA K) Hf H (M.ok [hall,.lst ppl]) _
  intro r6 ML H1 g1 rs1 x dx hx XM hne
  obtain⟨vh,_,rfl,rh,rs1⟩:=reps_cons.mp rs1
  obtain⟨vp,_,rfl,rp,rs1⟩:=reps_cons.mp rs1
  cases reps_nil.mp rs1
  have sm:Same H1 (upd (upd H1 dx (.own x)) x (.ins CF dx [])):=(Qc XM _).trans (Qc ((Zm hne.symm).trans hx) _)
  refine⟨ML,x,dx,hall,ppl,q,vh,vp,rfl,g1.sub.trans sm,none_of g1.sub hx,Zq,rh,rp,hl,hq,λMT H2 k s1 s2 al ba fl hk ck nk=>⟨rfl,?_⟩⟩
  have sr1:=sr0.gr g1
  have sr2:SR K H _ MT (Mb hall ppl one other most reach (some (.fl x hall (qD q))) none none none none) _ H2:=Eh (i:=6) sr1 (λj t h=>by
   match j,h with
   |0,h=>cases h;rfl
   |1,h=>cases h;rfl
   |2,h=>cases h;rfl
   |3,h=>cases h;rfl
   |4,h=>cases h;rfl
   |5,h=>cases h;rfl
   |6,h=>cases h
   |7,h=>cases h
   |8,h=>cases h
   |9,h=>cases h
   |10,h=>cases h
   |j+11,h=>cases h) hx XM hne s1 s2 al ba fl
  have WC:H k=none:=none_of (g1.all.trans sm) nk
  have ca2:CaAt K (Vv Qp hall) 0 MT H2 k:=⟨[],[],ck,.nil,AQ _,λ_ _ _ _ h=>by cases h⟩
  have bt:∀b,(Lv H b/\Hf b=none)->Lv H b:=λb hb=>hb.1
  have UH:=sr2.keep ck ca2.lv hk (sr2.offD ck λi t h o=>by
   match i,h with
   |0,h=>cases h;cases o
   |1,h=>cases h;cases o
   |2,h=>cases h;cases o
   |3,h=>cases h;cases o
   |4,h=>cases h;cases o
   |5,h=>cases h;cases o
   |6,h=>cases h;cases o
   |7,h=>cases h
   |8,h=>cases h
   |9,h=>cases h
   |10,h=>cases h
   |i+11,h=>cases h)
  refine q2 _ _ _ _ _ _ _ UH (Kq (sd':=Mb hall ppl one other most reach (some (.fl x hall (qD q))) (some (.ow [])) none none none) rfl λσ3 QV H3 s3 sr3=>?_)
  obtain⟨j6,jo,sr3⟩:=sr3.back WC bt
  have ca3:CaAt K (Vv Qp hall) 0 QV H3 k:=⟨[],[],j6,.nil,AQ _,λ_ _ _ _ h=>by cases h⟩
  have fl3:=fl.mono s3
  have sA:=g1.fz.trans (s1.trans s3)
  clear UH sr2 sr1 ca2
  refine qI _ _ _ _ _ _ _ sr3 ?_
  rw[show iI (Mb hall ppl one other most reach (some (.fl x hall (qD q))) (some (.ow [])) none none none)=.ok steps from kI]
  intro J YQ H4 g4 J4
  refine⟨λi m σ' H'=>m=steps.length-i/\∃MJ OI t7 t8 t10,Same YQ MJ/\SR K H (λb=>Lv H b/\Hf b=none) MJ (Mb hall ppl one other most reach (some (.fl x hall (qD q))) (some (.ow OI)) t7 t8 t10) σ' H'/\MJ k=none/\CaAt K (Vv Qp hall) (3000*i) MJ H' k/\Pl t7/\Pl t8/\Pl t10/\Gw hall ppl q one other most reach (steps.drop i) OI=.ok fo,
   ⟨_,rfl,YQ,[],none,none,none,Same.refl _,sr3.gr g4,g4.ban k ca3.lv jo,ca3.mono g4.fz (λo z=>g4.all _ _ z),Y4,Y4,Y4,gN⟩,?_⟩
  rintro i m σ5 H5 ⟨rfl,PV,OI,t7,t8,t10,s5,sr5,cL,ca5,h7,h8,UY,ON⟩
  have jj:=J4 i PV H5 s5 sr5.sub
  cases qi:steps[i]? with
  |none=>
   rw[qi] at jj
   refine .inl ⟨jj,?_⟩
   rw[DY (BL.mp qi)] at ON
   cases ON
   refine qE _ _ _ _ _ _ _ sr5 ?_
   show PoS K E0 _ _ PV (M.ok (O.rt (.ow fo))) _
   intro v MJ H' s6 fin rv
   exact kk v MJ H' ⟨sA.trans (g4.fz.trans (s5.trans s6)),fin.sub,fin.all,λb hb hn=>fin.ban b ⟨hb,hn⟩⟩ rv
  |some st=>
   rw[qi] at jj
   obtain⟨go,yl⟩:=jj
   have OF:i<steps.length:=(AE.mp qi).1
   have hd:steps.drop i=st::steps.drop (i+1):=by
    rw[CM OF]
    congr 1
    exact(AE.mp qi).2
   rw[hd] at ON
   refine .inr ⟨go,λσ' H'=>∃MJ OI t7 t8 t10,Same YQ MJ/\SR K H (λb=>Lv H b/\Hf b=none) MJ (Mb hall ppl one other most reach (some (.fl x hall (qD q))) (some (.ow OI)) t7 t8 t10) σ' H'/\MJ k=none/\CaAt K (Vv Qp hall) (3000*(i+1)) MJ H' k/\Pl t7/\Pl t8/\Pl t10/\Gw hall ppl q one other most reach (steps.drop (i+1)) OI=.ok fo,
    λσ' H' w=>⟨steps.length-(i+1),by lia,rfl,w⟩,λy H6 y6=>?_⟩
   obtain⟨YO,g6,ry⟩:=yl y H6 y6
   have sr6:=sr5.gr g6
   have cK:YO k=none:=g6.ban k ca5.lv cL
   have ca6:=ca5.mono g6.fz (λo z=>g6.all _ _ z)
   refine qG _ _ YO _ σ5 H6 y st (Mb hall ppl one other most reach (some (.fl x hall (qD q))) (some (.ow OI)) (some (.im st)) t8 t10) _ sr6 ry rfl λσ7 sr7=>?_
   unfold Gw at ON
   obtain⟨pt,kL,ON⟩:=bind_ok ON
   obtain⟨d,ed,ON⟩:=bind_ok ON
   obtain⟨b,eb,ON⟩:=bind_ok ON
   obtain⟨row,bp,ON⟩:=bind_ok ON
   refine qA _ _ _ _ _ _ _ sr7 ?_
   have ea:Vt 6 (Uw (Zn Ys (Zd 1) (Zd 2)) (Uw (Zd 8) (Uw (Zd 4) T7))) (Mb hall ppl one other most reach (some (.fl x hall (qD q))) (some (.ow OI)) (some (.im st)) t8 t10)=.ok [.fl x hall (qD q),.im pt,.im st,.im most]:=by
    have:Zn Ys (Zd 1) (Zd 2) (Mb hall ppl one other most reach (some (.fl x hall (qD q))) (some (.ow OI)) (some (.im st)) t8 t10)=.ok pt:=kL
    unfold Vt Uw
    rw[this]
    rfl
   rw[ea]
   intro iu ai H8 g8 jC
   show cj K fW (iu++[]) H8 _ E0
   rw[BP]
   rcases jC with _|⟨⟨_,r0⟩,_|⟨⟨_,r1⟩,_|⟨⟨_,r2⟩,_|⟨⟨_,r3⟩,_|_⟩⟩⟩⟩
   have kF:FlK K ai x hall (qD q) k:=fl3.mono (g4.fz.trans (s5.trans (g6.fz.trans g8.fz)))
   obtain⟨_,_,_,_,_,_,rfl,_⟩:=id r0
   have sr8:=sr7.gr g8
   have d8:ai k=none:=g8.ban k ca6.lv cK
   have ca8:=ca6.mono g8.fz (λo z=>g8.all _ _ z)
   refine⟨ai,x,hall,qD q,k,pt,st,most,d,_,3000*i,rfl,g8.sub,kF,d8,ca8,by lia,Reps.cons r1 (Reps.cons r2 (Reps.cons r3 Reps.nil)),λa1 a2=>lS ed x a1 a2,λv' aN H9 gm ca9 YS=>?_⟩
   obtain⟨c8,y8,j5,_⟩:=id ca8
   have cJ:aN k=none:=gm.ban k ca8.lv d8
   have sr9:SR K _ _ aN (Mb hall ppl one other most reach (some (.fl x hall (qD q))) (some (.ow OI)) (some (.im st)) (some (.im d)) t10) _ H9:=(sr8.grM gm WC (sr8.offD j5 (Op Qx h8 UY))).set_im 9 YS
   obtain⟨c9,y9,aS,rc9,tX,gX⟩:=id ca9
   have UH:=sr9.keep aS ca9.lv cJ (sr9.offD aS (Op Qx Qx UY))
   have sAll:=s5.trans (g6.fz.trans (g8.fz.trans gm.fz))
   split at ON
   case isFalse=>cases ON
   rename_i hfew
   refine qR _ _ _ _ _ _ _ UH (Kq (sd':=Mb hall ppl one other most reach (some (.fl x hall (qD q))) (some (.ow (OI++[row]))) (some (.im st)) (some (.im d)) (some (.im b))) ?_ λσ10 UE il s10 sr10=>?_)
   .have cX:Ei (Mb hall ppl one other most reach (some (.fl x hall (qD q))) (some (.ow OI)) (some (.im st)) (some (.im d)) t10)=.ok b:=eb
    have kK:c7 (Mb hall ppl one other most reach (some (.fl x hall (qD q))) (some (.ow OI)) (some (.im st)) (some (.im d)) (some (.im b)))=.ok row:=bp
    unfold Zz Qa
    rw[cX]
    show(c7 (Mb hall ppl one other most reach (some (.fl x hall (qD q))) (some (.ow OI)) (some (.im st)) (some (.im d)) (some (.im b)))).bind (λd=>if few OI=true then _ else _)=_
    rw[kK]
    show(if few OI=true then _ else _)=_
    rw[AD hfew]
    rfl
   obtain⟨SY,RM,sr10⟩:=sr10.back WC bt
   exact⟨UE,_,_,_,_,sAll.trans s10,sr10,RM,⟨c9,y9,SY,rc9.mono s10,by lia,gX⟩,Qx,Qx,Qx,ON⟩
end
section
variable {P:Program}{w:World}{K:PySem.W.Frag}{mg:Str->Option Value}{base:Heap}
noncomputable def Y6:List D->M S:=V5 2 0
  (Zz (Js (tB (Zn Mf (Zd 1) (K6 Wj (Zc (Zd 0) Zj)))) (Qs (Zn Ys (Zd 0) (Zd 1))) Yp)
   (Qs ↑0))
def Zbs:MK ["_law_script","_law_k"] ["_law_script","_law_k"] (Zf Lh):=⟨rfl,rfl,rfl,by decide +kernel,rfl,by decide +kernel,by decide +kernel⟩
def Zbt (d:Dm K mg "_law_cell" Lh) (MX:mg "len"=none):Cl P w K mg base 1 "_law_cell" ["_law_script","_law_k"] Y6:=
 d.cl (by trivial) λ_ _ F=>Jl F Zbs rfl rfl λMP A outer s H E hr=>
  (Zh (Ql (Z0 N7 (Zb 1) (Qr Wu (by rfl) MX (by rfl) (Za (Zb 0) Ze)) (Z4 _)) (Zl (Zv (Qz (Zb 0) (Zb 1) (λ_ _=>rfl)))) Qd)
   (Zl (Zv Zi)))
noncomputable def Y7:List D->M S:=V5 2 4
  (Zz (Tv 2 (Dl Zj))
   (Zz (Qa 3 (Zn Q7 (Zn Zt (Zn Z8 (Zn Q7 (Zd 0) ↑1999999973) ↑31) ↑765432101) ↑1999999973))
   (Zz (Qa 4 ↑0)
   (Zz (Js (tO (tB (Zn Mf (Zd 0) ↑0)) (tB (Zn fJ (Zd 0) (Zn iT ↑10 ↑18)))) (Qa 4 (K6 Wt (Zc (Zd 0) Zj))) Yp)
   (Zz (Ke (Yc (Zc (Zd 1) Zj)) (Xd 5) (Zz (Qa 3 (Zn Q7 (Zn Z8 (Zn Z8 (Zn Zt (Zd 3) (Zn Z8 (Zn Q7 (Zd 3) ↑65521) ↑40487)) (Zn Zt ↑7 (Zd 5))) ↑5) ↑1999999973))
   (Zz (Uv 2 (Zn Ys (Jk (Zc (Zd 3) (Zc (Zn Q7 (Zd 4) ↑1000000) Zj))) (K6 dH (Zc (Zn N6 (Zd 4) ↑0) Zj))))
   (Qa 4 (Zn Yz (Zd 4) ↑1000000)))))
   (Dp 2))))))
def sc_l_numbers:MK ["_law_cell_here","_law_many","_law_found","_law_number","_law_digits","_law_k"] ["_law_cell_here","_law_many"] (Zf W6):=⟨rfl,rfl,rfl,by decide +kernel,rfl,by decide +kernel,by decide +kernel⟩
def Cb (d:Dm K mg "_law_numbers" W6) (NA:mg "abs"=none) (MN:mg "range"=none) (PL:mg "int"=none):Cl P w K mg base 1 "_law_numbers" ["_law_cell_here","_law_many"] Y7:=
 d.cl (by trivial) λ_ _ F=>Jl F sc_l_numbers rfl rfl λMP A outer s H E hr=>
  (Zh (K8 2 sc_l_numbers.nd (Ub Ze))
   (Zh (Zs 3 sc_l_numbers.nd (Zp Yg (Zp Z2 (Zp Qf (Zp Yg (Zb 0) Zi) Zi) Zi) Zi))
   (Zh (Zs 4 sc_l_numbers.nd Zi)
   (Zh (Ql ((Wv (Z0 N7 (Zb 0) Zi (Z4 _)) (V8 (Z0 xO (Zb 0) (Zp zS Zi Zi) (Z4 _))))).pt (Zl (Zs 4 sc_l_numbers.nd (Qr Na (by rfl) NA (by rfl) (Za (Zb 0) Ze)))) Qd)
   (Zh (Xm BN rfl (Yt (by rfl) MN (Za (Zb 1) Ze)) (Z5 5 sc_l_numbers.nd) (Zh (Zs 3 sc_l_numbers.nd (Zp Yg (Zp Qf (Zp Qf (Zp Z2 (Zb 3) (Zp Qf (Zp Yg (Zb 3) Zi) Zi)) (Zp Z2 Zi (Zb 5))) Zi) Zi))
   (Zh (Uc 2 (Qz (X1 (Za (Zb 3) (Za (Zp Yg (Zb 4) Zi) Ze))) (De zR (by rfl) PL (by rfl) (Za (Ko N8 (Zb 4) Zi (Z4 _)) Ze)) (λ_ _=>rfl)))
   (Zl (Zs 4 sc_l_numbers.nd (Zp Xf (Zb 4) Zi))))))
   (Zl (W0 2)))))))
noncomputable def We:List D->M S:=V5 2 0
  (Zz (Qa 0 (K6 Wt (Zc (Zd 0) Zj)))
   (Zz (Qa 1 (K6 Wt (Zc (Zd 1) Zj)))
   (Zz (Nb (tB (Zn N6 (Zd 1) ↑0)) (Rh 0 1 (Zc (Zd 1) (Zc (Zn Q7 (Zd 0) (Zd 1)) Zj))))
   (Qs (Zd 0)))))
def sc_l_common:MK ["_law_one","_law_other"] ["_law_one","_law_other"] (Zf Nm):=⟨rfl,rfl,rfl,by decide +kernel,rfl,by decide +kernel,by decide +kernel⟩
def Ej (d:Dm K mg "_law_common" Nm) (NA:mg "abs"=none):Cl P w K mg base 1 "_law_common" ["_law_one","_law_other"] We:=
 d.cl (by trivial) λ_ _ F=>Jl F sc_l_common rfl rfl λMP A outer s H E hr=>
  (Zh (Zs 0 sc_l_common.nd (Qr Na (by rfl) NA (by rfl) (Za (Zb 0) Ze)))
   (Zh (Zs 1 sc_l_common.nd (Qr Na (by rfl) NA (by rfl) (Za (Zb 1) Ze)))
   (Zh (M9 BN (Z0 N8 (Zb 1) Zi (Z4 _)) (Zl (Ai 0 1 rfl sc_l_common.nd (Za (Zb 1) (Za (Zp Yg (Zb 0) (Zb 1)) Ze)) (by rfl))))
   (Zl (Zv (Zb 0))))))
noncomputable def Xa:List D->M S:=V5 2 1
  (Zz (Qa 2 (Zu We (Zc (Zd 0) (Zc (Zd 1) Zj))))
   (Qs (Q0 (Zc (Zn Yz (Zd 0) (Zd 2)) (Zc (Zn Yz (Zd 1) (Zd 2)) Zj)))))
def sc_l_lowest:MK ["_law_top","_law_bottom","_law_shared"] ["_law_top","_law_bottom"] (Zf Nn):=⟨rfl,rfl,rfl,by decide +kernel,rfl,by decide +kernel,by decide +kernel⟩
def Ek (d:Dm K mg "_law_lowest" Nn) (OP:Cl P w K mg base 1 "_law_common" ["_law_one","_law_other"] We):Cl P w K mg base 2 "_law_lowest" ["_law_top","_law_bottom"] Xa:=
 d.cl (by trivial) λ_ _ F=>Jl F sc_l_lowest rfl rfl λMP A outer s H E hr=>
  (Zh (Zs 2 sc_l_lowest.nd (Zx OP hr.m (Za (Zb 0) (Za (Zb 1) Ze))))
   (Zl (Zv (Qi (Za (Zp Xf (Zb 0) (Zb 2)) (Za (Zp Xf (Zb 1) (Zb 2)) Ze))))))
noncomputable def Ux:List D->M S:=V5 6 2
  (Zz (Qa 6 (Zn Ys ↑"mpm" (Zn Q7 (Zd 5) ↑3)))
   (Zz (Qa 7 (Zn Ys ↑"mmp" (Zn Q7 (Zn Yz (Zd 5) ↑3) ↑3)))
   (Zz (Js (tO (tA (tB (W2 Mf Mf ↑0 (Zd 3) (Zd 4))) (tB (Zn N6 (Zn Q7 (Zn Yz (Zd 5) ↑9) ↑3) ↑0))) (tA (tN (tB (W2 Mf Mf ↑0 (Zd 3) (Zd 4)))) (tB (Zn Kp (Zn Q7 (Zn Yz (Zd 5) ↑9) ↑6) ↑5)))) (Qs (Jk Zj)) Yp)
   (Zz (Js (tB (Zn Kp (Zd 3) ↑0)) (Qa 6 ↑"p") Yp)
   (Zz (Js (tB (Zn Kp (Zd 3) (Zd 4))) (Qa 7 ↑"p") Yp)
   (Qs (Jk (Zc (Q0 (Zc (Zd 0) (Zc (Zd 1) (Zc (Zd 2) (Zc (Zd 6) (Zc (Zd 7) Zj)))))) Zj))))))))
def sc_l_side:MK ["_law_kind","_law_x","_law_y","_law_at","_law_end","_law_number","_law_one","_law_other"] ["_law_kind","_law_x","_law_y","_law_at","_law_end","_law_number"] (Zf Li):=⟨rfl,rfl,rfl,by decide +kernel,rfl,by decide +kernel,by decide +kernel⟩
def Zbu (d:Dm K mg "_law_side" Li)  : Cl P w K mg base 1 "_law_side" ["_law_kind","_law_x","_law_y","_law_at","_law_end","_law_number"] Ux:=
 d.cl (by trivial) λ_ _ F=>Jl F sc_l_side rfl rfl λMP A outer s H E hr=>
  (Zh (Zs 6 sc_l_side.nd (Qz Qw (Zp Yg (Zb 5) Zi) (λ_ _=>rfl)))
   (Zh (Zs 7 sc_l_side.nd (Qz Qw (Zp Yg (Zp Xf (Zb 5) Zi) Zi) (λ_ _=>rfl)))
   (Zh (Ql ((Wv ((V9 (Be N7 N7 Zi (Zb 3) (Zb 4)) (Vn (Z0 N8 (Zp Yg (Zp Xf (Zb 5) Zi) Zi) Zi (Z4 _))))).pt (V8 ((V9 (K7 (Be N7 N7 Zi (Zb 3) (Zb 4))) (Vn (Z0 (Y2 hr.units) (Zp Yg (Zp Xf (Zb 5) Zi) Zi) Zi (Z4 _))))).pt))).pt (Zl (Zv (X1 Ze))) Qd)
   (Zh (Ql (Z0 (Y2 hr.units) (Zb 3) Zi (Z4 _)) (Zl (Zs 6 sc_l_side.nd Qw)) Qd)
   (Zh (Ql (Z0 (Y2 hr.units) (Zb 3) (Zb 4) (Z4 _)) (Zl (Zs 7 sc_l_side.nd Qw)) Qd)
   (Zl (Zv (X1 (Za (Qi (Za (Zb 0) (Za (Zb 1) (Za (Zb 2) (Za (Zb 6) (Za (Zb 7) Ze)))))) Ze)))))))))
noncomputable def Pv:List D->M S:=V5 3 4
  (Zz (Tv 3 (Do Y7 (Zc (Zd 0) (Zc (Zn Z8 (Zn Z8 (Zn Zt (Zn Zt ↑2 (Zd 1)) (Zd 2)) (Zd 1)) (Zd 2)) Zj))))
   (Zz (Qa 4 (Jk Zj))
   (Zz (Ke (Yc (Zc (Zn Z8 (Zd 1) ↑1) Zj)) (Xd 5) (Ke (Yc (Zc (Zd 2) Zj)) (Xd 6) (D0 4 (fN Z8 (Zd 4) (Bk Ux (Yw ↑"up" (Yw (Zd 5) (Yw (Zd 6) (Yw (Zd 5) (Yw (Zd 1) (Ro (Dy 3))))))))))))
   (Zz (Ke (Yc (Zc (Zd 1) Zj)) (Xd 5) (Ke (Yc (Zc (Zn Z8 (Zd 2) ↑1) Zj)) (Xd 6) (D0 4 (fN Z8 (Zd 4) (Bk Ux (Yw ↑"flat" (Yw (Zd 5) (Yw (Zd 6) (Yw (Zd 6) (Yw (Zd 2) (Ro (Dy 3))))))))))))
   (Qs (Q0 (Zc (Zd 1) (Zc (Zd 2) (Zc (K6 Fu (Zc (K6 T4 (Zc (Zd 4) Zj)) Zj)) Zj)))))))))
def sc_l_hall:MK ["_law_cell_here","_law_width","_law_height","_law_xs","_law_sides","_law_x","_law_y"] ["_law_cell_here","_law_width","_law_height"] (Zf Lj):=⟨rfl,rfl,rfl,by decide +kernel,rfl,by decide +kernel,by decide +kernel⟩
def Zbv (d:Dm K mg "_law_hall" Lj) (MS:Cl P w K mg base 1 "_law_numbers" ["_law_cell_here","_law_many"] Y7) (OV:Cl P w K mg base 1 "_law_side" ["_law_kind","_law_x","_law_y","_law_at","_law_end","_law_number"] Ux) (MN:mg "range"=none) (NF:mg "sorted"=none) (NM:mg "tuple"=none):Cl P w K mg base 2 "_law_hall" ["_law_cell_here","_law_width","_law_height"] Pv:=
 d.cl (by trivial) λ_ _ F=>Jl F sc_l_hall rfl rfl λMP A outer s H E hr=>
  (Zh (K8 3 sc_l_hall.nd (Zbl MS hr.m (Za (Zb 0) (Za (Zp Qf (Zp Qf (Zp Z2 (Zp Z2 Zi (Zb 1)) (Zb 2)) (Zb 1)) (Zb 2)) Ze))))
   (Zh (Zs 4 sc_l_hall.nd (X1 Ze))
   (Zh (Xm BN rfl (Yt (by rfl) MN (Za (Zp Qf (Zb 1) Zi) Ze)) (Z5 5 sc_l_hall.nd) (Zl (Xm BN rfl (Yt (by rfl) MN (Za (Zb 2) Ze)) (Z5 6 sc_l_hall.nd) (Zl (Oa 4 sc_l_hall.nd (pS Qf (Zb 4) (D8 OV hr.m (Jm Qw (Jm (Zb 5) (Jm (Zb 6) (Jm (Zb 5) (Jm (Zb 1) (Dz (rC 3))))))))))))))
   (Zh (Xm BN rfl (Yt (by rfl) MN (Za (Zb 1) Ze)) (Z5 5 sc_l_hall.nd) (Zl (Xm BN rfl (Yt (by rfl) MN (Za (Zp Qf (Zb 2) Zi) Ze)) (Z5 6 sc_l_hall.nd) (Zl (Oa 4 sc_l_hall.nd (pS Qf (Zb 4) (D8 OV hr.m (Jm Qw (Jm (Zb 5) (Jm (Zb 6) (Jm (Zb 6) (Jm (Zb 2) (Dz (rC 3))))))))))))))
   (Zl (Zv (Qi (Za (Zb 1) (Za (Zb 2) (Za (De Zdf (by rfl) NM (by rfl) (Za (Qr Zd3 (by rfl) NF (by rfl) (Za (Zb 4) Ze)) Ze)) Ze))))))))))
noncomputable def V0:List D->M S:=V5 3 2
  (Zz (Qa 3 (Zn Z8 ↑2 (Zn Q7 (Zd 0) (Zn Ys (Jk (Zc ↑4 (Zc ↑8 (Zc ↑30 (Zc ↑999 Zj))))) (Zn Q7 (Zn Yz (Zd 0) ↑1000) ↑4)))))
   (Zz (Qa 4 (Zn Z8 ↑1 (Zn Q7 (Zd 1) (Zn Vl (Zn Zt (Zd 2) (Zd 3)) ↑1))))
   (Zz (Js (tB (Zn Kp (Zn Q7 (Zd 4) (Zd 3)) ↑0)) (Qa 4 (Zn Vl (Zd 4) ↑1)) Yp)
   (Qs (Zu Xa (Zc (Zd 4) (Zc (Zd 3) Zj)))))))
def sc_l_part:MK ["_law_number","_law_other","_law_size_here","_law_bottom","_law_top"] ["_law_number","_law_other","_law_size_here"] (Zf Lk):=⟨rfl,rfl,rfl,by decide +kernel,rfl,by decide +kernel,by decide +kernel⟩
def Zbw (d:Dm K mg "_law_part" Lk) (MU:Cl P w K mg base 2 "_law_lowest" ["_law_top","_law_bottom"] Xa):Cl P w K mg base 3 "_law_part" ["_law_number","_law_other","_law_size_here"] V0:=
 d.cl (by trivial) λ_ _ F=>Jl F sc_l_part rfl rfl λMP A outer s H E hr=>
  (Zh (Zs 3 sc_l_part.nd (Zp Qf Zi (Zp Yg (Zb 0) (Qz (X1 (Za Zi (Za Zi (Za Zi (Za Zi Ze))))) (Zp Yg (Zp Xf (Zb 0) Zi) Zi) (λ_ _=>rfl)))))
   (Zh (Zs 4 sc_l_part.nd (Zp Qf Zi (Zp Yg (Zb 1) (Zp Kc (Zp Z2 (Zb 2) (Zb 3)) Zi))))
   (Zh (Ql (Z0 (Y2 hr.units) (Zp Yg (Zb 4) (Zb 3)) Zi (Z4 _)) (Zl (Zs 4 sc_l_part.nd (Zp Kc (Zb 4) Zi))) Qd)
   (Zl (Zv (Zx MU hr.m (Za (Zb 4) (Za (Zb 3) Ze))))))))
noncomputable def V1:List D->M S:=V5 4 8
  (Zz (Qa 4 (Zu Y7 (Zc (Zd 0) (Zc (Zn Zt ↑4 (Zd 1)) Zj))))
   (Zz (Tv 5 (Dl Zj))
   (Zz (Ke (Yc (Zc (Zd 1) Zj)) (Xd 6) (Zz (Sq (Bb (Zd 4) (Xv (Zn Zt ↑4 (Zd 6))) (Xv (Zn Z8 (Zn Zt ↑4 (Zd 6)) ↑4))) (Wh 4 (Q8 (Xd 7) (Q8 (Xd 8) (Q8 (Xd 9) (Q8 (Xd 10) Ww))))))
   (Zz (Qa 11 (Q0 (Zc (Zu V0 (Zc (Zd 7) (Zc (Zd 8) (Zc (Zd 2) Zj)))) (Zc (Zu V0 (Zc (Zd 9) (Zc (Zd 10) (Zc (Zd 3) Zj)))) Zj))))
   (Js (Sc 5 (tB (Zn Nf (Zd 11) (Zd 5)))) (Uv 5 (Zd 11)) Yp))))
   (Dp 5))))
def sc_l_people:MK ["_law_cell_here","_law_many","_law_width","_law_height","_law_xs","_law_found","_law_k","_law_a","_law_b","_law_c","_law_d","_law_point"] ["_law_cell_here","_law_many","_law_width","_law_height"] (Zf No):=⟨rfl,rfl,rfl,by decide +kernel,rfl,by decide +kernel,by decide +kernel⟩
def El (d:Dm K mg "_law_people" No) (MS:Cl P w K mg base 1 "_law_numbers" ["_law_cell_here","_law_many"] Y7) (OW:Cl P w K mg base 3 "_law_part" ["_law_number","_law_other","_law_size_here"] V0) (MN:mg "range"=none):Cl P w K mg base 4 "_law_people" ["_law_cell_here","_law_many","_law_width","_law_height"] V1:=
 d.cl (by trivial) λ_ _ F=>Jl F sc_l_people rfl rfl λMP A outer s H E hr=>
  (Zh (Zs 4 sc_l_people.nd (Zx MS hr.m (Za (Zb 0) (Za (Zp Z2 Zi (Zb 1)) Ze))))
   (Zh (K8 5 sc_l_people.nd (Ub Ze))
   (Zh (Xm BN rfl (Yt (by rfl) MN (Za (Zb 1) Ze)) (Z5 6 sc_l_people.nd) (Zh (Pa (Kw (Zb 4) (Kd (Zp Z2 Zi (Zb 6))) (Kd (Zp Qf (Zp Z2 Zi (Zb 6)) Zi))) (Gj rfl (Q5 (Z5 7 sc_l_people.nd) (Q5 (Z5 8 sc_l_people.nd) (Q5 (Z5 9 sc_l_people.nd) (Q5 (Z5 10 sc_l_people.nd) Uu))))))
   (Zh (Zs 11 sc_l_people.nd (Qi (Za (Zx OW hr.m (Za (Zb 7) (Za (Zb 8) (Za (Zb 2) Ze)))) (Za (Zx OW hr.m (Za (Zb 9) (Za (Zb 10) (Za (Zb 3) Ze)))) Ze))))
   (Zl (Ql (Zdu 5 (Z0 (Dt (by exact hr.units)) (Zb 11) (Zb 5) (by with_unfolding_all rfl))) (Zl (Uc 5 (Zb 11))) Qd)))))
   (Zl (W0 5)))))
noncomputable def Ga:List D->M S:=V5 1 1
  (Zz (Qa 1 (Jk (Zc (Q0 (Zc ↑1 (Zc ↑1 (Zc ↑2 Zj)))) (Zc (Q0 (Zc ↑2 (Zc ↑1 (Zc ↑1 Zj)))) (Zc (Q0 (Zc ↑1 (Zc ↑2 (Zc ↑1 Zj)))) (Zc (Q0 (Zc ↑2 (Zc ↑2 (Zc ↑1 Zj)))) (Zc (Q0 (Zc ↑1 (Zc ↑2 (Zc ↑2 Zj)))) Zj)))))))
   (Zz (Qa 1 (Zn Z8 (Zd 1) (Jk (Zc (Q0 (Zc ↑2 (Zc ↑1 (Zc ↑2 Zj)))) (Zc (Q0 (Zc ↑3 (Zc ↑1 (Zc ↑1 Zj)))) (Zc (Q0 (Zc ↑3 (Zc ↑2 (Zc ↑0 Zj)))) (Zc (Q0 (Zc ↑3 (Zc ↑3 (Zc ↑0 Zj)))) (Zc (Q0 (Zc ↑1 (Zc ↑3 (Zc ↑1 Zj)))) Zj))))))))
   (Qs (Zn Ys (Zd 1) (Zn Q7 (Zd 0) ↑10)))))
def sc_l_size:MK ["_law_cell_here","_law_some"] ["_law_cell_here"] (Zf Ll):=⟨rfl,rfl,rfl,by decide +kernel,rfl,by decide +kernel,by decide +kernel⟩
def Zbx (d:Dm K mg "_law_size" Ll)  : Cl P w K mg base 1 "_law_size" ["_law_cell_here"] Ga:=
 d.cl (by trivial) λ_ _ F=>Jl F sc_l_size rfl rfl λMP A outer s H E hr=>
  (Zh (Zs 1 sc_l_size.nd (X1 (Za (Qi (Za Zi (Za Zi (Za Zi Ze)))) (Za (Qi (Za Zi (Za Zi (Za Zi Ze)))) (Za (Qi (Za Zi (Za Zi (Za Zi Ze)))) (Za (Qi (Za Zi (Za Zi (Za Zi Ze)))) (Za (Qi (Za Zi (Za Zi (Za Zi Ze)))) Ze)))))))
   (Zh (Zs 1 sc_l_size.nd (Zp Qf (Zb 1) (X1 (Za (Qi (Za Zi (Za Zi (Za Zi Ze)))) (Za (Qi (Za Zi (Za Zi (Za Zi Ze)))) (Za (Qi (Za Zi (Za Zi (Za Zi Ze)))) (Za (Qi (Za Zi (Za Zi (Za Zi Ze)))) (Za (Qi (Za Zi (Za Zi (Za Zi Ze)))) Ze))))))))
   (Zl (Zv (Qz (Zb 1) (Zp Yg (Zb 0) Zi) (λ_ _=>rfl))))))
noncomputable def Jr:List D->M S:=V5 3 0
  (Qs (Zu Xa (Zc (Zn Z8 (Zn Zt 0[0]! 1[1]!) (Zn Zt (Zn Zt (Zd 2) 1[0]!) 0[1]!)) (Zc (Zn Zt 0[1]! 1[1]!) Zj))))
def Zex:MK ["_law_one","_law_other","_law_sign"] ["_law_one","_law_other","_law_sign"] (Zf Aw):=⟨rfl,rfl,rfl,by decide +kernel,rfl,by decide +kernel,by decide +kernel⟩
def Zey (d:Dm K mg "_law_sum" Aw) (MU:Cl P w K mg base 2 "_law_lowest" ["_law_top","_law_bottom"] Xa):Cl P w K mg base 3 "_law_sum" ["_law_one","_law_other","_law_sign"] Jr:=
 d.cl (by trivial) λ_ _ F=>Jl F Zex rfl rfl λMP A outer s H E hr=>
  (Zl (Zv (Zx MU hr.m (Za (Zp Qf (Zp Z2 (Zy (Zb 0)) (Zy (Zb 1))) (Zp Z2 (Zp Z2 (Zb 2) (Zy (Zb 1))) (Zy (Zb 0)))) (Za (Zp Z2 (Zy (Zb 0)) (Zy (Zb 1))) Ze)))))
noncomputable def Xs:List D->M S:=V5 2 0
  (Qs (Zn Mf (Zn Zt 0[0]! 1[1]!) (Zn Zt 1[0]! 0[1]!)))
def Zby:MK ["_law_one","_law_other"] ["_law_one","_law_other"] (Zf Lm):=⟨rfl,rfl,rfl,by decide +kernel,rfl,by decide +kernel,by decide +kernel⟩
def Zbz (d:Dm K mg "_law_less" Lm)  : Cl P w K mg base 1 "_law_less" ["_law_one","_law_other"] Xs:=
 d.cl (by trivial) λ_ _ F=>Jl F Zby rfl rfl λMP A outer s H E hr=>
  (Zl (Zv (Ko N7 (Zp Z2 (Zy (Zb 0)) (Zy (Zb 1))) (Zp Z2 (Zy (Zb 1)) (Zy (Zb 0))) (Z4 _))))
noncomputable def J3:List D->M S:=V5 3 7
  (Zz (Sq (Um (Kx (Yc (Zc ↑2 Zj)) 1 [1,0] (Xd 0) (Zu Jr (Zc (Zn Ys (Zd 1) (Zd 0)) (Zc (Zn Ys (Zd 2) (Zd 0)) (Zc (Dv Pf ↑1) Zj)))))) (Wh 2 (Q8 (Xd 3) (Q8 (Xd 4) Ww))))
   (Zz (Sq (Um (Kx (Yc (Zc ↑2 Zj)) 1 [2,0] (Xd 0) (Zu Jr (Zc (Zn Ys (Zd 1) (Zd 0)) (Zc (Zn Ys (Zd 2) (Zd 0)) (Zc (Dv Pf ↑1) Zj)))))) (Wh 2 (Q8 (Xd 5) (Q8 (Xd 6) Ww))))
   (Zz (Js (tB (Zn Gv (Zn Zt (Zn Zt (Zn Zt 3[0]! 6[0]!) 4[1]!) 5[1]!) (Zn Zt (Zn Zt (Zn Zt 4[0]! 5[0]!) 3[1]!) 6[1]!))) (Qs (eC (.bl false))) Yp)
   (Zz (Ke (Yc (Zc ↑2 Zj)) (Xd 7) (Zz (Rh 8 9 (Zc (Zn Ys (Zd 0) (Zd 7)) (Zc (Zn Ys (Zd 1) (Zd 7)) Zj)))
   (Zz (Js (tB (Zu Xs (Zc (Zd 9) (Zc (Zd 8) Zj)))) (Rh 8 9 (Zc (Zd 9) (Zc (Zd 8) Zj))) Yp)
   (Js (tB (Zn Gv (Zd 8) (Zd 9))) (Qs (Re (Zu Xs (Zc (Zd 8) (Zc (Zn Ys (Zd 2) (Zd 7)) Zj))) (Zu Xs (Zc (Zn Ys (Zd 2) (Zd 7)) (Zc (Zd 9) Zj))))) Yp))))
   (Qs (eC (.bl false)))))))
def sc_l_lies_on:MK ["_law_begin","_law_end","_law_spot","_law_ax","_law_ay","_law_bx","_law_by","_law_k","_law_low","_law_high"] ["_law_begin","_law_end","_law_spot"] (Zf Y3):=⟨rfl,rfl,rfl,by decide +kernel,rfl,by decide +kernel,by decide +kernel⟩
def Cc (d:Dm K mg "_law_lies_on" Y3) (NQ:Cl P w K mg base 3 "_law_sum" ["_law_one","_law_other","_law_sign"] Jr) (OL:Cl P w K mg base 1 "_law_less" ["_law_one","_law_other"] Xs) (MN:mg "range"=none):Cl P w K mg base 4 "_law_lies_on" ["_law_begin","_law_end","_law_spot"] J3:=
 d.cl (by trivial) λ_ _ F=>Jl F sc_l_lies_on rfl rfl λMP A outer s H E hr=>
  (Zh (Pa (Nd (Ky (Nc:=["_law_k","_law_end","_law_begin"]) rfl (Jt (λy hy hf=>Yo (Uo (sc:=Zf Y3) (by decide +kernel) y hy hf))) (F3 (sc:=Zf Y3) rfl rfl (by decide +kernel) (Uo (by decide +kernel)) (λy hy hf=>Yo (Uo (sc:=Zf Y3) (by decide +kernel) y hy hf)) rfl (U5 (N:=["_law_begin","_law_end","_law_spot","_law_ax","_law_ay","_law_bx","_law_by","_law_k","_law_low","_law_high"]) rfl (by decide +kernel))) rfl (by decide +kernel) (by decide +kernel) (Ja (by decide)) (Yt (by rfl) MN (Za Zi Ze)) (λs3 H3 C ex=>Z5 0 (show(["_law_k","_law_end","_law_begin"]:List Str).Nodup by decide +kernel)) (λs3 H3 C ex=>by exact(Zx NQ hr.m (Za (Qz (Zb 1) (Zb 0) (λ_ _=>rfl)) (Za (Qz (Zb 2) (Zb 0) (λ_ _=>rfl)) (Za (Bd Ng Zi) Ze))))))) (Gj rfl (Q5 (Z5 3 sc_l_lies_on.nd) (Q5 (Z5 4 sc_l_lies_on.nd) Uu))))
   (Zh (Pa (Nd (Ky (Nc:=["_law_k","_law_spot","_law_begin"]) rfl (Jt (λy hy hf=>Yo (Uo (sc:=Zf Y3) (by decide +kernel) y hy hf))) (F3 (sc:=Zf Y3) rfl rfl (by decide +kernel) (Uo (by decide +kernel)) (λy hy hf=>Yo (Uo (sc:=Zf Y3) (by decide +kernel) y hy hf)) rfl (U5 (N:=["_law_begin","_law_end","_law_spot","_law_ax","_law_ay","_law_bx","_law_by","_law_k","_law_low","_law_high"]) rfl (by decide +kernel))) rfl (by decide +kernel) (by decide +kernel) (Ja (by decide)) (Yt (by rfl) MN (Za Zi Ze)) (λs3 H3 C ex=>Z5 0 (show(["_law_k","_law_spot","_law_begin"]:List Str).Nodup by decide +kernel)) (λs3 H3 C ex=>by exact(Zx NQ hr.m (Za (Qz (Zb 1) (Zb 0) (λ_ _=>rfl)) (Za (Qz (Zb 2) (Zb 0) (λ_ _=>rfl)) (Za (Bd Ng Zi) Ze))))))) (Gj rfl (Q5 (Z5 5 sc_l_lies_on.nd) (Q5 (Z5 6 sc_l_lies_on.nd) Uu))))
   (Zh (Ql (Z0 (Wy hr.units) (Zp Z2 (Zp Z2 (Zp Z2 (Zy (Zb 3)) (Zy (Zb 6))) (Zy (Zb 4))) (Zy (Zb 5))) (Zp Z2 (Zp Z2 (Zp Z2 (Zy (Zb 4)) (Zy (Zb 5))) (Zy (Zb 3))) (Zy (Zb 6))) (Z4 _)) (Zl (Zv Wr)) Qd)
   (Zh (Xm BN rfl (Yt (by rfl) MN (Za Zi Ze)) (Z5 7 sc_l_lies_on.nd) (Zh (Ai 8 9 rfl sc_l_lies_on.nd (Za (Qz (Zb 0) (Zb 7) (λ_ _=>rfl)) (Za (Qz (Zb 1) (Zb 7) (λ_ _=>rfl)) Ze)) (by rfl))
   (Zh (Ql (Xg (Zx OL hr.m (Za (Zb 9) (Za (Zb 8) Ze)))) (Zl (Ai 8 9 rfl sc_l_lies_on.nd (Za (Zb 9) (Za (Zb 8) Ze)) (by rfl))) Qd)
   (Zl (Ql (Z0 (Wy hr.units) (Zb 8) (Zb 9) (Z4 _)) (Zl (Zv (Tp (Zx OL hr.m (Za (Zb 8) (Za (Qz (Zb 2) (Zb 7) (λ_ _=>rfl)) Ze))) (Ah (Zx OL hr.m (Za (Qz (Zb 2) (Zb 7) (λ_ _=>rfl)) (Za (Zb 9) Ze))))))) Qd)))))
   (Zl (Zv Wr))))))
noncomputable def X6:List D->M S:=V5 5 1
  (Zz (Qa 5 (Zn Z8 (Zn Z8 (Jk (Zc (Zn Ys (Zd 0) (Zd 1)) Zj)) 3[2]!) (Jk (Zc (Zn Ys (Zd 0) (Zd 2)) Zj))))
   (Qs (K6 ff (Zc (Um (Kx (Yc (Zc (Zn Vl (K6 Wj (Zc (Zd 5) Zj)) ↑1) Zj)) 1 [4,5] (Xd 0) (Zu J3 (Zc (Zn Ys (Zd 2) (Zd 0)) (Zc (Zn Ys (Zd 2) (Zn Z8 (Zd 0) ↑1)) (Zc (Zd 1) Zj)))))) Zj))))
def sc_l_through:MK ["_law_people_here","_law_one","_law_other","_law_way","_law_spot","_law_spots"] ["_law_people_here","_law_one","_law_other","_law_way","_law_spot"] (Zf Jz):=⟨rfl,rfl,rfl,by decide +kernel,rfl,by decide +kernel,by decide +kernel⟩
def Cd (d:Dm K mg "_law_through" Jz) (OK:Cl P w K mg base 4 "_law_lies_on" ["_law_begin","_law_end","_law_spot"] J3) (MX:mg "len"=none) (MN:mg "range"=none) (PM:mg "any"=none):Cl P w K mg base 5 "_law_through" ["_law_people_here","_law_one","_law_other","_law_way","_law_spot"] X6:=
 d.cl (by trivial) λ_ _ F=>Jl F sc_l_through rfl rfl λMP A outer s H E hr=>
  (Zh (Zs 5 sc_l_through.nd (Zp Qf (Zp Qf (X1 (Za (Qz (Zb 0) (Zb 1) (λ_ _=>rfl)) Ze)) (Zy (Zb 3))) (X1 (Za (Qz (Zb 0) (Zb 2) (λ_ _=>rfl)) Ze))))
   (Zl (Zv (Qr (qv rfl) (by rfl) PM (by rfl) (Za (Nd (Ky (Nc:=["_law_k","_law_spot","_law_spots"]) rfl (Jt (λy hy hf=>Yo (Uo (sc:=Zf Jz) (by decide +kernel) y hy hf))) (F3 (sc:=Zf Jz) rfl rfl (by decide +kernel) (Uo (by decide +kernel)) (λy hy hf=>Yo (Uo (sc:=Zf Jz) (by decide +kernel) y hy hf)) rfl (U5 (N:=["_law_people_here","_law_one","_law_other","_law_way","_law_spot","_law_spots"]) rfl (by decide +kernel))) rfl (by decide +kernel) (by decide +kernel) (Ja (by decide)) (Yt (by rfl) MN (Za (Zp Kc (Qr Wu (by rfl) MX (by rfl) (Za (Zb 5) Ze)) Zi) Ze)) (λs3 H3 C ex=>Z5 0 (show(["_law_k","_law_spot","_law_spots"]:List Str).Nodup by decide +kernel)) (λs3 H3 C ex=>by exact(Zx OK hr.m (Za (Qz (Zb 2) (Zb 0) (λ_ _=>rfl)) (Za (Qz (Zb 2) (Zp Qf (Zb 0) Zi) (λ_ _=>rfl)) (Za (Zb 1) Ze))))))) Ze)))))
noncomputable def V2:List D->M S:=V5 5 7
  (Zz (Qa 5 (Zn Z8 (Zn Z8 (Jk (Zc (Zn Ys (Zd 0) (Zd 1)) Zj)) 3[2]!) (Jk (Zc (Zn Ys (Zd 0) (Zd 2)) Zj))))
   (Zz (Qa 6 (Zn Q7 (Zd 4) (Zn Vl (K6 Wj (Zc (Zd 5) Zj)) ↑1)))
   (Zz (Qa 7 (Zn Z8 ↑2 (Zn Q7 (Zn Yz (Zd 4) ↑8) ↑6)))
   (Zz (Qa 8 (Zn Z8 ↑1 (Zn Q7 (Zn Yz (Zd 4) ↑64) (Zn Vl (Zd 7) ↑1))))
   (Zz (Tv 9 (Dl Zj))
   (Zz (Ke (Yc (Zc ↑2 Zj)) (Xd 10) (Zz (Qa 11 (Zu Jr (Zc (Zn Ys (Zn Ys (Zd 5) (Zn Z8 (Zd 6) ↑1)) (Zd 10)) (Zc (Zn Ys (Zn Ys (Zd 5) (Zd 6)) (Zd 10)) (Zc (Dv Pf ↑1) Zj)))))
   (Uv 9 (Zu Jr (Zc (Zn Ys (Zn Ys (Zd 5) (Zd 6)) (Zd 10)) (Zc (Zu Xa (Zc (Zn Zt 11[0]! (Zd 8)) (Zc (Zn Zt 11[1]! (Zd 7)) Zj))) (Zc ↑1 Zj)))))))
   (Dq 9 (Qs (Q0 (Zc 9[0]! (Zc 9[1]! Zj)))))))))))
def sc_l_on_way:MK ["_law_people_here","_law_one","_law_other","_law_way","_law_number","_law_spots","_law_k","_law_bottom","_law_part_here","_law_found","_law_axis","_law_gap"] ["_law_people_here","_law_one","_law_other","_law_way","_law_number"] (Zf Np):=⟨rfl,rfl,rfl,by decide +kernel,rfl,by decide +kernel,by decide +kernel⟩
def Em (d:Dm K mg "_law_on_way" Np) (NQ:Cl P w K mg base 3 "_law_sum" ["_law_one","_law_other","_law_sign"] Jr) (MU:Cl P w K mg base 2 "_law_lowest" ["_law_top","_law_bottom"] Xa) (MX:mg "len"=none) (MN:mg "range"=none):Cl P w K mg base 4 "_law_on_way" ["_law_people_here","_law_one","_law_other","_law_way","_law_number"] V2:=
 d.cl (by trivial) λ_ _ F=>Jl F sc_l_on_way rfl rfl λMP A outer s H E hr=>
  (Zh (Zs 5 sc_l_on_way.nd (Zp Qf (Zp Qf (X1 (Za (Qz (Zb 0) (Zb 1) (λ_ _=>rfl)) Ze)) (Zy (Zb 3))) (X1 (Za (Qz (Zb 0) (Zb 2) (λ_ _=>rfl)) Ze))))
   (Zh (Zs 6 sc_l_on_way.nd (Zp Yg (Zb 4) (Zp Kc (Qr Wu (by rfl) MX (by rfl) (Za (Zb 5) Ze)) Zi)))
   (Zh (Zs 7 sc_l_on_way.nd (Zp Qf Zi (Zp Yg (Zp Xf (Zb 4) Zi) Zi)))
   (Zh (Zs 8 sc_l_on_way.nd (Zp Qf Zi (Zp Yg (Zp Xf (Zb 4) Zi) (Zp Kc (Zb 7) Zi))))
   (Zh (K8 9 sc_l_on_way.nd (Ub Ze))
   (Zh (Xm BN rfl (Yt (by rfl) MN (Za Zi Ze)) (Z5 10 sc_l_on_way.nd) (Zh (Zs 11 sc_l_on_way.nd (Zx NQ hr.m (Za (Qz (Qz (Zb 5) (Zp Qf (Zb 6) Zi) (λ_ _=>rfl)) (Zb 10) (λ_ _=>rfl)) (Za (Qz (Qz (Zb 5) (Zb 6) (λ_ _=>rfl)) (Zb 10) (λ_ _=>rfl)) (Za (Bd Ng Zi) Ze)))))
   (Zl (Uc 9 (Zx NQ hr.m (Za (Qz (Qz (Zb 5) (Zb 6) (λ_ _=>rfl)) (Zb 10) (λ_ _=>rfl)) (Za (Zx MU hr.m (Za (Zp Z2 (Zy (Zb 11)) (Zb 8)) (Za (Zp Z2 (Zy (Zb 11)) (Zb 7)) Ze))) (Za Zi Ze))))))))
   (S6 9 (Zl (Zv (Qi (Za (Zy (Zb 9)) (Za (Zy (Zb 9)) Ze))))))))))))
noncomputable def Jp:List D->M S:=V5 2 1
  (Zz (Ke (Kl (Zd 1)) (Xd 2) (Js (tO (tB (Zn Kp 2[1]! ↑1)) (tB (Zn N6 2[1]! ↑1000))) (Qs (eC (.bl false))) Yp))
   (Qs (Zn Nf (Zd 1) (Zd 0))))
def sc_l_may_stand:MK ["_law_people_here","_law_spot","_law_part_here"] ["_law_people_here","_law_spot"] (Zf Uq):=⟨rfl,rfl,rfl,by decide +kernel,rfl,by decide +kernel,by decide +kernel⟩
def Ls (d:Dm K mg "_law_may_stand" Uq)  : Cl P w K mg base 1 "_law_may_stand" ["_law_people_here","_law_spot"] Jp:=
 d.cl (by trivial) λ_ _ F=>Jl F sc_l_may_stand rfl rfl λMP A outer s H E hr=>
  (Zh (Xm BN rfl (Xw (Zb 1)) (Z5 2 sc_l_may_stand.nd) (Zl (Ql ((Wv (Z0 (Y2 hr.units) (Zy (Zb 2)) Zi (Z4 _)) (V8 (Z0 N8 (Zy (Zb 2)) Zi (Z4 _))))).pt (Zl (Zv Wr)) Qd)))
   (Zl (Zv (Ko (Dt (by exact hr.units)) (Zb 1) (Zb 0) (by with_unfolding_all rfl)))))
noncomputable def Uy:List D->M S:=V5 6 3
  (Zz (Js (tO (tN (tB (cC "tuple" (Zd 5)))) (tB (Zn Gv (K6 Wj (Zc (Zd 5) Zj)) ↑4))) (Qs (eC (.bl false))) Yp)
   (Zz (Sq (Zu F_walk (Zc (Zd 0) (Zc (Zd 1) (Zc (Zn Ys (Zd 1) (Zd 2)) (Zc (Bb (Zd 5) K5 (Xv ↑2)) (Zc (Zd 4) Zj)))))) (Wh 3 (Q8 (Xd 6) (Q8 (Xd 7) (Q8 (Xd 8) Ww)))))
   (Zz (Js (tA (tB (Zn Kp (Zd 6) ↑"end")) (tB (Zn Kp (Zd 7) (Zn Ys (Zd 1) (Zd 3))))) (Qa 6 ↑"seen") Yp)
   (Qs (Zn Kp (Bb (Zd 5) (Xv ↑2) K5) (Q0 (Zc (Zd 6) (Zc (Zd 7) Zj))))))))
def sc_l_seen:MK ["_law_hall_here","_law_people_here","_law_one","_law_other","_law_most","_law_row","_law_word","_law_where","_law_turns"] ["_law_hall_here","_law_people_here","_law_one","_law_other","_law_most","_law_row"] (Zf Ln):=⟨rfl,rfl,rfl,by decide +kernel,rfl,by decide +kernel,by decide +kernel⟩
def Zb0 (d:Dm K mg "_law_seen" Ln) (VH:Cl P w K mg base 7 "walk" ["hall","people","point","step","most"] F_walk) (MO:mg "isinstance"=none) (NM:mg "tuple"=none) (MX:mg "len"=none):Cl P w K mg base 8 "_law_seen" ["_law_hall_here","_law_people_here","_law_one","_law_other","_law_most","_law_row"] Uy:=
 d.cl (by trivial) λ_ _ F=>Jl F sc_l_seen rfl rfl λMP A outer s H E hr=>
  (Zh (Ql ((Wv (K7 (Xg (Gk "tuple" (by rfl) MO NM (by rfl) (by rfl) (Zb 5)))) (V8 (Z0 (Wy hr.units) (Qr Wu (by rfl) MX (by rfl) (Za (Zb 5) Ze)) Zi (Z4 _))))).pt (Zl (Zv Wr)) Qd)
   (Zh (Pa (Zx VH hr.m (Za (Zb 0) (Za (Zb 1) (Za (Qz (Zb 1) (Zb 2) (λ_ _=>rfl)) (Za (Kw (Zb 5) Vp (Kd Zi)) (Za (Zb 4) Ze)))))) (Gj rfl (Q5 (Z5 6 sc_l_seen.nd) (Q5 (Z5 7 sc_l_seen.nd) (Q5 (Z5 8 sc_l_seen.nd) Uu)))))
   (Zh (Ql ((V9 (Z0 (Y2 hr.units) (Zb 6) Qw (Z4 _)) (Vn (Z0 (Y2 hr.units) (Zb 7) (Qz (Zb 1) (Zb 3) (λ_ _=>rfl)) (Z4 _))))).pt (Zl (Zs 6 sc_l_seen.nd Qw)) Qd)
   (Zl (Zv (Ko (Y2 hr.units) (Kw (Zb 5) (Kd Zi) Vp) (Qi (Za (Zb 6) (Za (Zb 7) Ze))) (Z4 _)))))))
noncomputable def Jc:List D->M S:=V5 6 2
  (Zz (Qa 6 (Zu F_images (Zc (Zd 0) (Zc (Zd 1) (Zc (Zd 3) (Zc (Zd 4) (Zc (Zd 5) (Zc ↑1 Zj))))))))
   (Zz (Qa 7 (Zu F_images (Zc (Zd 0) (Zc (Zn Z8 (Zd 1) (Jk (Zc (Zd 2) Zj))) (Zc (Zd 3) (Zc (Zd 4) (Zc (Zd 5) (Zc ↑1 Zj))))))))
   (Zz (Js (tO (tN (tB (cC "list" (Zd 7)))) (tB (Zn Gv (Um (Kx (Kl (Zd 7)) 1 [] (Xd 0) (Bb (Zd 0) K5 (Xv ↑2)))) (Um (Kx (Kl (Zd 6)) 1 [] (Xd 0) (Bb (Zd 0) K5 (Xv ↑2))))))) (Qs (eC (.bl false))) Yp)
   (Zz (Js (tN (tB (K6 ig (Zc (Um (Kx (Kl (Zd 7)) 1 [0,3,4,5,1,2] (Xd 0) (Zu Uy (Zc (Zd 1) (Zc (Zn Z8 (Zd 5) (Jk (Zc (Zd 6) Zj))) (Zc (Zd 2) (Zc (Zd 3) (Zc (Zd 4) (Zc (Zd 0) Zj))))))))) Zj)))) (Qs (eC (.bl false))) Yp)
   (Qs (Zn Kp (Zu F_images (Zc (Zd 0) (Zc (Zd 1) (Zc (Zd 3) (Zc (Zd 4) (Zc (Zd 5) (Zc ↑1 Zj))))))) (Zd 6)))))))
def sc_l_images_right:MK ["_law_hall_here","_law_people_here","_law_spot","_law_one","_law_other","_law_most","_law_ahead","_law_found"] ["_law_hall_here","_law_people_here","_law_spot","_law_one","_law_other","_law_most"] (Zf Yq):=⟨rfl,rfl,rfl,by decide +kernel,rfl,by decide +kernel,by decide +kernel⟩
def Pw (d:Dm K mg "_law_images_right" Yq) (OM:Cl P w K mg base 7 "images" ["hall","people","one","other","most","reach"] F_images) (QQ:Cl P w K mg base 8 "_law_seen" ["_law_hall_here","_law_people_here","_law_one","_law_other","_law_most","_law_row"] Uy) (MO:mg "isinstance"=none) (OE:mg "list"=none) (SF:mg "all"=none):Cl P w K mg base 9 "_law_images_right" ["_law_hall_here","_law_people_here","_law_spot","_law_one","_law_other","_law_most"] Jc:=
 d.cl (by trivial) λ_ _ F=>Jl F sc_l_images_right rfl rfl λMP A outer s H E hr=>
  (Zh (Zs 6 sc_l_images_right.nd (Zx OM hr.m (Za (Zb 0) (Za (Zb 1) (Za (Zb 3) (Za (Zb 4) (Za (Zb 5) (Za Zi Ze))))))))
   (Zh (Zs 7 sc_l_images_right.nd (Zx OM hr.m (Za (Zb 0) (Za (Zp Qf (Zb 1) (X1 (Za (Zb 2) Ze))) (Za (Zb 3) (Za (Zb 4) (Za (Zb 5) (Za Zi Ze))))))))
   (Zh (Ql ((Wv (K7 (Xg (Gk "list" (by rfl) MO OE (by rfl) (by rfl) (Zb 7)))) (V8 (Z0 (Wy hr.units) (Nd (Ky (Nc:=["_law_row"]) rfl (closureFor_none (by decide +kernel)) (oJ rfl (by decide +kernel)) rfl (by decide +kernel) (by decide +kernel) (Ja (by decide)) (Xw (Zb 7)) (λs3 H3 C ex=>Z5 0 (show(["_law_row"]:List Str).Nodup by decide +kernel)) (λs3 H3 C ex=>(Kw (Zb 0) Vp (Kd Zi))))) (Nd (Ky (Nc:=["_law_row"]) rfl (closureFor_none (by decide +kernel)) (oJ rfl (by decide +kernel)) rfl (by decide +kernel) (by decide +kernel) (Ja (by decide)) (Xw (Zb 6)) (λs3 H3 C ex=>Z5 0 (show(["_law_row"]:List Str).Nodup by decide +kernel)) (λs3 H3 C ex=>(Kw (Zb 0) Vp (Kd Zi))))) (Z4 _))))).pt (Zl (Zv Wr)) Qd)
   (Zh (Ql (K7 (Xg (Qr (zN rfl) (by rfl) SF (by rfl) (Za (Nd (Ky (Nc:=["_law_row","_law_hall_here","_law_one","_law_other","_law_most","_law_people_here","_law_spot"]) rfl (Jt (λy hy hf=>Yo (Uo (sc:=Zf Yq) (by decide +kernel) y hy hf))) (F3 (sc:=Zf Yq) rfl rfl (by decide +kernel) (Uo (by decide +kernel)) (λy hy hf=>Yo (Uo (sc:=Zf Yq) (by decide +kernel) y hy hf)) rfl (U5 (N:=["_law_hall_here","_law_people_here","_law_spot","_law_one","_law_other","_law_most","_law_ahead","_law_found"]) rfl (by decide +kernel))) rfl (by decide +kernel) (by decide +kernel) (Ja (by decide)) (Xw (Zb 7)) (λs3 H3 C ex=>Z5 0 (show(["_law_row","_law_hall_here","_law_one","_law_other","_law_most","_law_people_here","_law_spot"]:List Str).Nodup by decide +kernel)) (λs3 H3 C ex=>by exact(Zx QQ hr.m (Za (Zb 1) (Za (Zp Qf (Zb 5) (X1 (Za (Zb 6) Ze))) (Za (Zb 2) (Za (Zb 3) (Za (Zb 4) (Za (Zb 0) Ze)))))))))) Ze)))) (Zl (Zv Wr)) Qd)
   (Zl (Zv (Ko (Y2 hr.units) (Zx OM hr.m (Za (Zb 0) (Za (Zb 1) (Za (Zb 3) (Za (Zb 4) (Za (Zb 5) (Za Zi Ze))))))) (Zb 6) (Z4 _))))))))
noncomputable def Bu:List D->M S:=V5 1 11
  (Zz (Sq (Zu Ga (Zc (Zu Y6 (Zc (Zd 0) (Zc ↑0 Zj))) Zj)) (Wh 3 (Q8 (Xd 1) (Q8 (Xd 2) (Q8 (Xd 3) Ww)))))
   (Zz (Qa 4 (Zu Pv (Zc (Zu Y6 (Zc (Zd 0) (Zc ↑1 Zj))) (Zc (Zd 1) (Zc (Zd 2) Zj)))))
   (Zz (Qa 5 (Zu V1 (Zc (Zu Y6 (Zc (Zd 0) (Zc ↑2 Zj))) (Zc (Zn Z8 ↑1 (Zn Q7 (Zu Y6 (Zc (Zd 0) (Zc ↑3 Zj))) ↑3)) (Zc (Zd 1) (Zc (Zd 2) Zj))))))
   (Zz (Qa 6 (Zn Q7 (Zu Y6 (Zc (Zd 0) (Zc ↑4 Zj))) (K6 Wj (Zc (Zd 5) Zj))))
   (Zz (Qa 7 (Zn Q7 (Zn Yz (Zu Y6 (Zc (Zd 0) (Zc ↑4 Zj))) ↑8) (K6 Wj (Zc (Zd 5) Zj))))
   (Zz (Qa 8 (Zu F_ways (Zc (Zd 4) (Zc (Zd 5) (Zc (Zd 6) (Zc (Zd 7) (Zc (Zd 3) Zj)))))))
   (Zz (Qa 9 (Zu Y7 (Zc (Zu Y6 (Zc (Zd 0) (Zc ↑5 Zj))) (Zc ↑2 Zj))))
   (Zz (Qa 10 (Zn Ys (Zu V1 (Zc (Zu Y6 (Zc (Zd 0) (Zc ↑6 Zj))) (Zc ↑1 (Zc (Zd 1) (Zc (Zd 2) Zj))))) ↑0))
   (Zz (Js (tA (tB (Zn Gv (Zd 8) (Jk Zj))) (tB (Zn N6 (Zn Q7 9[1]! ↑3) ↑0))) (Qa 10 (Zu V2 (Zc (Zd 5) (Zc (Zd 6) (Zc (Zd 7) (Zc (Zn Ys (Zd 8) (Zn Q7 9[0]! (K6 Wj (Zc (Zd 8) Zj)))) (Zc (Zn Z8 (Zn Yz 9[0]! ↑7) 9[1]!) Zj))))))) Yp)
   (Zz (Js (tN (tB (Zu Jp (Zc (Zd 5) (Zc (Zd 10) Zj))))) (Qs (eC (.bl true))) Yp)
   (Zz (Qa 11 (Um (Gn (Kl (Zd 8)) 1 [5,6,7,10] (Xd 0) (tN (tB (Zu X6 (Zc (Zd 1) (Zc (Zd 2) (Zc (Zd 3) (Zc (Zd 0) (Zc (Zd 4) Zj)))))))) (Zd 0))))
   (Zz (Js (tO (tB (Zn Gv (Zu F_ways (Zc (Zd 4) (Zc (Zn Z8 (Zd 5) (Jk (Zc (Zd 10) Zj))) (Zc (Zd 6) (Zc (Zd 7) (Zc (Zd 3) Zj)))))) (Zd 11))) (tB (Zn Gv (Zu F_ways (Zc (Zd 4) (Zc (Zd 5) (Zc (Zd 6) (Zc (Zd 7) (Zc (Zd 3) Zj)))))) (Zd 8)))) (Qs (eC (.bl false))) Yp)
   (Qs (Zu Jc (Zc (Zd 4) (Zc (Zd 5) (Zc (Zd 10) (Zc (Zd 6) (Zc (Zd 7) (Zc (Zd 3) Zj))))))))))))))))))))
def sc_law:MK ["_law_script","_law_width","_law_height","_law_most","_law_hall_here","_law_people_here","_law_one","_law_other","_law_found","_law_number","_law_spot","_law_due"] ["_law_script"] (Zf Pq):=⟨rfl,rfl,rfl,by decide +kernel,rfl,by decide +kernel,by decide +kernel⟩
def yj {f:Addr}{fd:FuncData} (F:Fun K "law" "law" Pq f fd) (QP:Cl P w K mg base 1 "_law_size" ["_law_cell_here"] Ga) (MZ:Cl P w K mg base 1 "_law_cell" ["_law_script","_law_k"] Y6) (QR:Cl P w K mg base 2 "_law_hall" ["_law_cell_here","_law_width","_law_height"] Pv) (OA:Cl P w K mg base 4 "_law_people" ["_law_cell_here","_law_many","_law_width","_law_height"] V1) (QO:Cl P w K mg base 7 "ways" ["hall","people","one","other","most"] F_ways) (MS:Cl P w K mg base 1 "_law_numbers" ["_law_cell_here","_law_many"] Y7) (OO:Cl P w K mg base 4 "_law_on_way" ["_law_people_here","_law_one","_law_other","_law_way","_law_number"] V2) (NW:Cl P w K mg base 1 "_law_may_stand" ["_law_people_here","_law_spot"] Jp) (OJ:Cl P w K mg base 5 "_law_through" ["_law_people_here","_law_one","_law_other","_law_way","_law_spot"] X6) (NB:Cl P w K mg base 9 "_law_images_right" ["_law_hall_here","_law_people_here","_law_spot","_law_one","_law_other","_law_most"] Jc) (MX:mg "len"=none):MM P w K mg base Yf 10 f fd ["_law_script"] (R9 K Bu):=
 Jl F sc_law rfl rfl λMP A outer s H E hr=>
  (Zh (Pa (Zx QP hr.m (Za (Zx MZ hr.m (Za (Zb 0) (Za Zi Ze))) Ze)) (Gj rfl (Q5 (Z5 1 sc_law.nd) (Q5 (Z5 2 sc_law.nd) (Q5 (Z5 3 sc_law.nd) Uu)))))
   (Zh (Zs 4 sc_law.nd (Zx QR hr.m (Za (Zx MZ hr.m (Za (Zb 0) (Za Zi Ze))) (Za (Zb 1) (Za (Zb 2) Ze)))))
   (Zh (Zs 5 sc_law.nd (Zx OA hr.m (Za (Zx MZ hr.m (Za (Zb 0) (Za Zi Ze))) (Za (Zp Qf Zi (Zp Yg (Zx MZ hr.m (Za (Zb 0) (Za Zi Ze))) Zi)) (Za (Zb 1) (Za (Zb 2) Ze))))))
   (Zh (Zs 6 sc_law.nd (Zp Yg (Zx MZ hr.m (Za (Zb 0) (Za Zi Ze))) (Qr Wu (by rfl) MX (by rfl) (Za (Zb 5) Ze))))
   (Zh (Zs 7 sc_law.nd (Zp Yg (Zp Xf (Zx MZ hr.m (Za (Zb 0) (Za Zi Ze))) Zi) (Qr Wu (by rfl) MX (by rfl) (Za (Zb 5) Ze))))
   (Zh (Zs 8 sc_law.nd (Zx QO hr.m (Za (Zb 4) (Za (Zb 5) (Za (Zb 6) (Za (Zb 7) (Za (Zb 3) Ze)))))))
   (Zh (Zs 9 sc_law.nd (Zx MS hr.m (Za (Zx MZ hr.m (Za (Zb 0) (Za Zi Ze))) (Za Zi Ze))))
   (Zh (Zs 10 sc_law.nd (Zy (Zx OA hr.m (Za (Zx MZ hr.m (Za (Zb 0) (Za Zi Ze))) (Za Zi (Za (Zb 1) (Za (Zb 2) Ze)))))))
   (Zh (Ql ((V9 (Z0 (Wy hr.units) (Zb 8) (X1 Ze) (Z4 _)) (Vn (Z0 N8 (Zp Yg (Zy (Zb 9)) Zi) Zi (Z4 _))))).pt (Zl (Zs 10 sc_law.nd (Zx OO hr.m (Za (Zb 5) (Za (Zb 6) (Za (Zb 7) (Za (Qz (Zb 8) (Zp Yg (Zy (Zb 9)) (Qr Wu (by rfl) MX (by rfl) (Za (Zb 8) Ze))) (λ_ _=>rfl)) (Za (Zp Qf (Zp Xf (Zy (Zb 9)) Zi) (Zy (Zb 9))) Ze)))))))) Qd)
   (Zh (Ql (K7 (Xg (Zx NW hr.m (Za (Zb 5) (Za (Zb 10) Ze))))) (Zl (Zv Wr)) Qd)
   (Zh (Zbg 11 sc_law.nd (Nc:=["_law_way","_law_people_here","_law_one","_law_other","_law_spot"]) rfl (Jt (λy hy hf=>Yo (Uo (sc:=Zf Pq) (by decide +kernel) y hy hf))) (F3 (sc:=Zf Pq) rfl rfl (by decide +kernel) (Uo (by decide +kernel)) (λy hy hf=>Yo (Uo (sc:=Zf Pq) (by decide +kernel) y hy hf)) rfl (U5 (N:=["_law_script","_law_width","_law_height","_law_most","_law_hall_here","_law_people_here","_law_one","_law_other","_law_found","_law_number","_law_spot","_law_due"]) rfl (by decide +kernel))) rfl (by decide +kernel) (by decide +kernel) (Ja (by decide)) (Xw (Zb 8)) (λs3 H3 C ex=>Z5 0 (show(["_law_way","_law_people_here","_law_one","_law_other","_law_spot"]:List Str).Nodup by decide +kernel)) (λs3 H3 C ex=>(K7 (Xg (Zx OJ hr.m (Za (Zb 1) (Za (Zb 2) (Za (Zb 3) (Za (Zb 0) (Za (Zb 4) Ze))))))))) (λs3 H3 C ex=>(Zb 0)))
   (Zh (Ql ((Wv (Z0 (Wy hr.units) (Zx QO hr.m (Za (Zb 4) (Za (Zp Qf (Zb 5) (X1 (Za (Zb 10) Ze))) (Za (Zb 6) (Za (Zb 7) (Za (Zb 3) Ze)))))) (Zb 11) (Z4 _)) (V8 (Z0 (Wy hr.units) (Zx QO hr.m (Za (Zb 4) (Za (Zb 5) (Za (Zb 6) (Za (Zb 7) (Za (Zb 3) Ze)))))) (Zb 8) (Z4 _))))).pt (Zl (Zv Wr)) Qd)
   (Zl (Zv (Zx NB hr.m (Za (Zb 4) (Za (Zb 5) (Za (Zb 10) (Za (Zb 6) (Za (Zb 7) (Za (Zb 3) Ze)))))))))))))))))))))
end
def all_mk {l:PySem.W.OpenLaw}{w:World}{K:PySem.W.Frag}{h:Heap}{mg:Str->Option Value}{fa:Addr}(X:K.In h)(G:h.Ns mainGlobals mg) (hfa:mg "law"=some (.ref fa))
  (PH:Dm K mg "common_divisor" Kr)
  (YI:Dm K mg "amount" Lf)
  (aE:Dm K mg "below" Au)
  (VG:Dm K mg "is_whole" Nk)
  (RR:Dm K mg "is_from_to" U8)
  (QN:Dm K mg "outward_face" Vw)
  (aD:Dm K mg "faces" Av)
  (TU:Dm K mg "is_corner" Jy)
  (TM:Dm K mg "square_of" W4)
  (QC:Dm K mg "whole_time_of" K4)
  (d_time_to:Dm K mg "time_to" Rr)
  (d_person_ahead:Dm K mg "person_ahead" Vx)
  (d_face_ahead:Dm K mg "face_ahead" U9)
  (d_thing_at:Dm K mg "thing_at" Nl)
  (RC:Dm K mg "how_it_ends" Up)
  (d_pass_line:Dm K mg "pass_line" W5)
  (d_walk_on:Dm K mg "walk_on" Q6)
  (d_walk:Dm K mg "walk" Ho)
  (OU:Dm K mg "parts_to_images" Yj)
  (OT:Dm K mg "steps_to_images" Kh)
  (YH:Dm K mg "is_way" Lg)
  (d_ways:Dm K mg "ways" Vy)
  (d_images:Dm K mg "images" X4)
  (YG:Dm K mg "_law_cell" Lh)
  (TQ:Dm K mg "_law_numbers" W6)
  (VF:Dm K mg "_law_common" Nm)
  (VE:Dm K mg "_law_lowest" Nn)
  (YB:Dm K mg "_law_side" Li)
  (YF:Dm K mg "_law_hall" Lj)
  (YD:Dm K mg "_law_part" Lk)
  (VC:Dm K mg "_law_people" No)
  (YA:Dm K mg "_law_size" Ll)
  (aB:Dm K mg "_law_sum" Aw)
  (YE:Dm K mg "_law_less" Lm)
  (TR:Dm K mg "_law_lies_on" Y3)
  (TN:Dm K mg "_law_through" Jz)
  (VD:Dm K mg "_law_on_way" Np)
  (RB:Dm K mg "_law_may_stand" Uq)
  (YC:Dm K mg "_law_seen" Ln)
  (PF:Dm K mg "_law_images_right" Yq)
  (d_law:Dm K mg "law" Pq)
  {MW MR:Addr}
  (OS:PySem.W.nsIn K mainGlobals "Floor"=some (some (.ref MW)))
  (SG:PySem.W.nsIn K mainGlobals "Track"=some (some (.ref MR)))
  (e_Floor_init:Mm K MW "__init__" "Floor.__init__" Ve)
  (e_people_at:Mm K MW "people_at" "Floor.people_at" W7)
  (e_faces_at:Mm K MW "faces_at" "Floor.faces_at" Wa)
  (e_Track_init:Mm K MR "__init__" "Track.__init__" Wb)
  (e_line_ahead:Mm K MR "line_ahead" "Track.line_ahead" Wc)
  (e_place_at:Mm K MR "place_at" "Track.place_at" Nq)
  (e_time_at:Mm K MR "time_at" "Track.time_at" Rs)
  (e_go_on:Mm K MR "go_on" "Track.go_on" Ax)
  (e_turn_back:Mm K MR "turn_back" "Track.turn_back" W8)
  (XA:PySem.W.plainGet K MW Str.empty=true) (WY:PySem.W.hasDictIn K MW=true) (WV:PySem.W.plainOver K MW=true) (WR:PySem.W.findIn K (.ref MW) "__setattr__"=some (some (.builtin "object.__setattr__"))) (QH:PySem.W.makesIn K MW=true) (QF:PySem.W.keepIn K (.ref MW)=true)
  (NS:PySem.W.findIn K (.ref MW) "hall"=some none)
  (NG:PySem.W.findIn K (.ref MW) "known_faces"=some none)
  (NI:PySem.W.findIn K (.ref MW) "by_square"=some none)
  (WZ:PySem.W.plainGet K MR Str.empty=true) (WX:PySem.W.hasDictIn K MR=true) (WU:PySem.W.plainOver K MR=true) (WQ:PySem.W.findIn K (.ref MR) "__setattr__"=some (some (.builtin "object.__setattr__"))) (WW:PySem.W.makesIn K MR=true) (WT:PySem.W.keepIn K (.ref MR)=true)
  (QG:PySem.W.findIn K (.ref MR) "begin"=some none)
  (PX:PySem.W.findIn K (.ref MR) "square"=some none)
  (OX:PySem.W.findIn K (.ref MR) "heading"=some none)
  (RH:PySem.W.findIn K (.ref MR) "due"=some none)
  (RG:PySem.W.findIn K (.ref MR) "lap"=some none)
  (NA:PySem.W.nsIn K mainGlobals "abs"=some none)
  (MO:PySem.W.nsIn K mainGlobals "isinstance"=some none)
  (PL:PySem.W.nsIn K mainGlobals "int"=some none)
  (QE:PySem.W.nsIn K mainGlobals "bool"=some none)
  (PM:PySem.W.nsIn K mainGlobals "any"=some none)
  (SC:PySem.W.nsIn K mainGlobals "zip"=some none)
  (SE:PySem.W.nsIn K mainGlobals "max"=some none)
  (SD:PySem.W.nsIn K mainGlobals "min"=some none)
  (MX:PySem.W.nsIn K mainGlobals "len"=some none)
  (OE:PySem.W.nsIn K mainGlobals "list"=some none)
  (MN:PySem.W.nsIn K mainGlobals "range"=some none)
  (NF:PySem.W.nsIn K mainGlobals "sorted"=some none)
  (NM:PySem.W.nsIn K mainGlobals "tuple"=some none)
  (SF:PySem.W.nsIn K mainGlobals "all"=some none)
  {NK:Addr} (UL:PySem.W.nsIn K mainGlobals "NO_STEP"=some (some (.ref NK))) (UM:Bl K NK 0 1 0 1=true)
  : ∃fd:FuncData,(∀(s:Shared) (v:Value),BindsTo s fd ⟨[v],[]⟩ [("_law_script", v)])/\∀base:Heap,K.In base->base.Ns mainGlobals mg->MM l.prog w K mg base Yf 10 fa fd ["_law_script"] (R9 K Bu):=by
 obtain⟨_,fdL,FL,mL⟩:=d_law.ex
 obtain⟨oc,od,kV,dc,pm,an,cd,ct,sl,rfl,lk,NL⟩:=FL.ex
 cases hfa.symm.trans mL
 refine⟨PySem.W.fnOf "law" "law" (V7 Pq) (Xe Pq) (Zf Pq) .none kV dc pm an cd ct,λs v=>.of_eq rfl,λbase _ _=>?_⟩
 have NA:=CA X G NA
 have MO:=CA X G MO
 have PL:=CA X G PL
 have QE:=CA X G QE
 have PM:=CA X G PM
 have SC:=CA X G SC
 have SE:=CA X G SE
 have SD:=CA X G SD
 have MX:=CA X G MX
 have OE:=CA X G OE
 have MN:=CA X G MN
 have NF:=CA X G NF
 have NM:=CA X G NM
 have SF:=CA X G SF
 have NC:=Pr (P:=l.prog) (w:=w) (base:=base) PH NA
 have c_amount:=Zbm YI NC
 have c_below:=Zep (P:=l.prog) (w:=w) (base:=base) aE
 have OQ:=Ea (P:=l.prog) (w:=w) (base:=base) VG MO PL QE
 have NH:=Mj RR OQ
 have NJ:=Sv (P:=l.prog) (w:=w) (base:=base) QN
 have c_faces:=Zeq aD NJ
 have c_is_corner:=Ay TU NH PM
 have c_square_of:=A0 (P:=l.prog) (w:=w) (base:=base) TM
 have c_whole_time_of:=Rt (P:=l.prog) (w:=w) (base:=base) QC SC NA SE
 have WB:WA K MR:=⟨⟨SG,⟨WZ,WX,WU,WQ⟩⟩,QG,PX,OX,RH,RG⟩
 have cF:UK K "Floor" MW:=⟨OS,⟨XA,WY,WV,WR⟩⟩
 obtain⟨_,_,mM_Floor_init,FM_Floor_init⟩:=e_Floor_init.ex
 have NY:=FM_Floor_init.binds (ps:=["self","hall","people"]) λ_ _ _ _ _ _ us hl=>match us,hl with | [_,_,_],_=>rfl
 obtain⟨_,_,RK,FM_people_at⟩:=e_people_at.ex
 have RV:=FM_people_at.binds (ps:=["self","square"]) λ_ _ _ _ _ _ us hl=>match us,hl with | [_,_],_=>rfl
 obtain⟨_,_,SQ,FM_faces_at⟩:=e_faces_at.ex
 have UB:=FM_faces_at.binds (ps:=["self","edge"]) λ_ _ _ _ _ _ us hl=>match us,hl with | [_,_],_=>rfl
 obtain⟨_,_,mM_Track_init,FM_Track_init⟩:=e_Track_init.ex
 have RE:=FM_Track_init.binds (ps:=["self","begin","part","whole_time"]) λ_ _ _ _ _ _ us hl=>match us,hl with | [_,_,_,_],_=>rfl
 obtain⟨_,_,NT,FM_line_ahead⟩:=e_line_ahead.ex
 have NX:=FM_line_ahead.binds (ps:=["self"]) λ_ _ _ _ _ _ us hl=>match us,hl with | [_],_=>rfl
 obtain⟨_,_,SO,FM_place_at⟩:=e_place_at.ex
 have UA:=FM_place_at.binds (ps:=["self","time"]) λ_ _ _ _ _ _ us hl=>match us,hl with | [_,_],_=>rfl
 obtain⟨_,_,UR,FM_time_at⟩:=e_time_at.ex
 have VJ:=FM_time_at.binds (ps:=["self","place"]) λ_ _ _ _ _ _ us hl=>match us,hl with | [_,_],_=>rfl
 obtain⟨_,_,XC,FM_go_on⟩:=e_go_on.ex
 have YM:=FM_go_on.binds (ps:=["self"]) λ_ _ _ _ _ _ us hl=>match us,hl with | [_],_=>rfl
 obtain⟨_,_,RJ,FM_turn_back⟩:=e_turn_back.ex
 have RU:=FM_turn_back.binds (ps:=["self"]) λ_ _ _ _ _ _ us hl=>match us,hl with | [_],_=>rfl
 obtain⟨aV,ZX,PR,PU,PP,PN⟩:=c_square_of.ex
 obtain⟨Py,cT,TJ,TZ,SW,SN⟩:=c_amount.ex
 obtain⟨O0,eT,ZV,aF,ZM,ZJ⟩:=c_faces.ex
 have RP:=A4 (P:=l.prog) (w:=w) (mg:=mg) (base:=base) FM_turn_back WB
 have XU:=Zes (P:=l.prog) (w:=w) (mg:=mg) (base:=base) FM_go_on WB
 have RA:=Ml (P:=l.prog) (w:=w) (mg:=mg) (base:=base) FM_Track_init WB PR PU PP PN NA
 have NU:=Mo (P:=l.prog) (w:=w) (mg:=mg) (base:=base) FM_line_ahead WB
 have TK:=Ec (P:=l.prog) (w:=w) (mg:=mg) (base:=base) FM_place_at WB NT NU NX TJ TZ SW SN
 have VA:=Hq (P:=l.prog) (w:=w) (mg:=mg) (base:=base) FM_time_at WB NT NU NX TJ TZ SW SN
 have RQ:=A9 (P:=l.prog) (w:=w) (mg:=mg) (base:=base) FM_people_at cF NI
 have TL:=Ee (P:=l.prog) (w:=w) (mg:=mg) (base:=base) FM_faces_at cF NS NG ZV aF ZM ZJ
 have NV:=Mr (P:=l.prog) (w:=w) (mg:=mg) (base:=base) FM_Floor_init cF NS NG NI PR PU PP PN
 obtain⟨Bv,bh,F_time_to,VS⟩:=d_time_to.ex
 have VT:=F_time_to.kp
 have VX:=F_time_to.binds (ps:=["across","upward","person"]) λ_ _ _ _ _ _ us hl=>match us,hl with | [_,_,_],_=>rfl
 have VV:=Hr (P:=l.prog) (w:=w) (mg:=mg) (base:=base) F_time_to WB UR VA VJ
 obtain⟨Tb,eU,ZW,aG,ZN,ZK⟩:=c_below.ex
 obtain⟨XY,WE,F_person_ahead,QI⟩:=d_person_ahead.ex
 have QJ:=F_person_ahead.kp
 have QS:=F_person_ahead.binds (ps:=["floor","across","upward","whole_time"]) λ_ _ _ _ _ _ us hl=>match us,hl with | [_,_,_,_],_=>rfl
 have QM:=Sw (P:=l.prog) (w:=w) (mg:=mg) (base:=base) F_person_ahead WB cF RK RQ RV VV VX VT VS ZW aG ZN ZK
 obtain⟨aA,YV,F_face_ahead,RI⟩:=d_face_ahead.ex
 have RL:=F_face_ahead.kp
 have RT:=F_face_ahead.binds (ps:=["track","pair"]) λ_ _ _ _ _ _ us hl=>match us,hl with | [_,_],_=>rfl
 have RO:=Mq (P:=l.prog) (w:=w) (mg:=mg) (base:=base) F_face_ahead WB
 obtain⟨aX,ZZ,TH,TY,SV,SM⟩:=c_is_corner.ex
 obtain⟨bj,aU,F_thing_at,UQ⟩:=d_thing_at.ex
 have US:=F_thing_at.kp
 have VI:=F_thing_at.binds (ps:=["floor","across","upward","now"]) λ_ _ _ _ _ _ us hl=>match us,hl with | [_,_,_,_],_=>rfl
 have UZ:=Eg (P:=l.prog) (w:=w) (mg:=mg) (base:=base) F_thing_at WB cF NS NT NU NX TH TY SV SM SQ TL UB RO RT RL RI
 have c_how_it_ends:=Lp (P:=l.prog) (w:=w) (base:=base) RC
 obtain⟨aW,ZY,F_pass_line,SK⟩:=d_pass_line.ex
 have SS:=F_pass_line.kp
 have TV:=F_pass_line.binds (ps:=["track","now","thing"]) λ_ _ _ _ _ _ us hl=>match us,hl with | [_,_,_],_=>rfl
 have SZ:=A7 (P:=l.prog) (w:=w) (mg:=mg) (base:=base) F_pass_line WB RJ RP RU XC XU YM
 obtain⟨WG,VW,QB,QD,PZ,PY⟩:=c_whole_time_of.ex
 obtain⟨YW,XW,QZ,RD,QY,QX⟩:=c_how_it_ends.ex
 obtain⟨cV,bZ,F_walk_on,OY⟩:=d_walk_on.ex
 have OZ:=F_walk_on.kp
 have PJ:=F_walk_on.binds (ps:=["floor","point","step","most"]) λ_ _ _ _ _ _ us hl=>match us,hl with | [_,_,_,_],_=>rfl
 have PD:=Hu (P:=l.prog) (w:=w) (mg:=mg) (base:=base) F_walk_on WB cF QB QD PZ PY ⟨WW,mM_Track_init.at_,mM_Track_init.fn,WT⟩ RA RE (FJ X G SG) QM QS QJ QI UZ VI US UQ QZ RD QY QX SO TK UA SZ TV SS SK SD MX
 obtain⟨kG,gZ,F_walk,av⟩:=d_walk.ex
 have ay:=F_walk.kp
 have bu:=F_walk.binds (ps:=["hall","people","point","step","most"]) λ_ _ _ _ _ _ us hl=>match us,hl with | [_,_,_,_,_],_=>rfl
 have bW:=Zev (P:=l.prog) (w:=w) (mg:=mg) (base:=base) F_walk ⟨QH,mM_Floor_init.at_,mM_Floor_init.fn,QF⟩ NV NY (FJ X G OS) PD PJ OZ OY
 have VH:Cl l.prog w K mg base 7 "walk" ["hall","people","point","step","most"] Law.F_walk:=⟨_,_,bW,bu,ay,av⟩
 have MV:=Nr OU c_amount OE MN NF
 have c_steps_to_images:=Nt OT MV (FJ X G UL) UM
 have c_is_way:=Zbp (P:=l.prog) (w:=w) (base:=base) YH
 obtain⟨VP,VB,NP,NR,NO,NN⟩:=c_steps_to_images.ex
 obtain⟨L5,cR,TF,TX,SU,SL⟩:=c_is_way.ex
 obtain⟨Ic,gY,F_ways,au⟩:=d_ways.ex
 have ax:=F_ways.kp
 have br:=F_ways.binds (ps:=["hall","people","one","other","most"]) λ_ _ _ _ _ _ us hl=>match us,hl with | [_,_,_,_,_],_=>rfl
 have bV:=z9 (P:=l.prog) (w:=w) (mg:=mg) (base:=base) F_ways ⟨QH,mM_Floor_init.at_,mM_Floor_init.fn,QF⟩ NV NY (FJ X G OS) PD PJ OZ OY (by decide) NP NR NO NN (by decide) TF TX SU SL
 have QO:Cl l.prog w K mg base 7 "ways" ["hall","people","one","other","most"] Law.F_ways:=⟨_,_,bV,br,ax,au⟩
 obtain⟨L8,cS,F_images,XB⟩:=d_images.ex
 have XD:=F_images.kp
 have YL:=F_images.binds (ps:=["hall","people","one","other","most","reach"]) λ_ _ _ _ _ _ us hl=>match us,hl with | [_,_,_,_,_,_],_=>rfl
 have XT:=Zbr (P:=l.prog) (w:=w) (mg:=mg) (base:=base) F_images ⟨QH,mM_Floor_init.at_,mM_Floor_init.fn,QF⟩ NV NY (FJ X G OS) PD PJ OZ OY (by decide) NP NR NO NN (by decide) TF TX SU SL
 have OM:Cl l.prog w K mg base 7 "images" ["hall","people","one","other","most","reach"] Law.F_images:=⟨_,_,XT,YL,XD,XB⟩
 have MZ:=Zbt (P:=l.prog) (w:=w) (base:=base) YG MX
 have MS:=Cb (P:=l.prog) (w:=w) (base:=base) TQ NA MN PL
 have OP:=Ej (P:=l.prog) (w:=w) (base:=base) VF NA
 have MU:=Ek VE OP
 have OV:=Zbu (P:=l.prog) (w:=w) (base:=base) YB
 have QR:=Zbv YF MS OV MN NF NM
 have OW:=Zbw YD MU
 have OA:=El VC MS OW MN
 have QP:=Zbx (P:=l.prog) (w:=w) (base:=base) YA
 have NQ:=Zey aB MU
 have OL:=Zbz (P:=l.prog) (w:=w) (base:=base) YE
 have OK:=Cc TR NQ OL MN
 have OJ:=Cd TN OK MX MN PM
 have OO:=Em VD NQ MU MX MN
 have NW:=Ls (P:=l.prog) (w:=w) (base:=base) RB
 have QQ:=Zb0 YC VH MO NM MX
 have NB:=Pw PF OM QQ MO OE SF
 exact yj FL QP MZ QR OA QO MS OO NW OJ NB MX
theorem NZ {K:PySem.W.Frag}{H:Hp}:∀ns:List Int,Reps K H (ns.map D.int) (ns.map V.int)
 |[]=>Reps.nil
 |_::ns=>Reps.cons (rep_int.mpr rfl) (NZ ns)
def walk {l:PySem.W.OpenLaw}{q:Program}{loose:List Str}{XP:(Str->Option Value)->Heap->Prop}{YP:World->Heap->Prop}{d:DefRec}{K:Params->PySem.W.Frag}(hn:l.most=some 63)(eG:d.params.defaults=[])(hT:∀ns:List Int,ns.length<=63->Bu [.lst (ns.map D.int)]=.ok (.im (.bl true)))(hY:∀(w:World) (h:Heap),YP w h->(K w.params).In h)
  (F:∀(w:World) (mg:Str->Option Value) (fa:Addr) (h:Heap),(K w.params).In h->h.Ns mainGlobals mg->mg d.name=some (.ref fa) ->
   ∃fd:FuncData,(∀(s:Shared) (u:Value),BindsTo s fd ⟨[u],[]⟩ [("_law_script", u)])/\∀base:Heap,(K w.params).In base->base.Ns mainGlobals mg->MM l.prog w (K w.params) mg base Yf 10 fa fd ["_law_script"] (R9 (K w.params) Bu)):
  PySem.W.WalkO q loose XP YP l.row.toRowW d [] (λf vs=>PySem.call f vs):=
 L2.Zgv (n:=63) (k:=10) (x:="_law_script") (CX:=λw=>Yf) (sp:=λw=>R9 (K w.params) Bu) hn (by decide) eG ⟨rfl,by decide,by decide⟩ hY F
  (λw H a ns hl _ hS=>⟨H,[.lst (ns.map D.int)],.im (.bl true),Same.refl _,Reps.cons (rep_lst.mpr ⟨a,ns.map V.int,rfl,hS,NZ ns⟩) Reps.nil,hT ns hl,λv MJ H' _ r=>(rep_bl (K:=K w.params) (H:=MJ)).mp r⟩) λ_ _ _ _ _ z=>z
def zy {k:Nat}(h:k<=900):10 ^ k<2 ^ 4000:=by
 have h1:(10:Nat) ^ k<=16 ^ k:=JX (by decide) k
 have h2:(16:Nat) ^ k=2 ^ (4*k):=by rw[show(16:Nat)=2 ^ 4 from rfl,<-Nat.pow_mul]
 have h3:(2:Nat) ^ (4*k)<2 ^ 4000:=GR (by decide) (by lia)
 lia
def Qk {x:Int}{k:Nat}(h:x.natAbs<=10 ^ k)(hk:k<=900):sm x=true:=sm_iff.mpr (Nat.lt_of_le_of_lt h (zy hk))
def Qb {x y:Int}{j k:Nat}(hx:x.natAbs<=10 ^ j)(hy:y.natAbs<=10 ^ k):(x*y).natAbs<=10 ^ (j+k):=by
 rw[EK,Nat.pow_add]
 exact EI hx hy
def Px {x y:Int}{k:Nat}(hx:x.natAbs<=10 ^ k)(hy:y.natAbs<=10 ^ k):(x-y).natAbs<=10 ^ (k+1):=by
 have:=Int.natAbs_sub_le x y
 rw[Nat.pow_succ]
 lia
def yi (n:Nat):Tu 0 n=(List.range n).map fun(k:Nat)=>D.int (k:Int):=by
 unfold Tu;simp
def aH {fs:Zg->M (List D)}{sd:Zg}{n:Nat}(h:fs sd=.ok [.int (n:Int)])(hn:n<=1000):Yc fs sd=.ok ((List.range n).map fun(k:Nat)=>D.int (k:Int)):=by
 simp[Yc,h,yi]
 lia
def Ks {ds:List D}(h:ds.length<=1000000):few ds=true:=BD h
def gq (m:Nat)(f:Zg->M O)(a0:D):V5 1 m f [a0]=Wx (f ([some (S.im a0)]++List.replicate m none)):=rfl
def Oq (m:Nat)(f:Zg->M O)(a0 a1:D):V5 2 m f [a0,a1]=Wx (f ([some (S.im a0),some (S.im a1)]++List.replicate m none)):=rfl
def WL (m:Nat)(f:Zg->M O)(a0 a1 a2:D):V5 3 m f [a0,a1,a2]=Wx (f ([some (S.im a0),some (S.im a1),some (S.im a2)]++List.replicate m none)):=rfl
def fH (m:Nat)(f:Zg->M O)(a0 a1 a2 a3:D):V5 4 m f [a0,a1,a2,a3]=Wx (f ([some (S.im a0),some (S.im a1),some (S.im a2),some (S.im a3)]++List.replicate m none)):=rfl
def kb (m:Nat)(f:Zg->M O)(a0 a1 a2 a3 a4:D):V5 5 m f [a0,a1,a2,a3,a4]=Wx (f ([some (S.im a0),some (S.im a1),some (S.im a2),some (S.im a3),some (S.im a4)]++List.replicate m none)):=rfl
def Zh0 {f g:Zg->M O}{sd sd':Zg}(h:f sd=.ok (.nx sd')):Zz f g sd=g sd':=by unfold Zz;rw[h];rfl
def Ya {f g:Zg->M O}{sd:Zg}{s:S}(h:f sd=.ok (.rt s)):Zz f g sd=.ok (.rt s):=by unfold Zz;rw[h];rfl
def Yd {fi:Zg->M (List D)}{g:D->Zg->M Zg}{f:Zg->M O}{sd:Zg}{ds:List D}(h:fi sd=.ok ds):Ke fi g f sd=Xx g f ds sd:=by unfold Ke;rw[h];rfl
def go {f g:Zg->M O}{sd sd':Zg}{r:M O}(h:f sd=.ok (.nx sd'))(k:g sd'=r):Zz f g sd=r:=(Zh0 h).trans k
def Z9 {r:M O}{s:S}(h:r=.ok (.rt s)):Wx r=.ok s:=by rw[h];rfl
def Vh (i:Nat)(sd:Zg):Tv i (Dl Zj) sd=.ok (.nx (sd.set i (some (.ow [])))):=by
 unfold Tv Dl Zj
 rw[M.bind_ok,Ks (CL _),AD rfl,M.bind_ok]
def xJ {n:Nat}(h:n<=10 ^ 30):n<2 ^ 4000:=by
 have h1:(10:Nat) ^ 30<=16 ^ 30:=JX (by decide) 30
 have h2:(16:Nat) ^ 30=2 ^ 120:=by rw[show(16:Nat)=2 ^ 4 from rfl,<-Nat.pow_mul]
 have h3:(2:Nat) ^ 120<2 ^ 4000:=GR (by decide) (by decide)
 lia
def En {x:Int}(h:-1000000000000000000000000000000<=x)(h':x<=1000000000000000000000000000000):sm x=true:=sm_iff.mpr (xJ (by have:(10:Nat) ^ 30=1000000000000000000000000000000:=rfl;lia))
def gT {i j:Int}(hi:sm i=true)(hj:sm j=true):Zt (.int i) (.int j)=.ok (.int (i*j)):=by
 show(if(sm i&&sm j)=true then _ else _)=_
 rw[hi,hj];rfl
def Eo {i j:Int}(hj:0<j)(hs:sm j=true):Yz (.int i) (.int j)=.ok (.int (i/j)):=by
 show(if(j != 0&&sm j)=true then M.ok (D.int (i.fdiv j)) else _)=_
 have:(j != 0)=true:=by simp;lia
 rw[this,hs,Int.fdiv_eq_ediv_of_nonneg i (by lia)];rfl
def gM {i j:Int}(hj:0<j):Q7 (.int i) (.int j)=.ok (.int (i%j)):=by
 show(if(j != 0)=true then M.ok (D.int (i.fmod j)) else _)=_
 have:(j != 0)=true:=by simp;lia
 rw[this,Int.fmod_eq_emod_of_nonneg i (by lia)];rfl
def Z6 {i:Nat}{f:Zg->M D}{sd:Zg}{d:D}(h:f sd=.ok d):Qa i f sd=.ok (.nx (sd.set i (some (.im d)))):=by unfold Qa;rw[h];rfl
def Zw {F:List D->M S}{fs:Zg->M (List D)}{sd:Zg}{ds:List D}{s:S}{d:D}(h1:fs sd=.ok ds)(h2:F ds=.ok s)(h3:s.toD=.ok d):Zu F fs sd=.ok d:=by
 unfold Zu;rw[h1,M.bind_ok,h2];exact h3
def a1 {fa:Zg->M D}{sd:Zg}{d:D}(h:fa sd=.ok d):Zc fa Zj sd=.ok [d]:=by unfold Zc Zj;rw[h];rfl
def aC {fa:Zg->M D}{fr:Zg->M (List D)}{sd:Zg}{d:D}{ds:List D}(h:fa sd=.ok d)(h2:fr sd=.ok ds):Zc fa fr sd=.ok (d::ds):=by unfold Zc;rw[h,M.bind_ok,h2];rfl
def Z7 {f:Zg->M D}{sd:Zg}{d:D}(h:f sd=.ok d):Qs f sd=.ok (.rt (.im d)):=by unfold Qs;rw[h];rfl
def J9 {g:List D->M D}{fs:Zg->M (List D)}{sd:Zg}{ds:List D}{r:M D}(h1:fs sd=.ok ds)(h2:g ds=r):K6 g fs sd=r:=by unfold K6;rw[h1];exact h2
def Ye {g:D->Zg->M Zg}{f:Zg->M O}{d:D}{r:List D}{sd sd1 sd2:Zg}(h1:g d sd=.ok sd1)(h2:f sd1=.ok (.nx sd2)):Xx g f (d::r) sd=Xx g f r sd2:=by
 simp only[Xx,h1,h2,M.bind_ok]
def Ym {α:Type}(x:α)(r:List α):Nw (x::r) 0=some x:=by
 have:=Jq (xs:=x::r) (j:=0) (v:=x) rfl
 exact this
def Yi {α:Type}(x y:α)(r:List α):Nw (x::y::r) 1=some y:=by
 have:=Jq (xs:=x::y::r) (j:=1) (v:=y) rfl
 exact this
def Gx {x:Int}(h:-1000000000<=x)(h':x<=1000000000):sm x=true:=En (by lia) (by lia)
def Z1 {c:Zg->M Bool}{f:Zg->M O}{sd:Zg}(h:c sd=.ok false):Js c f Yp sd=.ok (.nx sd):=by unfold Js;rw[h];rfl
def Os {f g:Zg->M Bool}{sd:Zg}(h1:f sd=.ok false)(h2:g sd=.ok false):DL.tO f g sd=.ok false:=by unfold DL.tO;rw[h1];exact h2
def dG {f:Zg->M Bool}{sd:Zg}(h:f sd=.ok true):DL.tN f sd=.ok false:=by unfold DL.tN;rw[h];rfl
def Qn {f:Zg->M D}{sd:Zg}{b:Bool}(h:f sd=.ok (.bl b)):DL.tB f sd=.ok b:=by unfold DL.tB;rw[h];rfl
def Zk {g:D->D->M D}{fa fb:Zg->M D}{sd:Zg}{x y:D}{r:M D}(h1:fa sd=.ok x)(h2:fb sd=.ok y)(h3:g x y=r):Zn g fa fb sd=r:=by unfold Zn;rw[h1,M.bind_ok,h2,M.bind_ok,h3]
def qP {f g:Zg->M D}{sd:Zg}{r:M D}(h1:f sd=.ok (.bl true))(h2:g sd=r):Re f g sd=r:=by unfold Re;rw[h1,M.bind_ok];exact h2
def Qj {c:Zg->M Bool}{f g:Zg->M O}{sd:Zg}{r:M O}(h:c sd=.ok true)(k:f sd=r):Js c f g sd=r:=by unfold Js;rw[h];exact k
def Ot {c:Zg->M Bool}{f g:Zg->M O}{sd:Zg}{r:M O}(h:c sd=.ok false)(k:g sd=r):Js c f g sd=r:=by unfold Js;rw[h];exact k
def vv {f g:Zg->M Bool}{sd:Zg}(h1:f sd=.ok true):DL.tO f g sd=.ok true:=by unfold DL.tO;rw[h1];rfl
def vt {f g:Zg->M Bool}{sd:Zg}{r:M Bool}(h1:f sd=.ok false)(h2:g sd=r):DL.tO f g sd=r:=by unfold DL.tO;rw[h1];exact h2
def iS {f:Zg->M Bool}{sd:Zg}{b:Bool}(h:f sd=.ok b):DL.tN f sd=.ok (!b):=by unfold DL.tN;rw[h];rfl
def dF {f g:Zg->M Bool}{sd:Zg}(h1:f sd=.ok false):DL.tA f g sd=.ok false:=by unfold DL.tA;rw[h1];rfl
def Ms {f g:Zg->M Bool}{sd:Zg}{r:M Bool}(h1:f sd=.ok true)(h2:g sd=r):DL.tA f g sd=r:=by unfold DL.tA;rw[h1];exact h2
def xI {f g:Zg->M D}{sd:Zg}(h1:f sd=.ok (.bl false)):Re f g sd=.ok (.bl false):=by unfold Re;rw[h1];rfl
def Sk {c:Zg->M Bool}{f g:Zg->M D}{sd:Zg}{r:M D}(h:c sd=.ok true)(k:f sd=r):Cu c f g sd=r:=by unfold Cu;rw[h];exact k
def Lu {c:Zg->M Bool}{f g:Zg->M D}{sd:Zg}{r:M D}(h:c sd=.ok false)(k:g sd=r):Cu c f g sd=r:=by unfold Cu;rw[h];exact k
def lG {α:Type}(x y z:α)(r:List α):Nw (x::y::z::r) 2=some z:=Jq (xs:=x::y::z::r) (j:=2) (v:=z) rfl
def qm:Zg->M O:=(Zz (Qa 3 (Zn Q7 (Zn Z8 (Zn Z8 (Zn Zt (Zd 3) (Zn Z8 (Zn Q7 (Zd 3) ↑65521) ↑40487)) (Zn Zt ↑7 (Zd 5))) ↑5) ↑1999999973))
   (Zz (Uv 2 (Zn Ys (Jk (Zc (Zd 3) (Zc (Zn Q7 (Zd 4) ↑1000000) Zj))) (K6 dH (Zc (Zn N6 (Zd 4) ↑0) Zj))))
   (Qa 4 (Zn Yz (Zd 4) ↑1000000))))
def iR (d:Int):Prop:=0<=d/\d<1999999973
def Zh3 (s0 s1:Option S)(ds:List D)(hd:ds.length<=1000)(N R K:Int)(hN:0<=N)(mw:N<1999999973)(hK:0<=K)(hK':K<=1000):
  ∃d N':Int,0<=N'/\N'<1999999973/\iR d/\qm [s0,s1,some (.ow ds),some (.im (.int N)),some (.im (.int R)),some (.im (.int K))] =
   .ok (.nx [s0,s1,some (.ow (ds++[.int d])),some (.im (.int N')),some (.im (.int (R/1000000))),some (.im (.int K))]):=by
 have q1:0<=N%65521:=BQ _ (by decide)
 have q2:N%65521<65521:=BK _ (by decide)
 have g1:=gM (i:=N) (j:=65521) (by decide)
 have g2:=gT (i:=N) (j:=N%65521+40487) (En (by lia) (by lia)) (En (by lia) (by lia))
 have g3:=gT (i:=7) (j:=K) (En (by lia) (by lia)) (En (by lia) (by lia))
 have g4:=gM (i:=N*(N%65521+40487)+7*K+5) (j:=1999999973) (by decide)
 have e1:Qa 3 (Zn Q7 (Zn Z8 (Zn Z8 (Zn Zt (Zd 3) (Zn Z8 (Zn Q7 (Zd 3) ↑65521) ↑40487)) (Zn Zt ↑7 (Zd 5))) ↑5) ↑1999999973)
   [s0,s1,some (.ow ds),some (.im (.int N)),some (.im (.int R)),some (.im (.int K))] =
   .ok (.nx [s0,s1,some (.ow ds),some (.im (.int ((N*(N%65521+40487)+7*K+5)%1999999973))),some (.im (.int R)),some (.im (.int K))]):=by
  simp[Qa,Zn,Zd,eC,g1,Z8,g2,g3,g4]
 have b1:0<=(N*(N%65521+40487)+7*K+5)%1999999973:=BQ _ (by decide)
 have b2:(N*(N%65521+40487)+7*K+5)%1999999973<1999999973:=BK _ (by decide)
 generalize (N*(N%65521+40487)+7*K+5)%1999999973=N' at e1 b1 b2
 have f1:few ds=true:=Ks (by lia)
 have g5:=gM (i:=R) (j:=1000000) (by decide)
 have g8:=Eo (i:=R) (j:=1000000) (by decide) (En (by decide) (by decide))
 have f2:few [D.int N',D.int (R%1000000)]=true:=Ks (by simp)
 by_cases hR:R > 0
 .have p1:0<=R%1000000:=BQ _ (by decide)
  have p2:R%1000000<1000000:=BK _ (by decide)
  refine⟨R%1000000,N',b1,b2,⟨p1,by lia⟩,go e1 ?_⟩
  simp[Zz,Uv,Zn,Jk,Zc,Zj,Zd,eC,g5,f2,K6,N6,Dc,hR,dH,Ys,Yi,f1,Qa,g8]
 .refine⟨N',N',b1,b2,⟨b1,b2⟩,go e1 ?_⟩
  simp[Zz,Uv,Zn,Jk,Zc,Zj,Zd,eC,g5,f2,K6,N6,Dc,hR,dH,Ys,Ym,f1,Qa,g8]
theorem Ou (s0 s1:Option S):∀(ks:List Nat) (ds:List Int) (N R:Int) (v:Option S),ds.length+ks.length<=1000->(∀k∈ks,k<=1000)->0<=N->N<1999999973->(∀d∈ds,iR d) ->
  ∃(es:List Int) (N' R':Int) (v':Option S),es.length=ds.length+ks.length/\(∀d∈es,iR d)/\Xx (Xd 5) qm (ks.map fun(k:Nat)=>D.int (k:Int)) [s0,s1,some (.ow (ds.map D.int)),some (.im (.int N)),some (.im (.int R)),v] =
   .ok (.nx [s0,s1,some (.ow (es.map D.int)),some (.im (.int N')),some (.im (.int R')),v'])
 |[],ds,N,R,v,_,_,_,_,hd=>⟨ds,N,R,v,by simp,hd,by simp[Xx]⟩
 |k::ks,ds,N,R,v,h,hk,hN,mw,hd=>by
  rw[AH] at h
  have WC:=hk k BH
  obtain⟨d,N1,h1,h2,h3,e⟩:=Zh3 s0 s1 (ds.map D.int) (by simp;lia) N R (k:Int) hN mw (by lia) (by lia)
  obtain⟨es,N',R',v',hl,ho,ih⟩:=Ou s0 s1 ks (ds++[d]) N1 (R/1000000) (some (.im (.int (k:Int)))) (by simp;lia) (λk ju=>hk k (AV _ ju)) h1 h2 (λd' eI=>by
   rcases DK.mp eI with q|q
   .exact hd d' q
   .have:d'=d:=by simpa using q
    rw[this];exact h3)
  refine⟨es,N',R',v',by rw[hl];simp;lia,ho,?_⟩
  rw[CY,AM,FB] at ih
  rw[<-ih]
  simp[Xx,Xd,e]
def Rx (c:Int)(n:Nat)(hn:n<=1000):∃es:List Int,es.length=n/\(∀d∈es,iR d)/\Y7 [.int c,.int (n:Int)]=.ok (.ow (es.map D.int)):=by
 have g1:=gM (i:=c) (j:=1999999973) (by decide)
 have q1:0<=c%1999999973:=BQ _ (by decide)
 have q2:c%1999999973<1999999973:=BK _ (by decide)
 have g2:=gT (i:=c%1999999973+31) (j:=765432101) (En (by lia) (by lia)) (En (by lia) (by lia))
 have g3:=gM (i:=(c%1999999973+31)*765432101) (j:=1999999973) (by decide)
 have g4:iT (.int 10) (.int 18)=.ok (.int 1000000000000000000):=rfl
 have b1:0<=(c%1999999973+31)*765432101%1999999973:=BQ _ (by decide)
 have b2:(c%1999999973+31)*765432101%1999999973<1999999973:=BK _ (by decide)
 have e2:Qa 3 (Zn Q7 (Zn Zt (Zn Z8 (Zn Q7 (Zd 0) ↑1999999973) ↑31) ↑765432101) ↑1999999973) [some (.im (.int c)),some (.im (.int (n:Int))),some (.ow []),none,none,none] =
   .ok (.nx [some (.im (.int c)),some (.im (.int (n:Int))),some (.ow []),some (.im (.int ((c%1999999973+31)*765432101%1999999973))),none,none]):=by
  simp[Qa,Zn,Zd,eC,g1,Z8,g2,g3]
 generalize (c%1999999973+31)*765432101%1999999973=N at e2 b1 b2
 obtain⟨R,e4⟩:∃R:Int,(Js (DL.tO (DL.tB (Zn Mf (Zd 0) ↑0)) (DL.tB (Zn fJ (Zd 0) (Zn iT ↑10 ↑18)))) (Qa 4 (K6 Wt (Zc (Zd 0) Zj))) Yp) [some (.im (.int c)),some (.im (.int (n:Int))),some (.ow []),some (.im (.int N)),some (.im (.int 0)),none] =
   .ok (.nx [some (.im (.int c)),some (.im (.int (n:Int))),some (.ow []),some (.im (.int N)),some (.im (.int R)),none]):=by
  by_cases h1:c<0
  .exact⟨-c,by simp[Js,DL.tO,DL.tB,Zn,Zd,eC,Mf,Dc,h1,asB,Qa,K6,Wt,Zc,Zj]⟩
  .by_cases h2:1000000000000000000<=c
   .exact⟨c,by simp[Js,DL.tO,DL.tB,Zn,Zd,eC,Mf,fJ,Dc,h1,h2,g4,asB,Qa,K6,Wt,Zc,Zj]⟩
   .exact⟨0,by simp[Js,DL.tO,DL.tB,Zn,Zd,eC,Mf,fJ,Dc,h1,h2,g4,asB,Qa,K6,Wt,Zc,Zj,Yp]⟩
 obtain⟨es,N',R',v',hl,ho,e5⟩:=Ou (some (.im (.int c))) (some (.im (.int (n:Int)))) (List.range n) [] N R none (by simp;lia) (λk hk=>by have:=FA.mp hk;lia) b1 b2 (λd hd=>by simp at hd)
 refine⟨es,by simpa using hl,ho,?_⟩
 have r1:∀s0 s,Yc (Zc (Zd 1) Zj) (s0::some (.im (.int (n:Int)))::s)=.ok ((List.range n).map fun(k:Nat)=>D.int (k:Int)):=λs0 s=>aH (by simp[Zc,Zj,Zd]) hn
 exact(Oq _ _ _ _).trans (Z9 (go (Vh 2 _) (go e2 (go rfl (go e4 (go ((Yd (r1 _ _)).trans e5) rfl))))))
def Nu {fa fb:Zg->M D}{sd:Zg}{a b:D}(h1:fa sd=.ok a)(h2:fb sd=.ok b):Q0 (Zc fa (Zc fb Zj)) sd=.ok (.tup [a,b]):=by
 unfold Q0;rw[aC h1 (a1 h2)];rfl
def V3 {fs:Zg->M (List D)}{sd:Zg}{ds:List D}(h:fs sd=.ok ds)(hf:few ds=true):Jk fs sd=.ok (.lst ds):=by
 unfold Jk
 rw[h,M.bind_ok,AD hf]
def Km {x y:D}(h:x.dep<=60):Kp x y=.ok (.bl (D.eq x y)):=AD h
def Uz {x y:D}(h:x.dep<=60):Gv x y=.ok (.bl (!D.eq x y)):=AD h
def Ju (a b:Int):Kp (.int a) (.int b)=.ok (.bl (a==b)):=by rw[Km (by simp[D.dep])];simp only[D.eq]
def lF {f g:Zg->M Bool}{sd:Zg}{a b:Bool}(h1:f sd=.ok a)(h2:g sd=.ok b):DL.tO f g sd=.ok (a||b):=by
 cases a
 .exact vt h1 h2
 .exact vv h1
def iQ {f g:Zg->M Bool}{sd:Zg}{a b:Bool}(h1:f sd=.ok a)(h2:g sd=.ok b):DL.tA f g sd=.ok (a&&b):=by
 cases a
 .exact dF h1
 .exact Ms h1 h2
def Hv {f g:Zg->M D}{sd:Zg}{a b:Bool}(h1:f sd=.ok (.bl a))(h2:g sd=.ok (.bl b)):Re f g sd=.ok (.bl (a&&b)):=by
 cases a
 .exact xI h1
 .exact qP h1 h2
theorem Vi {n:Nat}:∀{l:List D},(∀d∈l,d.dep<=n)->D.deps l<=n
 |[],_=>by simp[D.deps]
 |a::r,h=>by
  simp only[D.deps]
  have:=h a (by simp)
  have:=Vi (l:=r) λd hd=>h d (by simp[hd])
  lia
def Ce {i:Nat}{f:Zg->M D}{sd:Zg}{ds:List D}{d:D}(h:sd[i]?=some (some (.ow ds)))(hf:f sd=.ok d)(hl:ds.length<=1000):Uv i f sd=.ok (.nx (sd.set i (some (.ow (ds++[d]))))):=by
 unfold Uv
 rw[h]
 dsimp only
 rw[hf,M.bind_ok,Ks (by lia),AD rfl]
def Ep {f:Zg->M D}{sd:Zg}{ds:List D}(h:f sd=.ok (.tup ds)):Kl f sd=.ok ds:=by
 unfold Kl
 rw[h]
 rfl
def Gy {f:Zg->M D}{sd:Zg}{ds:List D}(h:f sd=.ok (.lst ds)):Kl f sd=.ok ds:=by
 unfold Kl
 rw[h]
 rfl
theorem dE {α:Type}{gt:D->Zg->M Zg}{fe:Zg->M D}{sd0:Zg}(e g:α->D):∀l:List α,(∀a∈l,∃sd1,gt (e a) sd0=.ok sd1/\fe sd1=.ok (g a))->Wk gt fe sd0 (l.map e)=.ok (l.map g)
 |[],_=>rfl
 |a::l,h=>by
  obtain⟨sd1,h1,h2⟩:=h a (by simp)
  rw[AM,AM]
  simp only[Wk,h1,h2,dE e g l λb hb=>h b (by simp[hb])]
def Gb {xs ys:List D}(h:xs.length+ys.length<=1000):Z8 (.lst xs) (.lst ys)=.ok (.lst (xs++ys)):=by
 show(if few (xs++ys) then M.ok (D.lst (xs++ys)) else .bad)=_
 rw[Ks (by rw[AJ];lia),AD rfl]
def Er {g l:Int}(hg:0<=g)(hl:0<l):Int.gcd l (g%l)=Int.gcd g l:=by
 obtain⟨g',rfl⟩:=IX hg
 obtain⟨l',rfl⟩:=IX (AI hl)
 rw[<-Int.natCast_emod]
 simp only[Int.gcd,EU]
 rw[Nat.gcd_comm l',<-Nat.gcd_rec,Nat.gcd_comm]
def Zb4 {g:Int}(hg:0<=g):((Int.gcd g 0:Nat):Int)=g:=by
 rw[Int.gcd_zero_right];lia
theorem Ov (x y:Option S):∀(n:Nat) (g l:Int) (r:Option S),0<=g->0<=l->l.toNat<n ->
  ∃r',Y9 (DL.tB (Zn Gv (Zd 3) ↑0)) (Zz (Qa 4 (Zn Q7 (Zd 2) (Zd 3))) (Zz (Qa 2 (Zd 3)) (Qa 3 (Zd 4)))) n [x,y,some (.im (.int g)),some (.im (.int l)),r] =
   .ok (.nx [x,y,some (.im (.int (Int.gcd g l:Nat))),some (.im (.int 0)),r'])
 |0,_,_,_,_,_,h=>by lia
 |n+1,g,l,r,hg,hl,h=>by
  by_cases hz:l=0
  .subst hz
   refine⟨r,?_⟩
   simp[Y9,DL.tB,Zn,Zd,eC,Gv,D.dep,D.eq,asB,Zb4 hg]
   lia
  .have hp:0<l:=by lia
   have gL:0<=g%l:=BQ g (by lia)
   have uU:g%l<l:=BK g hp
   obtain⟨r',e⟩:=Ov x y n l (g%l) (some (.im (.int (g%l)))) hl gL (by lia)
   refine⟨r',?_⟩
   rw[Er hg hp] at e
   rw[<-e]
   simp[Y9,DL.tB,Zn,Zd,eC,Gv,D.dep,D.eq,asB,Zz,Qa,gM hp,hz]
def ab (a:Int):(if a<0 then -a else a)=(a.natAbs:Int):=by split<;>lia
def Ry (a:Int):Wt [.int a]=.ok (.int (a.natAbs:Int)):=by
 show M.ok (D.int (if a<0 then -a else a))=_
 rw[ab]
def vq (a b:Int):Jb [.int a,.int b]=.ok (.im (.int (Int.gcd a b:Nat))):=by
 obtain⟨r',e⟩:=Ov (some (.im (.int a))) (some (.im (.int b))) (b.natAbs+1) a.natAbs b.natAbs none (by lia) (by lia) (by lia)
 have e2:=M8 (c:=DL.tB (Zn Gv (Zd 3) ↑0)) (f:=Zz (Qa 4 (Zn Q7 (Zd 2) (Zd 3))) (Zz (Qa 2 (Zd 3)) (Qa 3 (Zd 4)))) (n:=b.natAbs+1) (sd:=[some (.im (.int a)),some (.im (.int b)),some (.im (.int a.natAbs)),some (.im (.int b.natAbs)),none]) (by rw[e];simp)
 rw[e] at e2
 refine(Oq _ _ _ _).trans (Z9 (go (Z6 (J9 (a1 rfl) (Ry a))) (go (Z6 (J9 (a1 rfl) (Ry b))) (go e2 (Z7 ?_)))))
 show M.ok (D.int ((Int.gcd (a.natAbs:Int) (b.natAbs:Int):Nat):Int))=_
 simp[Int.gcd]
def nD (p q:Int):D:=.tup [.int p,.int q]
def Xt (t b:Int):D:=nD (t/(Int.gcd t b:Nat)) (b/(Int.gcd t b:Nat))
def Cf {t b:Int}(hb:b≠0\/t≠0):(0:Int)<(Int.gcd t b:Nat):=by
 have:0<Int.gcd t b:=Nat.pos_of_ne_zero λz=>by
  have:=Int.gcd_eq_zero_iff.mp z
  lia
 lia
def Jf {fa fb:Zg->M D}{sd:Zg}{ds:List D}{i:Int}{d:D}(h:fa sd=.ok (.lst ds))(h2:fb sd=.ok (.int i))(e:Nw ds i=some d):Zn Ys fa fb sd=.ok d:=by
 refine Zk h h2 ?_
 show(match Nw ds i with|some d=>M.ok d|none=>.bad)=_
 rw[e]
def Zo {fa fb:Zg->M D}{sd:Zg}{ds:List D}{i:Int}{d:D}(h:fa sd=.ok (.tup ds))(h2:fb sd=.ok (.int i))(e:Nw ds i=some d):Zn Ys fa fb sd=.ok d:=by
 refine Zk h h2 ?_
 show(match Nw ds i with|some d=>M.ok d|none=>.bad)=_
 rw[e]
theorem Lw {α:Type}:∀l:List α,X9 (l.map λ_=>D.bl true)=some (l.map λ_=>true)
 |[]=>rfl
 |a::l=>by
  rw[AM,AM]
  simp only[X9,Lw l]
  rfl
def Gc {f:Zg->M (List D)}{sd:Zg}{ds:List D}(h:f sd=.ok ds):Um f sd=.ok (.lst ds):=by
 unfold Um;rw[h];rfl
def Ui {fi:Zg->M (List D)}{n0:Nat}{caps:List Nat}{gt:D->Zg->M Zg}{fe:Zg->M D}{sd:Zg}{ds:List D}{r:M (List D)}(h:fi sd=.ok ds)(hf:ds.length<=1000)(hr:Wk gt fe (Ut n0 caps sd) ds=r):Kx fi n0 caps gt fe sd=r:=by
 unfold Kx
 rw[h,M.bind_ok,Ks (by lia),AD rfl,hr]
def Zh5 {i:Nat}{f:Zg->M Bool}{sd:Zg}{b:Bool}(h:f (frz i sd)=.ok b):Sc i f sd=.ok b:=by
 unfold Sc
 rw[h]
def Ta {i:Nat}{f:Zg->M O}{sd:Zg}{r:M O}(h:f (frz i sd)=r):Dq i f sd=r:=h
def Rz {ds:List D}:Wj [.lst ds]=.ok (.int (ds.length:Int)):=rfl
def m4 (a b c d:Int):a*b*(c*d)=a*c*(b*d):=by rw[DG,DG,KZ b]
def Yb {t b:Int}(hb:0<b):∃p q,Xt t b=nD p q/\0<q/\p*b=t*q/\Int.gcd p q=1/\p.natAbs<=t.natAbs/\q<=b:=by
 obtain⟨u,eu⟩:((Int.gcd t b:Nat):Int) ∣ t:=Int.gcd_dvd_left t b
 obtain⟨v,ev⟩:((Int.gcd t b:Nat):Int) ∣ b:=LA t b
 have gp:=Cf (t:=t) (b:=b) (by lia)
 have hg:Int.gcd u v=1:=by
  have h1:Int.gcd ((Int.gcd t b:Nat)*u) ((Int.gcd t b:Nat)*v)=Int.gcd t b:=by rw[<-eu,<-ev]
  rw[Int.gcd_mul_left,EU] at h1
  have h0:0<Int.gcd t b:=by lia
  exact Nat.eq_of_mul_eq_mul_left h0 (by rw[h1,Nat.mul_one])
 refine⟨t/(Int.gcd t b:Nat),b/(Int.gcd t b:Nat),rfl,?_⟩
 generalize ((Int.gcd t b:Nat):Int)=g at eu ev gp ⊢
 rw[eu,ev,IM _ (by lia),IM _ (by lia)]
 have v1:0<v:=by
  rcases FC 0 v with h|h
  .exact h
  .have:=Int.mul_nonpos_of_nonneg_of_nonpos (AI gp) h;lia
 refine⟨v1,by rw[KZ,DG],hg,?_,?_⟩
 .rw[EK]
  exact Nat.le_mul_of_pos_left _ (by lia)
 .have:=AS (show(1:Int)<=g by lia) (AI v1)
  lia
def Zb5 {p q p' q':Int}(hq:0<q)(VN:0<q')(c:Int.gcd p q=1)(c':Int.gcd p' q'=1)(e:p*q'=p'*q):p=p'/\q=q':=by
 have half:∀{p q p' q':Int},Int.gcd p q=1->p*q'=p'*q->q ∣ q':=λ{p q p' q'} c e=>by
  have:q ∣ p*q':=by rw[e];exact Int.dvd_mul_left _ _
  have c2:Int.gcd q p=1:=by rw[Int.gcd_comm];exact c
  have h1:q.natAbs ∣ p.natAbs*q'.natAbs:=by rw[<-EK];exact GQ.mpr this
  have h2:q.natAbs ∣ q'.natAbs:=Nat.Coprime.dvd_of_dvd_mul_left (show Nat.Coprime q.natAbs p.natAbs from c2) h1
  exact GQ.mp h2
 have d1:=half c e
 have d2:=half c' e.symm
 have eq:q=q':=by
  have h1:=IP VN d1
  have h2:=IP hq d2
  lia
 subst eq
 exact⟨CD (by lia) e,rfl⟩
def R0 {t b t' b':Int}(hb:0<b)(SB:0<b')(e:t*b'=t'*b):Xt t b=Xt t' b':=by
 obtain⟨p,q,e1,q1,r1,c1,_⟩:=Yb (t:=t) hb
 obtain⟨p',q',e2,q2,r2,c2,_⟩:=Yb (t:=t') SB
 have:p=p'/\q=q':=by
  refine Zb5 q1 q2 c1 c2 ?_
  have h:(p*q')*(b*b')=(p'*q)*(b*b'):=by
   have a1:(p*q')*(b*b')=(p*b)*(q'*b'):=by rw[m4]
   have a2:(p'*q)*(b*b')=(p'*b')*(q*b):=by rw[CN b b',m4]
   have a3:(t*q)*(q'*b')=(t*b')*(q*q'):=by rw[CN q' b',m4]
   have a4:(t'*q')*(q*b)=(t'*b)*(q*q'):=by rw[CN q b,m4,CN q' q]
   rw[a1,a2,r1,r2,a3,a4,e]
  exact CD (DA (by lia) (by lia)) h
 rw[e1,e2,this.1,this.2]
structure Fr (k:Nat) (p q:Int):Prop where
 pos:0<q
 top:p.natAbs<=10 ^ k
 bot:q.natAbs<=10 ^ k
def Fr.mono {j k:Nat}{p q:Int}(h:Fr j p q)(hk:j<=k):Fr k p q:=
 have:=JR (show 0<10 by decide) hk
 ⟨h.pos,by have:=h.top;lia,by have:=h.bot;lia⟩
def Hw {k:Nat}{t b:Int}(h:Fr k t b):∃p q,Xt t b=nD p q/\Fr k p q/\p*b=t*q/\Int.gcd p q=1:=by
 obtain⟨p,q,e,q1,r,c,h1,h2⟩:=Yb (t:=t) h.pos
 have:=h.top
 have:=h.bot
 exact⟨p,q,e,⟨q1,by lia,by lia⟩,r,c⟩
def qj {k:Nat}{t b:Int}(h:t.natAbs<=10 ^ k)(h2:b.natAbs<=10 ^ k):(((Int.gcd t b:Nat):Int)).natAbs<=10 ^ k:=by
 rw[EU]
 by_cases hz:b=0
 .subst hz;simpa using h
 .have h1:((Int.gcd t b:Nat):Int) ∣ b:=LA t b
  have h2:=Nat.le_of_dvd (by lia) (GQ.mpr h1)
  rw[EU] at h2
  lia
def Py {k:Nat}{t b:Int}(h:Fr k t b)(hk:k<=900):Ki [.int t,.int b]=.ok (.im (Xt t b)):=by
 have gp:=Cf (t:=t) (b:=b) (by have:=h.pos;lia)
 have gs:sm ((Int.gcd t b:Nat):Int)=true:=Qk (qj h.top h.bot) hk
 exact(Oq _ _ _ _).trans (Z9 (go (Z6 (Zw (aC rfl (a1 rfl)) (vq t b) rfl)) (Z7 (Nu (Zk rfl rfl (Eo gp gs)) (Zk rfl rfl (Eo gp gs))))))
def Ur {j k:Nat}(h:j<=k):(10:Nat) ^ j<=10 ^ k:=JR (by decide) h
def Tb {k:Nat}{a b c d:Int}(h1:Fr k a b)(h2:Fr k c d)(hk:k<=400):Vf [nD a b,nD c d]=.ok (.im (.bl (decide (a*d<c*b)))):=by
 have sa:=Qk h1.top (by lia)
 have sb:=Qk h1.bot (by lia)
 have sc:=Qk h2.top (by lia)
 have sd:=Qk h2.bot (by lia)
 exact(Oq _ _ _ _).trans (Z9 (Z7 (Zk (Zk (Zo rfl rfl (Ym _ _)) (Zo rfl rfl (Yi _ _ _)) (gT sa sd)) (Zk (Zo rfl rfl (Ym _ _)) (Zo rfl rfl (Yi _ _ _)) (gT sc sb)) rfl)))
theorem Ow:∀(n:Nat) (hi lo:Int),0<=hi->0<=lo->lo.toNat<n ->
  Y9 (DL.tB (Zn N6 (Zd 1) ↑0)) (Rh 0 1 (Zc (Zd 1) (Zc (Zn Q7 (Zd 0) (Zd 1)) Zj))) n [some (.im (.int hi)),some (.im (.int lo))] =
   .ok (.nx [some (.im (.int (Int.gcd hi lo:Nat))),some (.im (.int 0))])
 |0,_,_,_,_,h=>by lia
 |n+1,hi,lo,hg,hl,h=>by
  by_cases hz:lo=0
  .subst hz
   simp[Y9,DL.tB,Zn,Zd,eC,N6,Dc,asB]
   lia
  .have hp:0<lo:=by lia
   have gL:0<=hi%lo:=BQ hi (by lia)
   have uU:hi%lo<lo:=BK hi hp
   have e:=Ow n lo (hi%lo) hl gL (by lia)
   rw[Er hg hp] at e
   rw[<-e]
   simp[Y9,DL.tB,Zn,Zd,eC,N6,Dc,asB,Rh,Zc,Zj,gM hp,hp]
def Ze2 {hi lo:Int}(h1:0<=hi)(h2:0<=lo):Nb (DL.tB (Zn N6 (Zd 1) ↑0)) (Rh 0 1 (Zc (Zd 1) (Zc (Zn Q7 (Zd 0) (Zd 1)) Zj))) [some (.im (.int hi)),some (.im (.int lo))]=.ok (.nx [some (.im (.int (Int.gcd hi lo:Nat))),some (.im (.int 0))]):=by
 have e:=Ow (lo.toNat+1) hi lo h1 h2 (by lia)
 have e2:=M8 (c:=DL.tB (Zn N6 (Zd 1) ↑0)) (f:=Rh 0 1 (Zc (Zd 1) (Zc (Zn Q7 (Zd 0) (Zd 1)) Zj))) (n:=lo.toNat+1) (sd:=[some (.im (.int hi)),some (.im (.int lo))]) (by rw[e];simp)
 exact e2.trans e
def yh (t b:Int):We [.int t,.int b]=.ok (.im (.int (Int.gcd t b:Nat))):=by
 have eg:((Int.gcd (t.natAbs:Int) (b.natAbs:Int):Nat):Int)=(Int.gcd t b:Nat):=by simp[Int.gcd]
 have w:=Ze2 (hi:=(t.natAbs:Int)) (lo:=(b.natAbs:Int)) (by lia) (by lia)
 rw[eg] at w
 exact(Oq _ _ _ _).trans (Z9 (go (Z6 (J9 (a1 rfl) (Ry t))) (go (Z6 (J9 (a1 rfl) (Ry b))) (go w (Z7 rfl)))))
def lV {k:Nat}{t b:Int}(h:Fr k t b)(hk:k<=900):Xa [.int t,.int b]=.ok (.im (Xt t b)):=by
 have gp:=Cf (t:=t) (b:=b) (by have:=h.pos;lia)
 have gs:sm ((Int.gcd t b:Nat):Int)=true:=Qk (qj h.top h.bot) hk
 exact(Oq _ _ _ _).trans (Z9 (go (Z6 (Zw (aC rfl (a1 rfl)) (yh t b) rfl)) (Z7 (Nu (Zk rfl rfl (Eo gp gs)) (Zk rfl rfl (Eo gp gs))))))
abbrev Io (d:D):Option S:=some (.im d)
abbrev Jo (i:Int):Option S:=some (.im (.int i))
section
variable {k:Nat}{a b c d:Int}
def Lx {p q p' q':Int}(hb:0<b)(hd:0<d)(hq:0<q)(VN:0<q')(m1:p*b=a*q)(m2:p'*d=c*q'):p*q'<p'*q↔a*d<c*b:=by
 have e1:p*q'*(b*d)=a*d*(q*q'):=by grind
 have e2:p'*q*(b*d)=c*b*(q*q'):=by grind
 have h1:=AX hb hd
 have h2:=AX hq VN
 constructor
 .intro h
  have:=BU h h1
  rw[e1,e2] at this
  exact BM this (AI h2)
 .intro h
  have:=BU h h2
  rw[<-e1,<-e2] at this
  exact BM this (AI h1)
end
def Zh6 {t b t' b':Int}(hb:0<b)(SB:0<b'):Xt t b=Xt t' b'↔t*b'=t'*b:=by
 constructor
 .intro h
  obtain⟨p,q,e1,f1,m1,_⟩:=Yb (t:=t) hb
  obtain⟨p',q',e2,f2,m2,_⟩:=Yb (t:=t') SB
  rw[e1,e2] at h
  unfold nD at h
  injection h with h
  injection h with h1 h
  injection h with h2 _
  injection h1 with h1
  injection h2 with h2
  subst h1
  subst h2
  have:t*b'*q=t'*b*q:=by grind
  exact CD (by lia) this
 .exact R0 hb SB
def Ly {p q:Int}(hq:0<q)(g:Int.gcd p q=1):Xt p q=nD p q:=by
 unfold Xt
 rw[g]
 simp
def vx (m:Nat)(f:Zg->M O)(a0:S):Oc 1 m f [a0]=Wx (f ([some a0]++List.replicate m none)):=rfl
def gk (m:Nat)(f:Zg->M O)(a0 a1:S):Oc 2 m f [a0,a1]=Wx (f ([some a0,some a1]++List.replicate m none)):=rfl
def fG (m:Nat)(f:Zg->M O)(a0 a1 a2:S):Oc 3 m f [a0,a1,a2]=Wx (f ([some a0,some a1,some a2]++List.replicate m none)):=rfl
def vc (m:Nat)(f:Zg->M O)(a0 a1 a2 a3:S):Oc 4 m f [a0,a1,a2,a3]=Wx (f ([some a0,some a1,some a2,some a3]++List.replicate m none)):=rfl
def RZ (b:D)(sq h due lap:Int):Qy:=[("begin", b),("square", .int sq),("heading", .int h),("due", .int due),("lap", .int lap)]
def yg (b th:D)(sq h due lap now:Int)(ht:th.dep<=60):F_pass_line (RZ b sq h due lap) [.int now,th]=some (if due=now then(if D.eq th (.str (Str.ofString "m"))=true then RZ b sq (-h) (due+lap) lap else RZ b (sq+h) h (due+lap) lap) else RZ b sq h due lap):=by
 unfold F_pass_line ZE
 rw[AD (by rfl)]
 have e1:gB (Fi Kp (Wm "due") (Vb (Zd 1))) (none::([D.int now,th].map (λd=>Io d)++List.replicate 0 none)) (RZ b sq h due lap)=.ok (due==now):=by
  show(Kp (.int due) (.int now)).bind asB=_
  rw[Ju]
  rfl
 have e2:(DL.tB (Zn Kp (Zd 2) ↑"m") (none::([D.int now,th].map (λd=>Io d)++List.replicate 0 none)))=.ok (D.eq th (.str (Str.ofString "m"))):=by
  show(Kp th (.str (Str.ofString "m"))).bind asB=_
  rw[Km ht]
  rfl
 unfold ZF
 rw[e1]
 by_cases hd:due=now
 .rw[AD hd,show(due==now)=true by simp[hd]]
  dsimp only[]
  rw[e2]
  cases D.eq th (.str (Str.ofString "m")) with
  |true=>rfl
  |false=>rfl
 .rw[AF hd,show(due==now)=false by simp[hd]]
  rfl
def Yl (sq h:Int):Int:=if 0<h then sq+1 else sq
def yf (a:Addr)(b:D)(sq h due lap:Int):Qq [.ob a "Track" (RZ b sq h due lap)]=.ok (.im (.int (Yl sq h))):=by
 unfold Yl
 refine(vx _ _ _).trans (Z9 (Z7 ?_))
 by_cases hh:0<h
 .rw[AD hh]
  exact Sk (Qn (Zk rfl rfl (show N6 (.int h) (.int 0)=.ok (.bl true) by show M.ok (D.bl (decide (h > 0)))=_;rw[BD hh]))) rfl
 .rw[AF hh]
  exact Lu (Qn (Zk rfl rfl (show N6 (.int h) (.int 0)=.ok (.bl false) by show M.ok (D.bl (decide (h > 0)))=_;rw[BI hh]))) rfl
def Gd (i:Nat){sd:Zg}{a:Addr}{b:D}{sq h due lap:Int} (e:sd[i]?=some (some (.ob a "Track" (RZ b sq h due lap)))):X2 i "Track" "line_ahead" Qq Zj sd=.ok (.int (Yl sq h)):=by
 unfold X2
 rw[e]
 show(if _/\_ then _ else _)=_
 rw[AD ⟨rfl,rfl⟩]
 show Pk (Qq [.ob a "Track" (RZ b sq h due lap)])=_
 rw[yf]
 rfl
def Ze4 (a:Addr)(b:D)(sq due lap now:Int):Yu [.ob a "Track" (RZ b sq 0 due lap),.im (.int now)]=.ok (.im b):=by
 refine(gk _ _ _ _).trans ?_
 exact Z9 (Ya (Qj (Qn (Zk rfl rfl (show Kp (.int 0) (.int 0)=.ok (.bl true) by rw[Ju];rfl))) (Z7 rfl)))
def Zh7 {k:Nat}(a:Addr)(b:D){sq h due lap now:Int}(hh:h≠0)(hl:0<lap)(bl:lap.natAbs<=10 ^ k)(b1:(Yl sq h).natAbs<=10 ^ k)(b2:h.natAbs<=10 ^ k)(b3:(due-now).natAbs<=10 ^ k)(hk:k<=300):
  Yu [.ob a "Track" (RZ b sq h due lap),.im (.int now)]=.ok (.im (Xt (Yl sq h*lap-h*(due-now)) lap)):=by
 have hf:Fr (k+k+1) (Yl sq h*lap-h*(due-now)) lap:=⟨hl,Px (Qb b1 bl) (Qb b2 b3),BA bl (Ur (by lia))⟩
 refine(gk _ _ _ _).trans ?_
 refine Z9 (go (Z1 (Qn (Zk rfl rfl (show Kp (.int h) (.int 0)=.ok (.bl false) by rw[Ju];simp[hh])))) (Z7 (Zw (aC (d:=.int (Yl sq h*lap-h*(due-now))) ?_ (a1 (d:=.int lap) rfl)) (Py hf (by lia)) rfl)))
 exact Zk (Zk (Gd 0 rfl) rfl (gT (Qk b1 (by lia)) (Qk bl (by lia)))) (Zk rfl (Zk rfl rfl rfl) (gT (Qk b2 (by lia)) (Qk b3 (by lia)))) rfl
def Zb6 {k:Nat}(a:Addr)(b:D){sq h due lap n d:Int}(hd:Fr k n d)(bl:lap.natAbs<=10 ^ k)(b1:(Yl sq h).natAbs<=10 ^ k)(b2:h.natAbs<=10 ^ k)(b3:due.natAbs<=10 ^ k)(hk:k<=100):
  Vk [.ob a "Track" (RZ b sq h due lap),.im (nD n d)]=.ok (.im (Xt (due*d-h*(Yl sq h*d-n)*lap) d)):=by
 have s1:=Qk hd.top (by lia)
 have s2:=Qk hd.bot (by lia)
 have s3:=Qk bl (by lia)
 have s4:=Qk b1 (by lia)
 have s5:=Qk b2 (by lia)
 have s6:=Qk b3 (by lia)
 have h1:(Yl sq h*d-n).natAbs<=10 ^ (k+k+1):=Px (Qb b1 hd.bot) (BA hd.top (Ur (by lia)))
 have h2:(h*(Yl sq h*d-n)).natAbs<=10 ^ (k+(k+k+1)):=Qb b2 h1
 have h3:(h*(Yl sq h*d-n)*lap).natAbs<=10 ^ (k+(k+k+1)+k):=Qb h2 bl
 have hf:Fr (k+(k+k+1)+k+1) (due*d-h*(Yl sq h*d-n)*lap) d:=⟨hd.pos,Px (BA (Qb b3 hd.bot) (Ur (by lia))) h3,BA hd.bot (Ur (by lia))⟩
 refine(gk _ _ _ _).trans ?_
 refine Z9 (go (Z6 (d:=.int (h*(Yl sq h*d-n))) (Zk rfl (Zk (Zk (Gd 0 rfl) (Zo rfl rfl (Yi _ _ _)) (gT s4 s2)) (Zo rfl rfl (Ym _ _)) rfl) (gT s5 (Qk h1 (by lia))))) (Z7 (Zw (aC (d:=.int (due*d-h*(Yl sq h*d-n)*lap)) ?_ (a1 (d:=.int d) (Zo rfl rfl (Yi _ _ _)))) (Py hf (by lia)) rfl)))
 exact Zk (Zk rfl (Zo rfl rfl (Yi _ _ _)) (gT s6 s2)) (Zk rfl rfl (gT (Qk h2 (by lia)) s3)) rfl
structure Po4 where
 a:Int
 b:Int
 c:Int
 d:Int
def Po4.D (p:Po4):D:=.tup [nD p.a p.b,nD p.c p.d]
structure PoOk (k:Nat) (p:Po4):Prop where
 x:Fr k p.a p.b
 y:Fr k p.c p.d
structure PIn (z:Nat) (p q:Int):Prop where
 fr:Fr 4 p q
 p0:0<p
 p1:p<(z:Int)*q
 g:Int.gcd p q=1
 nw:∀k:Int,k*q≠p
 q3:q<=1000
def pH {z:Nat}{t b:Int}(hb:2<=b)(SB:b<=1000)(h0:0<t)(h1:t<(z:Int)*b)(z8:z<=8)(hm:t%b≠0):∃p q,PIn z p q/\Xa [.int t,.int b]=.ok (.im (nD p q)):=by
 have p4:(10:Nat) ^ 4=10000:=rfl
 have wb:(z:Int)*b<=8*1000:=CW (by lia) SB (by lia) (by lia)
 have hf:Fr 4 t b:=⟨by lia,by rw[p4];lia,by rw[p4];lia⟩
 have b0:0<b:=by lia
 obtain⟨p,q,el,q0,m,g,h3,h4⟩:=Yb (t:=t) b0
 refine⟨p,q,⟨⟨q0,by rw[p4];lia,by rw[p4];lia⟩,?_,?_,g,λk e=>hm ?_,by lia⟩,by rw[lV hf (by decide),el]⟩
 .have:0<p*b:=by rw[m];exact AX h0 q0
  exact EX this b0
 .have h3:=BU h1 q0
  rw[<-m,KL] at h3
  exact BM h3 (AI b0)
 .have:t*q=(k*b)*q:=by rw[<-m,<-e];grind
  have:=CD (by lia) this
  rw[this]
  exact Int.mul_emod_left k b
def qf {W:Nat}(hW:1<=W)(ZT:W<=8)(a b:Int):∃p q,PIn W p q/\V0 [.int a,.int b,.int (W:Int)]=.ok (.im (nD p q)):=by
 have k0:=BQ (a/1000) (show(4:Int)≠0 by decide)
 have k1:=BK (a/1000) (show(0:Int)<4 by decide)
 obtain⟨m,hm,mf,em⟩:∃m:Int,4<=m/\m<=999/\Ys (.lst [.int 4,.int 8,.int 30,.int 999]) (.int (a/1000%4))=.ok (.int m):=by
  generalize a/1000%4=k at *
  have:k=0\/k=1\/k=2\/k=3:=by lia
  rcases this with rfl|rfl|rfl|rfl
  .exact⟨4,by decide,by decide,rfl⟩
  .exact⟨8,by decide,by decide,rfl⟩
  .exact⟨30,by decide,by decide,rfl⟩
  .exact⟨999,by decide,by decide,rfl⟩
 have r1:0<=a%m:=BQ _ (by lia)
 have r2:a%m<m:=BK _ (by lia)
 generalize hB:2+a%m=B
 have m9:2<=B:=by lia
 have kD:B<=1000:=by lia
 have wb1:1*B<=(W:Int)*B:=AS (by lia) (by lia)
 have wb2:(W:Int)*B<=8*1000:=CW (by lia) kD (by lia) (by lia)
 have r3:0<=b%(W*B-1):=BQ _ (by lia)
 have r4:b%(W*B-1)<W*B-1:=BK _ (by lia)
 generalize hT:1+b%(W*B-1)=T
 have dQ:sm 1000=true:=Gx (by decide) (by decide)
 have sW:sm (W:Int)=true:=Gx (by lia) (by lia)
 have sB:sm B=true:=Gx (by lia) (by lia)
 have g1:∀r:List (Option S),Zn Z8 ↑2 (Zn Q7 (Zd 0) (Zn Ys (Jk (Zc ↑4 (Zc ↑8 (Zc ↑30 (Zc ↑999 Zj))))) (Zn Q7 (Zn Yz (Zd 0) ↑1000) ↑4))) (Jo a::r)=.ok (.int B):=λr=>by
  refine(Zk rfl (Zk rfl (Zk rfl (Zk (Zk rfl rfl (Eo (by decide) dQ)) rfl (gM (by decide))) em) (gM (by lia))) rfl).trans ?_
  show M.ok (D.int (2+a%m))=_
  rw[hB]
 have g2:∀r:List (Option S),Zn Z8 ↑1 (Zn Q7 (Zd 1) (Zn DL.Vl (Zn Zt (Zd 2) (Zd 3)) ↑1)) (Jo a::Jo b::Jo (W:Int)::Jo B::r)=.ok (.int T):=λr=>by
  refine(Zk rfl (Zk rfl (Zk (Zk rfl rfl (gT sW sB)) rfl rfl) (gM (by lia))) rfl).trans ?_
  show M.ok (D.int (1+b%(W*B-1)))=_
  rw[hT]
 have tt:DL.tB (Zn Kp (Zn Q7 (Zd 4) (Zd 3)) ↑0) [Jo a,Jo b,Jo (W:Int),Jo B,Jo T]=.ok (T%B==0):=Qn (Zk (Zk rfl rfl (gM (by lia))) rfl (Ju _ _))
 by_cases q:T%B=0
 .have q':(T%B==0)=true:=by simp[q]
  rw[q'] at tt
  have tb:B<=T:=by
   have:=JM T B
   rw[q] at this
   have h0:0<T/B:=IL (show 0<B*(T/B) by lia) (by lia)
   have:=DI (show 1<=T/B by lia) (show 0<=B by lia)
   lia
  have nm:(T-1)%B≠0:=λz=>by
   have h1:=Int.sub_emod T 1 B
   rw[z,q,LB (show(0:Int)<=1 by decide) (show 1<B by lia)] at h1
   have:(0-1)%B=B-1:=by
    rw[show(0-1:Int)=(B-1)+B*(-1) by lia,Int.add_mul_emod_self_left,LB (by lia) (by lia)]
   lia
  obtain⟨p,z,n,e⟩:=pH (z:=W) m9 kD (show 0<T-1 by lia) (by lia) ZT nm
  exact⟨p,z,n,(WL _ _ _ _ _).trans (Z9 (go (Z6 (g1 _)) (go (Z6 (g2 _)) (go (Qj tt (Z6 (Zk rfl rfl rfl))) (Z7 (Zw (aC rfl (Law.a1 rfl)) e rfl))))))⟩
 .have q':(T%B==0)=false:=by simp[q]
  rw[q'] at tt
  obtain⟨p,z,n,e⟩:=pH (z:=W) m9 kD (show 0<T by lia) (by lia) ZT q
  exact⟨p,z,n,(WL _ _ _ _ _).trans (Z9 (go (Z6 (g1 _)) (go (Z6 (g2 _)) (go (Z1 tt) (Z7 (Zw (aC rfl (Law.a1 rfl)) e rfl))))))⟩
structure PtOk (W H:Nat) (p:Po4):Prop where
 x:PIn W p.a p.b
 y:PIn H p.c p.d
def PtOk.ok {W H:Nat}{p:Po4}(h:PtOk W H p):PoOk 4 p:=⟨h.x.fr,h.y.fr⟩
def Hy (p q:Po4):D.eq p.D q.D=true↔p=q:=by
 cases p;cases q
 simp[Po4.D,nD,D.eq,D.eqs]
 constructor
 .rintro⟨⟨a,b⟩,c,d⟩;exact⟨a,b,c,d⟩
 .rintro⟨a,b,c,d⟩;exact⟨⟨a,b⟩,c,d⟩
def qZ (p:Po4)(ps:List Po4):Ds p.D (ps.map Po4.D)=true↔p∈ps:=by
 unfold Ds
 rw[JG,HQ]
 constructor
 .rintro⟨q,hq,e⟩
  rw[<-(Hy q p).mp e];exact hq
 .intro h
  exact⟨p,h,(Hy p p).mpr rfl⟩
def cz (ns:List Int)(k:Nat):Int:=(ns[k]?).getD 0
def Nv (ns:List Int)(k:Nat)(hl:ns.length<=63):Y6 [.lst (ns.map D.int),.int (k:Int)]=.ok (.im (.int (cz ns k))):=by
 have c:DL.tB (Zn Mf (Zd 1) (K6 Wj (Zc (Zd 0) Zj))) [Io (.lst (ns.map D.int)),Jo (k:Int)]=.ok (decide (k<ns.length)):=by
  refine Qn (Zk (x:=.int (k:Int)) (y:=.int (ns.length:Int)) rfl (J9 (Law.a1 rfl) (by rw[Rz,AC])) ?_)
  show M.ok (D.bl (decide ((k:Int)<(ns.length:Int))))=_
  congr 2
  rw[EC]
  simp
 unfold cz
 by_cases h:k<ns.length
 .rw[BD h] at c
  rw[AU h]
  have e:(ns.map D.int)[k]?=some (.int ns[k]):=by rw[BE,AU h];rfl
  generalize ns.map D.int=N at *
  exact(Oq _ _ _ _).trans (Z9 (Ya (Qj c (Z7 (Jf (i:=(k:Int)) rfl rfl (Jq e))))))
 .rw[BI h] at c
  rw[FG (by lia)]
  generalize ns.map D.int=N at *
  exact(Oq _ _ _ _).trans (Z9 (go (Z1 c) (Z7 rfl)))
noncomputable def fF:Zg->M O:=(Zz (Sq (Bb (Zd 4) (Xv (Zn Zt ↑4 (Zd 6))) (Xv (Zn Z8 (Zn Zt ↑4 (Zd 6)) ↑4))) (Wh 4 (Q8 (Xd 7) (Q8 (Xd 8) (Q8 (Xd 9) (Q8 (Xd 10) Ww))))))
   (Zz (Qa 11 (Q0 (Zc (Zu V0 (Zc (Zd 7) (Zc (Zd 8) (Zc (Zd 2) Zj)))) (Zc (Zu V0 (Zc (Zd 9) (Zc (Zd 10) (Zc (Zd 3) Zj)))) Zj))))
   (Js (Sc 5 (DL.tB (Zn Nf (Zd 11) (Zd 5)))) (Uv 5 (Zd 11)) Yp)))
def vo (es:List Int)(k:Nat)(h:4*k+4<=es.length):∃a b c d:Int,Fz (es.map D.int) (some ((4*k:Nat):Int)) (some ((4*k+4:Nat):Int))=[.int a,.int b,.int c,.int d]:=by
 unfold Fz
 rw[HT.sIx_nat,HT.sIx_nat,AC,LU (by lia),LU (by lia),<-List.map_drop,<-List.map_take,show 4*k+4-4*k=4 by lia]
 have hl:((es.drop (4*k)).take 4).length=4:=by rw[GD,HP];lia
 generalize (es.drop (4*k)).take 4=l at hl
 match l,hl with
 |[a,b,c,d],_=>exact⟨a,b,c,d,rfl⟩
def Zh8 (v0 v1:Option S){W H:Nat}(hW:1<=W)(ZT:W<=8)(hH:1<=H)(cP:H<=8){es:List Int}(k:Nat)(he:4*k+4<=es.length)(hk:k<=100)(ps:List Po4)(hp:∀p∈ps,PtOk W H p)(nd:ps.Nodup)(hl:ps.length<=900)(v7 v8 v9 v10 v11:Option S):
  ∃(ps':List Po4) (w7 w8 w9 cE YR:Option S),(∀p∈ps',PtOk W H p)/\ps'.Nodup/\ps'.length<=ps.length+1/\1<=ps'.length/\fF [v0,v1,Jo (W:Int),Jo (H:Int),Io (.lst (es.map D.int)),some (.ow (ps.map Po4.D)),Jo (k:Int),v7,v8,v9,v10,v11] =
   .ok (.nx [v0,v1,Jo (W:Int),Jo (H:Int),Io (.lst (es.map D.int)),some (.ow (ps'.map Po4.D)),Jo (k:Int),w7,w8,w9,cE,YR]):=by
 obtain⟨a,b,c,d,ec⟩:=vo es k he
 obtain⟨p1,q1,n1,e1⟩:=qf hW ZT a b
 obtain⟨p2,q2,n2,e2⟩:=qf hH cP c d
 have s4:sm 4=true:=Gx (by decide) (by decide)
 have sk:sm (k:Int)=true:=Gx (by lia) (by lia)
 have g4:Zt (.int 4) (.int (k:Int))=.ok (.int ((4*k:Nat):Int)):=by rw[gT s4 sk];congr 2
 generalize es.map D.int=ds at ec ⊢
 have sl:Bb (Zd 4) (Xv (Zn Zt ↑4 (Zd 6))) (Xv (Zn Z8 (Zn Zt ↑4 (Zd 6)) ↑4)) [v0,v1,Jo (W:Int),Jo (H:Int),Io (.lst ds),some (.ow (ps.map Po4.D)),Jo (k:Int),v7,v8,v9,v10,v11]=.ok (.lst [.int a,.int b,.int c,.int d]):=by
  unfold Bb
  show(Xv (Zn Zt ↑4 (Zd 6)) _).bind _=_
  unfold Xv
  rw[Zk (x:=.int 4) (y:=.int (k:Int)) rfl rfl g4,M.bind_ok]
  dsimp only
  rw[M.bind_ok,Zk (x:=.int ((4*k:Nat):Int)) (y:=.int 4) (Zk (x:=.int 4) (y:=.int (k:Int)) rfl rfl g4) rfl rfl]
  show M.ok (D.lst (Fz ds (some ((4*k:Nat):Int)) (some (((4*k:Nat):Int)+4))))=_
  rw[show((4*k:Nat):Int)+4=((4*k+4:Nat):Int) by lia,ec]
 have st:Sc 5 (DL.tB (Zn Nf (Zd 11) (Zd 5))) [v0,v1,Jo (W:Int),Jo (H:Int),Io (.lst ds),some (.ow (ps.map Po4.D)),Jo (k:Int),Jo a,Jo b,Jo c,Jo d,Io (Po4.D ⟨p1,q1,p2,q2⟩)]=.ok (!Ds (Po4.D ⟨p1,q1,p2,q2⟩) (ps.map Po4.D)):=by
  refine Zh5 ?_
  refine Qn (Zk (x:=Po4.D ⟨p1,q1,p2,q2⟩) (y:=.lst (ps.map Po4.D)) rfl rfl ?_)
  have:D.deps (ps.map Po4.D)<=5:=Vi λd hd=>by
   obtain⟨q,_,rfl⟩:=CH.mp hd
   simp[Po4.D,nD,D.dep,D.deps]
  exact AD (by lia)
 have pre:∀r,(Js (Sc 5 (DL.tB (Zn Nf (Zd 11) (Zd 5)))) (Uv 5 (Zd 11)) Yp) [v0,v1,Jo (W:Int),Jo (H:Int),Io (.lst ds),some (.ow (ps.map Po4.D)),Jo (k:Int),Jo a,Jo b,Jo c,Jo d,Io (Po4.D ⟨p1,q1,p2,q2⟩)]=r->fF [v0,v1,Jo (W:Int),Jo (H:Int),Io (.lst ds),some (.ow (ps.map Po4.D)),Jo (k:Int),v7,v8,v9,v10,v11]=r:=λr hr=>by
  unfold fF
  refine go (sd':=[v0,v1,Jo (W:Int),Jo (H:Int),Io (.lst ds),some (.ow (ps.map Po4.D)),Jo (k:Int),Jo a,Jo b,Jo c,Jo d,v11]) ?_ (go (Z6 (Nu (Zw (aC rfl (aC rfl (Law.a1 rfl))) e1 rfl) (Zw (aC rfl (aC rfl (Law.a1 rfl))) e2 rfl))) hr)
  unfold Sq
  rw[sl]
  rfl
 cases q:Ds (Po4.D ⟨p1,q1,p2,q2⟩) (ps.map Po4.D) with
 |false=>
  rw[q] at st
  have ni:(⟨p1,q1,p2,q2⟩:Po4) ∉ ps:=λz=>by rw[(qZ _ _).mpr z] at q;cases q
  refine⟨ps++[⟨p1,q1,p2,q2⟩],Jo a,Jo b,Jo c,Jo d,Io (Po4.D ⟨p1,q1,p2,q2⟩),λp hm=>?_,?_,by rw[AJ,AZ];lia,by rw[AJ,AZ];lia,pre _ (Qj st ?_)⟩
  .rcases DK.mp hm with z|z
   .exact hp p z
   .rw[show p=⟨p1,q1,p2,q2⟩ by simpa using z];exact⟨n1,n2⟩
  .refine FT.mpr ⟨nd,by simp,λa ha b hb=>?_⟩
   rw[CU.mp hb]
   exact λz=>ni (z▸ha)
  .rw[CY]
   exact Ce rfl rfl (by rw[AC];lia)
 |true=>
  rw[q] at st
  have hm:=(qZ _ _).mp q
  exact⟨ps,_,_,_,_,_,hp,nd,by lia,List.length_pos_of_mem hm,pre _ (Z1 st)⟩
theorem Ox (v0 v1:Option S){W H:Nat}(hW:1<=W)(ZT:W<=8)(hH:1<=H)(cP:H<=8){es:List Int}{n:Nat}(he:es.length=4*n)(hn:n<=8):∀(ks:List Nat) (ps:List Po4) (v6 v7 v8 v9 v10 v11:Option S),(∀k∈ks,k<n)->(∀p∈ps,PtOk W H p)->ps.Nodup->ps.length+ks.length<=900 ->
  ∃(ps':List Po4) (w6 w7 w8 w9 cE YR:Option S),(∀p∈ps',PtOk W H p)/\ps'.Nodup/\ps'.length<=ps.length+ks.length/\(ks≠[]\/ps≠[]->1<=ps'.length)/\Xx (Xd 6) fF (ks.map fun(k:Nat)=>D.int (k:Int)) [v0,v1,Jo (W:Int),Jo (H:Int),Io (.lst (es.map D.int)),some (.ow (ps.map Po4.D)),v6,v7,v8,v9,v10,v11] =
   .ok (.nx [v0,v1,Jo (W:Int),Jo (H:Int),Io (.lst (es.map D.int)),some (.ow (ps'.map Po4.D)),w6,w7,w8,w9,cE,YR])
 |[],ps,v6,v7,v8,v9,v10,v11,_,hp,nd,_=>⟨ps,v6,v7,v8,v9,v10,v11,hp,nd,by lia,λz=>by
   rcases z with z|z
   .exact absurd rfl z
   .cases ps with
    |nil=>exact absurd rfl z
    |cons=>simp,rfl⟩
 |k::ks,ps,v6,v7,v8,v9,v10,v11,hk,hp,nd,hl=>by
  rw[AH] at hl
  have:=hk k (by simp)
  obtain⟨p1,a7,a8,a9,kY,vV,h1,jM,l1,g1,e1⟩:=Zh8 v0 v1 hW ZT hH cP k (es:=es) (by lia) (by lia) ps hp nd (by lia) v7 v8 v9 v10 v11
  obtain⟨p2,w6,w7,w8,w9,cE,YR,h2,jL,l2,g2,e2⟩:=Ox v0 v1 hW ZT hH cP he hn ks p1 (Jo (k:Int)) a7 a8 a9 kY vV (λj hj=>hk j (by simp[hj])) h1 jM (by lia)
  refine⟨p2,w6,w7,w8,w9,cE,YR,h2,jL,by rw[AH];lia,λ_=>g2 (.inr λz=>by rw[z] at g1;simp at g1),?_⟩
  rw[AM]
  exact(Ye (sd1:=[v0,v1,Jo (W:Int),Jo (H:Int),Io (.lst (es.map D.int)),some (.ow (ps.map Po4.D)),Jo (k:Int),v7,v8,v9,v10,v11]) rfl e1).trans e2
def Es (c:Int){n W H:Nat}(n0:1<=n)(n1:n<=8)(hW:1<=W)(ZT:W<=8)(hH:1<=H)(cP:H<=8):∃ps:List Po4,(∀p∈ps,PtOk W H p)/\ps.Nodup/\ps.length<=n/\1<=ps.length/\V1 [.int c,.int (n:Int),.int (W:Int),.int (H:Int)]=.ok (.ow (ps.map Po4.D)):=by
 obtain⟨es,jv,_,en⟩:=Rx c (4*n) (by lia)
 obtain⟨ps,w6,w7,w8,w9,cE,YR,hp,nd,hl,g,e⟩:=Ox (Jo c) (Jo (n:Int)) hW ZT hH cP jv n1 (List.range n) [] none none none none none none (λk hk=>FA.mp hk) (λp hp=>by cases hp) MG (by simp;lia)
 refine⟨ps,hp,nd,by simpa using hl,g (.inl (by intro z;have:=congrArg List.length z;simp at this;lia)),(fH _ _ _ _ _ _).trans (Z9 (go (Z6 (Zw (aC rfl (Law.a1 (d:=.int ((4*n:Nat):Int)) ?_)) en rfl)) (go (Vh 5 _) (go (f:=Ke _ (Xd 6) fF) ((Yd (aH (n:=n) (Law.a1 rfl) (by lia))).trans e) rfl))))⟩
 refine Zk (x:=.int 4) (y:=.int (n:Int)) rfl rfl ?_
 rw[gT (Gx (by decide) (by decide)) (Gx (by lia) (by lia))]
 congr 2
structure Tk where
 n:Int
 m:Int
 sq:Int
 h:Int
 due:Int
 lap:Int
def Tk.r (t:Tk):Qy:=RZ (nD t.n t.m) t.sq t.h t.due t.lap
def Tk.line (t:Tk):Int:=Yl t.sq t.h
structure TB (k:Nat) (t:Tk):Prop where
 fr:Fr k t.n t.m
 li:t.line.natAbs<=10 ^ k
 h:t.h.natAbs<=10 ^ k
 due:t.due.natAbs<=10 ^ k
 lap:t.lap.natAbs<=10 ^ k
def Tk.tm (t:Tk)(n d:Int):Int:=t.due*d-t.h*(t.line*d-n)*t.lap
def Cg (a b:Int):(nD a b).dep<=60:=by simp[nD,D.dep,D.deps]
def Ci (a b:Int):(Xt a b).dep<=60:=Cg _ _
def Et (a b c d:Int):D.eq (nD a b) (nD c d)=decide (a=c/\b=d):=by
 simp only[nD,D.eq,D.eqs]
 by_cases h1:a=c<;>by_cases h2:b=d<;>simp[h1,h2]
def qY {t b t' b':Int}(hb:0<b)(SB:0<b'):D.eq (Xt t b) (Xt t' b')=decide (t*b'=t'*b):=by
 have:=Zh6 (t:=t) (t':=t') hb SB
 unfold Xt at this ⊢
 rw[Et]
 refine decide_eq_decide.mpr ?_
 rw[<-this]
 unfold nD
 constructor
 .rintro⟨h1,h2⟩;rw[h1,h2]
 .intro h
  injection h with h
  injection h with h1 h
  injection h with h2 _
  injection h1 with h1
  injection h2 with h2
  exact⟨h1,h2⟩
noncomputable def aa:Zg->M O:=Js (DL.tB (Zn Gv (Yh 4 "Track" "heading") ↑0)) (Uv 3 (X2 4 "Track" "time_at" Vk (Zc (Zd 5) Zj)))
   (Js (DL.tB (Zn Gv (Zd 5) (Yh 4 "Track" "begin"))) (Qs (eC .non)) Yp)
def Zje {k:Nat}{a:Addr}{t:Tk}(o0 o1 o2:Option S)(ts:List D){n d:Int}(hb:TB k t)(hd:Fr k n d)(hk:k<=100)(hh:t.h≠0)(hl:ts.length<=10):
  aa [o0,o1,o2,some (.ow ts),some (.ob a "Track" t.r),Io (nD n d)]=.ok (.nx [o0,o1,o2,some (.ow (ts++[Xt (t.tm n d) d])),some (.ob a "Track" t.r),Io (nD n d)]):=by
 refine Qj (Qn (Zk rfl rfl (show Gv (.int t.h) (.int 0)=.ok (.bl true) by rw[Uz (by simp[D.dep])];simp[D.eq,hh]))) (Ce rfl ?_ (by lia))
 unfold X2
 simp only[GE,IW]
 rw[AD ⟨trivial,rfl⟩]
 show Pk (Vk [.ob a "Track" (RZ (nD t.n t.m) t.sq t.h t.due t.lap),.im (nD n d)])=_
 rw[Zb6 a (nD t.n t.m) hd hb.lap hb.li hb.h hb.due hk]
 rfl
def Eu {a:Addr}{t:Tk}(o0 o1 o2:Option S)(ts:List D){n d:Int}(hh:t.h=0)(he:n=t.n/\d=t.m):
  aa [o0,o1,o2,some (.ow ts),some (.ob a "Track" t.r),Io (nD n d)]=.ok (.nx [o0,o1,o2,some (.ow ts),some (.ob a "Track" t.r),Io (nD n d)]):=by
 refine Ot (Qn (Zk rfl rfl (show Gv (.int t.h) (.int 0)=.ok (.bl false) by rw[Uz (by simp[D.dep])];simp[D.eq,hh]))) (Z1 (Qn (Zk rfl rfl (show Gv (nD n d) (nD t.n t.m)=.ok (.bl false) by rw[Uz (Cg _ _),Et,BD he];rfl))))
def qX {a:Addr}{t:Tk}(o0 o1 o2:Option S)(ts:List D){n d:Int}(hh:t.h=0)(he:¬(n=t.n/\d=t.m)):
  aa [o0,o1,o2,some (.ow ts),some (.ob a "Track" t.r),Io (nD n d)]=.ok (.rt (.im .non)):=by
 refine Ot (Qn (Zk rfl rfl (show Gv (.int t.h) (.int 0)=.ok (.bl false) by rw[Uz (by simp[D.dep])];simp[D.eq,hh]))) (Qj (Qn (Zk rfl rfl (show Gv (nD n d) (nD t.n t.m)=.ok (.bl true) by rw[Uz (Cg _ _),Et,BI he];rfl))) (Z7 rfl))
inductive At (t u:Tk) (p:Po4):Int->Int->Prop
 |two:t.h≠0->u.h≠0->t.tm p.a p.b*p.d=u.tm p.c p.d*p.b->At t u p (t.tm p.a p.b) p.b
 |one:t.h≠0->u.h=0->p.c=u.n/\p.d=u.m->At t u p (t.tm p.a p.b) p.b
 |oth:t.h=0->p.a=t.n/\p.b=t.m->u.h≠0->At t u p (u.tm p.c p.d) p.d
def Ev (a b:Int):D.eq (Xt a b) (Xt a b)=true:=by
 unfold Xt
 rw[Et,BD ⟨rfl,rfl⟩]
def xH (x:D):Nw [x] (-1)=some x:=rfl
def pD (x y:D):Nw [x,y] (-1)=some y:=rfl
noncomputable def nr:Zg->M O:=Dq 3 (Qs (Cu (DL.tB (Zn Kp 3[0]! (Zn Ys (Zd 3) (Dv Pf ↑1)))) 3[0]! (eC .non)))
def oH (o0 o1 o2 o4 o5:Option S)(a b:Int):nr [o0,o1,o2,some (.ow [Xt a b]),o4,o5]=.ok (.rt (.im (Xt a b))):=by
 refine Ta (Z7 (Sk (Qn (Zk (Jf rfl rfl (Ym _ _)) (Jf rfl rfl (xH _)) (by rw[Km (Ci _ _),Ev]))) (Jf rfl rfl (Ym _ _))))
def vm (o0 o1 o2 o4 o5:Option S){a b c d:Int}(hb:0<b)(hd:0<d):nr [o0,o1,o2,some (.ow [Xt a b,Xt c d]),o4,o5]=.ok (.rt (.im (if a*d=c*b then Xt a b else .non))):=by
 by_cases h:a*d=c*b
 .rw[AD h]
  exact Ta (Z7 (Sk (Qn (Zk (Jf rfl rfl (Ym _ _)) (Jf rfl rfl (pD _ _)) (by rw[Km (Ci _ _),qY hb hd,BD h]))) (Jf rfl rfl (Ym _ _))))
 .rw[AF h]
  exact Ta (Z7 (Lu (Qn (Zk (Jf rfl rfl (Ym _ _)) (Jf rfl rfl (pD _ _)) (by rw[Km (Ci _ _),qY hb hd,BI h]))) rfl))
def Zh9 {it ip i1 i2:Nat}{f1 f2:Zg->M D}{f:Zg->M O}{sd s1 s2:Zg}{o1 o2:S}{d1 d2:D}(e1:sd[i1]?=some (some o1))(e2:sd[i2]?=some (some o2))(h1:Nj o1=true)(h2:Nj o2=true)(g1:f1 sd=.ok d1)(g2:f2 sd=.ok d2)(k1:f ((sd.set it (some o1)).set ip (Io d1))=.ok (.nx s1)){r:M O}(k2:f ((s1.set it (some o2)).set ip (Io d2))=r)(hr:(∃s2,r=.ok (.nx s2))\/∃s,r=.ok (.rt s)):Pn it ip i1 i2 f1 f2 f sd=r:=by
 unfold Pn
 rw[e1,e2]
 show(if(Nj o1&&Nj o2)=true then _ else _)=_
 rw[h1,h2,AD (show(true&&true)=true from rfl),g1]
 show(f2 sd).bind _=_
 rw[g2]
 show Ue it ip f [(o1,d1),(o2,d2)] sd=_
 unfold Ue
 rw[k1]
 show Ue it ip f [(o2,d2)] s1=_
 unfold Ue
 rw[k2]
 rcases hr with⟨s2,rfl⟩|⟨s,rfl⟩
 .rfl
 .rfl
def zx {it ip i1 i2:Nat}{f1 f2:Zg->M D}{f:Zg->M O}{sd:Zg}{o1 o2:S}{d1 d2:D}{s:S}(e1:sd[i1]?=some (some o1))(e2:sd[i2]?=some (some o2))(h1:Nj o1=true)(h2:Nj o2=true)(g1:f1 sd=.ok d1)(g2:f2 sd=.ok d2)(k1:f ((sd.set it (some o1)).set ip (Io d1))=.ok (.rt s)):Pn it ip i1 i2 f1 f2 f sd=.ok (.rt s):=by
 unfold Pn
 rw[e1,e2]
 show(if(Nj o1&&Nj o2)=true then _ else _)=_
 rw[h1,h2,AD (show(true&&true)=true from rfl),g1]
 show(f2 sd).bind _=_
 rw[g2]
 show Ue it ip f [(o1,d1),(o2,d2)] sd=_
 unfold Ue
 rw[k1]
 rfl
section
variable {k:Nat}{a1 a2:Addr}{t u:Tk}{p:Po4}
def Cj {s1:Zg}{r:M O} (k1:aa [some (.ob a1 "Track" t.r),some (.ob a2 "Track" u.r),Io p.D,some (.ow []),some (.ob a1 "Track" t.r),Io (nD p.a p.b)]=.ok (.nx s1)) (k2:aa ((s1.set 4 (some (.ob a2 "Track" u.r))).set 5 (Io (nD p.c p.d)))=r) (hr:(∃s2,r=.ok (.nx s2))\/∃s,r=.ok (.rt s)):
  Pn 4 5 0 1 2[0]! 2[1]! aa [some (.ob a1 "Track" t.r),some (.ob a2 "Track" u.r),Io p.D,some (.ow []),none,none]=r:=
 Zh9 (s2:=[]) (sd:=[some (.ob a1 "Track" t.r),some (.ob a2 "Track" u.r),Io p.D,some (.ow []),none,none]) (o1:=.ob a1 "Track" t.r) (o2:=.ob a2 "Track" u.r) (d1:=nD p.a p.b) (d2:=nD p.c p.d) rfl rfl rfl rfl (Zo rfl rfl (Ym _ _)) (Zo rfl rfl (Yi _ _ _)) k1 k2 hr
def zw {s:S} (k1:aa [some (.ob a1 "Track" t.r),some (.ob a2 "Track" u.r),Io p.D,some (.ow []),some (.ob a1 "Track" t.r),Io (nD p.a p.b)]=.ok (.rt s)):
  Pn 4 5 0 1 2[0]! 2[1]! aa [some (.ob a1 "Track" t.r),some (.ob a2 "Track" u.r),Io p.D,some (.ow []),none,none]=.ok (.rt s):=
 zx (sd:=[some (.ob a1 "Track" t.r),some (.ob a2 "Track" u.r),Io p.D,some (.ow []),none,none]) (o1:=.ob a1 "Track" t.r) (o2:=.ob a2 "Track" u.r) (d1:=nD p.a p.b) (d2:=nD p.c p.d) rfl rfl rfl rfl (Zo rfl rfl (Ym _ _)) (Zo rfl rfl (Yi _ _ _)) k1
def Bv (ht:TB k t)(hu:TB k u)(hp:PoOk k p)(hk:k<=100)(hm:t.h≠0\/u.h≠0):∃d,F_time_to [.ob a1 "Track" t.r,.ob a2 "Track" u.r,.im p.D]=.ok (.im d)/\((d=.non/\∀x y,¬At t u p x y)\/∃x y,At t u p x y/\d=Xt x y):=by
 have tA:=@Zje k a1 t (some (.ob a1 "Track" t.r)) (some (.ob a2 "Track" u.r)) (Io p.D) [] p.a p.b ht hp.x hk
 have tB:=@Zje k a2 u (some (.ob a1 "Track" t.r)) (some (.ob a2 "Track" u.r)) (Io p.D)
 by_cases h1:t.h=0
 .have h2:u.h≠0:=hm.resolve_left (λz=>z h1)
  by_cases he:p.a=t.n/\p.b=t.m
  .refine⟨Xt (u.tm p.c p.d) p.d,(fG _ _ _ _ _).trans (Z9 (go (Vh 3 _) (go (Cj (Eu _ _ _ [] h1 he) (tB [] hu hp.y hk h2 (by decide)) (.inl ⟨_,rfl⟩)) (oH _ _ _ _ _ _ _)))),.inr ⟨_,_,.oth h1 he h2,rfl⟩⟩
  .refine⟨.non,(fG _ _ _ _ _).trans (Z9 (go (Vh 3 _) (Ya (zw (qX _ _ _ [] h1 he))))),.inl ⟨rfl,λx y h=>?_⟩⟩
   cases h with
   |two a b c=>exact a h1
   |one a b c=>exact a h1
   |oth a b c=>exact he b
 .by_cases h2:u.h=0
  .by_cases he:p.c=u.n/\p.d=u.m
   .refine⟨Xt (t.tm p.a p.b) p.b,(fG _ _ _ _ _).trans (Z9 (go (Vh 3 _) (go (Cj (tA h1 (by decide)) (Eu _ _ _ _ h2 he) (.inl ⟨_,rfl⟩)) (oH _ _ _ _ _ _ _)))),.inr ⟨_,_,.one h1 h2 he,rfl⟩⟩
   .refine⟨.non,(fG _ _ _ _ _).trans (Z9 (go (Vh 3 _) (Ya (Cj (tA h1 (by decide)) (qX _ _ _ _ h2 he) (.inr ⟨_,rfl⟩))))),.inl ⟨rfl,λx y h=>?_⟩⟩
    cases h with
    |two a b c=>exact b h2
    |one a b c=>exact he c
    |oth a b c=>exact h1 a
  .refine⟨_,(fG _ _ _ _ _).trans (Z9 (go (Vh 3 _) (go (Cj (tA h1 (by decide)) (tB _ hu hp.y hk h2 (by simp)) (.inl ⟨_,rfl⟩)) (vm _ _ _ _ _ hp.x.pos hp.y.pos)))),?_⟩
   by_cases he:t.tm p.a p.b*p.d=u.tm p.c p.d*p.b
   .rw[AD he]
    exact .inr ⟨_,_,.two h1 h2 he,rfl⟩
   .rw[AF he]
    refine .inl ⟨rfl,λx y h=>?_⟩
    cases h with
    |two a b c=>exact he c
    |one a b c=>exact h2 b
    |oth a b c=>exact h1 a
end
def Yr (t u:Tk)(p:Po4):Option (Int×Int):=
 if t.h≠0 then(if u.h≠0 then(if t.tm p.a p.b*p.d=u.tm p.c p.d*p.b then some (t.tm p.a p.b,p.b) else none) else if p.c=u.n/\p.d=u.m then some (t.tm p.a p.b,p.b) else none)
 else if p.a=t.n/\p.b=t.m then some (u.tm p.c p.d,p.d) else none
def tD:Option (Int×Int)->D
 |some xy=>Xt xy.1 xy.2
 |none=>.non
def zv {k:Nat}{a1 a2:Addr}{t u:Tk}{p:Po4}(ht:TB k t)(hu:TB k u)(hp:PoOk k p)(hk:k<=100)(hm:t.h≠0\/u.h≠0):F_time_to [.ob a1 "Track" t.r,.ob a2 "Track" u.r,.im p.D]=.ok (.im (tD (Yr t u p))):=by
 obtain⟨d,e,h⟩:=Bv (a1:=a1) (a2:=a2) ht hu hp hk hm
 rw[e]
 congr 2
 unfold Yr
 rcases h with⟨rfl,h⟩|⟨x,y,h,rfl⟩
 .by_cases h1:t.h=0
  .have h2:=hm.resolve_left (λz=>z h1)
   rw[AF (λz=>z h1)]
   by_cases he:p.a=t.n/\p.b=t.m
   .exact absurd (.oth h1 he h2) (h _ _)
   .rw[AF he];rfl
  .rw[AD h1]
   by_cases h2:u.h=0
   .rw[AF (λz=>z h2)]
    by_cases he:p.c=u.n/\p.d=u.m
    .exact absurd (.one h1 h2 he) (h _ _)
    .rw[AF he];rfl
   .rw[AD h2]
    by_cases he:t.tm p.a p.b*p.d=u.tm p.c p.d*p.b
    .exact absurd (.two h1 h2 he) (h _ _)
    .rw[AF he];rfl
 .cases h with
  |two a b c=>rw[AD a,AD b,AD c];rfl
  |one a b c=>rw[AD a,AF (λz=>z b),AD c];rfl
  |oth a b c=>rw[AF (λz=>z a),AD b];rfl
def lU {k:Nat}{t:Tk}{n d:Int}(ht:TB k t)(h:Fr k n d):Fr (k+(k+k+1)+k+1) (t.tm n d) d:=by
 have h1:(t.line*d-n).natAbs<=10 ^ (k+k+1):=Px (Qb ht.li h.bot) (BA h.top (Ur (by lia)))
 have h3:(t.h*(t.line*d-n)*t.lap).natAbs<=10 ^ (k+(k+k+1)+k):=Qb (Qb ht.h h1) ht.lap
 exact⟨h.pos,Px (BA (Qb ht.due h.bot) (Ur (by lia))) h3,BA h.bot (Ur (by lia))⟩
def Oy {k:Nat}{t u:Tk}{p:Po4}{xy:Int×Int}(ht:TB k t)(hu:TB k u)(hp:PoOk k p)(h:Yr t u p=some xy):Fr (k+(k+k+1)+k+1) xy.1 xy.2:=by
 unfold Yr at h
 split at h
 .split at h
  .split at h
   .cases h;exact lU ht hp.x
   .cases h
  .split at h
   .cases h;exact lU ht hp.x
   .cases h
 .split at h
  .cases h;exact lU hu hp.y
  .cases h
abbrev WK:=Option (Po4×Int×Int)
def Jg (c:Po4->Option (Int×Int))(s:WK)(p:Po4):WK:=match c p with
 |none=>s
 |some (x,y)=>match s with
  |none=>some (p,x,y)
  |some (q,x',y')=>if x*y'<x'*y then some (p,x,y) else some (q,x',y')
def Yn (c:Option (Int×Int))(lo hi:Int):Option (Int×Int):=match c with
 |some (x,y)=>if lo*y<x/\x<hi*y then some (x,y) else none
 |none=>none
def Wf {c:Option (Int×Int)}{lo hi x y:Int}(h:c=some (x,y))(a:lo*y<x/\x<hi*y):Yn c lo hi=some (x,y):=by rw[h];exact AD a
def V4 {c:Option (Int×Int)}{lo hi x y:Int}(h:c=some (x,y))(a:¬(lo*y<x/\x<hi*y)):Yn c lo hi=none:=by rw[h];exact AF a
def Jv {c:Po4->Option (Int×Int)}{s:WK}{p:Po4}(h:c p=none):Jg c s p=s:=by unfold Jg;rw[h]
def R1 {c:Po4->Option (Int×Int)}{p:Po4}{x y:Int}(h:c p=some (x,y)):Jg c none p=some (p,x,y):=by unfold Jg;rw[h]
def Ew {c:Po4->Option (Int×Int)}{p q:Po4}{x y x' y':Int}(h:c p=some (x,y))(hl:x*y'<x'*y):Jg c (some (q,x',y')) p=some (p,x,y):=by unfold Jg;rw[h];exact AD hl
def Ex {c:Po4->Option (Int×Int)}{p q:Po4}{x y x' y':Int}(h:c p=some (x,y))(hl:¬x*y'<x'*y):Jg c (some (q,x',y')) p=some (q,x',y'):=by unfold Jg;rw[h];exact AF hl
def Mt:WK->D
 |none=>.non
 |some (p,_,_)=>p.D
def Ey (wt:Int):WK->D
 |none=>nD wt 1
 |some (_,x,y)=>Xt x y
noncomputable def nq:Zg->M O:=Zz (Qa 7 (T9 F_time_to (Vt 1 (Vt 2 (Uw (Zd 6) T7)))))
   (Js (tA (DL.tB (Zn K9 (Zd 7) (eC .non))) (tA (DL.tB (Zu Vf (Zc (Q0 (Zc ↑0 (Zc ↑1 Zj))) (Zc (Zd 7) Zj)))) (DL.tB (Zu Vf (Zc (Zd 7) (Zc (Zd 5) Zj))))))
    (Zz (Qa 4 (Zd 6)) (Qa 5 (Zd 7))) Yp)
def fE (k:Nat):WK->Prop
 |none=>True
 |some (_,x,y)=>Fr k x y
section
variable {k:Nat}{ad1 ad2:Addr}{t u:Tk}{wt:Int}
def Zfa (sd:Zg)(x y:Int)(e:sd[7]?=some (Io (Xt x y))):DL.tB (Zn K9 (Zd 7) (eC .non)) sd=.ok true:=by
 refine Qn (Zk (x:=Xt x y) (y:=.non) ?_ rfl rfl)
 unfold Zd;rw[e]
def zu (fl:S)(ht:TB k t)(hu:TB k u)(hk:k<=60)(hm:t.h≠0\/u.h≠0)(hw:Fr k wt 1){p:Po4}(hp:PoOk k p){s:WK}(hs:fE (k+(k+k+1)+k+1) s)(hs':∀q x y,s=some (q,x,y)->x<wt*y)(v7:Option S):
  ∃w7,nq [some fl,some (.ob ad1 "Track" t.r),some (.ob ad2 "Track" u.r),Jo wt,Io (Mt s),Io (Ey wt s),Io p.D,v7] =
   .ok (.nx [some fl,some (.ob ad1 "Track" t.r),some (.ob ad2 "Track" u.r),Jo wt,Io (Mt (Jg (λp=>Yn (Yr t u p) 0 wt) s p)),Io (Ey wt (Jg (λp=>Yn (Yr t u p) 0 wt) s p)),Io p.D,w7]):=by
 have e1:T9 F_time_to (Vt 1 (Vt 2 (Uw (Zd 6) T7))) [some fl,some (.ob ad1 "Track" t.r),some (.ob ad2 "Track" u.r),Jo wt,Io (Mt s),Io (Ey wt s),Io p.D,v7]=.ok (tD (Yr t u p)):=by
  show Pk (F_time_to [.ob ad1 "Track" t.r,.ob ad2 "Track" u.r,.im p.D])=_
  rw[zv ht hu hp (by lia) hm]
  rfl
 refine⟨Io (tD (Yr t u p)),go (Z6 e1) ?_⟩
 cases ev:Yr t u p with
 |none=>
  rw[Jv (show Yn (Yr t u p) 0 wt=none by rw[ev];rfl)]
  exact Z1 (dF (Qn (Zk (g:=K9) (x:=.non) (y:=.non) rfl rfl rfl)))
 |some xy=>
  obtain⟨x,y⟩:=xy
  have hf:=Oy ht hu hp ev
  obtain⟨n,d,el,hnd,em,_⟩:=Hw hf
  have b0:DL.tB (Zu Vf (Zc (Q0 (Zc ↑0 (Zc ↑1 Zj))) (Zc (Zd 7) Zj))) [some fl,some (.ob ad1 "Track" t.r),some (.ob ad2 "Track" u.r),Jo wt,Io (Mt s),Io (Ey wt s),Io p.D,Io (Xt x y)]=.ok (decide (0<x)):=by
   refine Qn (Zw (aC (Nu rfl rfl) (a1 (d:=nD n d) ?_)) (Tb (k:=k+(k+k+1)+k+1) ⟨by decide,by simp,JQ (by decide)⟩ hnd (by lia)) ?_)
   .show M.ok (Xt x y)=_
    rw[el]
   .show M.ok (D.bl (decide (0*d<n*1)))=_
    congr 3
    have:=Lx (a:=0) (b:=1) (c:=x) (d:=y) (p:=0) (q:=1) (p':=n) (q':=d) (by decide) hf.pos (by decide) hnd.pos rfl em
    simp only[CI,Int.mul_one] at this ⊢
    exact propext this
  have b1:∃sx sy,0<sy/\(s=none->sx=wt/\sy=1)/\(∀q x' y',s=some (q,x',y')->sx=x'/\sy=y')/\DL.tB (Zu Vf (Zc (Zd 7) (Zc (Zd 5) Zj))) [some fl,some (.ob ad1 "Track" t.r),some (.ob ad2 "Track" u.r),Jo wt,Io (Mt s),Io (Ey wt s),Io p.D,Io (Xt x y)]=.ok (decide (x*sy<sx*y)):=by
   cases s with
   |none=>
    refine⟨wt,1,by decide,λ_=>⟨rfl,rfl⟩,(λ_ _ _ h=>by cases h),Qn (Zw (aC (d:=nD n d) ?_ (a1 (d:=nD wt 1) rfl)) (Tb hnd (hw.mono (by lia)) (by lia)) ?_)⟩
    .show M.ok (Xt x y)=_
     rw[el]
    .show M.ok (D.bl (decide (n*1<wt*d)))=_
     congr 3
     exact propext (Lx (a:=x) (b:=y) (c:=wt) (d:=1) hf.pos (by decide) hnd.pos (by decide) em rfl)
   |some z=>
    obtain⟨q,x',y'⟩:=z
    have hs:Fr _ x' y':=hs
    obtain⟨n',d',vH,hnd',vG,_⟩:=Hw hs
    refine⟨x',y',hs.pos,(λh=>by cases h),(λ_ _ _ h=>by cases h;exact⟨rfl,rfl⟩),Qn (Zw (aC (d:=nD n d) ?_ (a1 (d:=nD n' d') ?_)) (Tb hnd hnd' (by lia)) ?_)⟩
    .show M.ok (Xt x y)=_
     rw[el]
    .show M.ok (Xt x' y')=_
     rw[vH]
    .show M.ok (D.bl (decide (n*d'<n'*d)))=_
     congr 3
     exact propext (Lx hf.pos hs.pos hnd.pos hnd'.pos em vG)
  obtain⟨sx,sy,sh,n1,n2,b1⟩:=b1
  have nn:DL.tB (Zn K9 (Zd 7) (eC .non)) [some fl,some (.ob ad1 "Track" t.r),some (.ob ad2 "Track" u.r),Jo wt,Io (Mt s),Io (Ey wt s),Io p.D,Io (Xt x y)]=.ok true:=Zfa _ x y rfl
  by_cases h0:0<x
  .by_cases h1:x*sy<sx*y
   .have acc:0*y<x/\x<wt*y:=by
     refine⟨by lia,?_⟩
     cases jc:s with
     |none=>obtain⟨rfl,rfl⟩:=n1 jc;lia
     |some z=>
      obtain⟨q,x',y'⟩:=z
      obtain⟨rfl,rfl⟩:=n2 _ _ _ jc
      have h2:=hs' _ _ _ jc
      have h3:=BU h2 hf.pos
      have h4:x*sy<wt*y*sy:=by
       refine Int.lt_trans h1 ?_
       rw[KL]
       exact h3
      exact BM h4 (AI sh)
    refine(Qj (Ms nn (Ms (b0.trans (by rw[BD h0])) (b1.trans (by rw[BD h1])))) (go (Z6 rfl) (Z6 rfl))).trans ?_
    have cI:=Wf ev acc
    cases s with
    |none=>rw[R1 (c:=λp=>Yn (Yr t u p) 0 wt) cI];rfl
    |some z=>
     obtain⟨q,x',y'⟩:=z
     obtain⟨rfl,rfl⟩:=n2 _ _ _ rfl
     rw[Ew (c:=λp=>Yn (Yr t u p) 0 wt) cI h1]
     rfl
   .refine(Z1 (Ms nn (Ms (b0.trans (by rw[BD h0])) (b1.trans (by rw[BI h1]))))).trans ?_
    cases s with
    |none=>
     obtain⟨rfl,rfl⟩:=n1 rfl
     rw[Jv (c:=λp=>Yn (Yr t u p) 0 sx) (V4 ev (by lia))]
     rfl
    |some z=>
     obtain⟨q,x',y'⟩:=z
     obtain⟨rfl,rfl⟩:=n2 _ _ _ rfl
     by_cases acc:0*y<x/\x<wt*y
     .rw[Ex (c:=λp=>Yn (Yr t u p) 0 wt) (Wf ev acc) h1];rfl
     .rw[Jv (c:=λp=>Yn (Yr t u p) 0 wt) (V4 ev acc)];rfl
  .refine(Z1 (Ms nn (dF (b0.trans (by rw[BI h0]))))).trans ?_
   rw[Jv (c:=λp=>Yn (Yr t u p) 0 wt) (V4 ev (by lia))]
   rfl
def Zfb (ht:TB k t)(hu:TB k u){p:Po4}(hp:PoOk k p){s:WK}(hs:fE (k+(k+k+1)+k+1) s/\∀q x y,s=some (q,x,y)->x<wt*y):
  fE (k+(k+k+1)+k+1) (Jg (λp=>Yn (Yr t u p) 0 wt) s p)/\∀q x y,Jg (λp=>Yn (Yr t u p) 0 wt) s p=some (q,x,y)->x<wt*y:=by
 cases ev:Yr t u p with
 |none=>
  rw[Jv (show Yn (Yr t u p) 0 wt=none by rw[ev];rfl)]
  exact hs
 |some xy=>
  obtain⟨x,y⟩:=xy
  have hf:=Oy ht hu hp ev
  by_cases acc:0*y<x/\x<wt*y
  .have cI:=Wf ev acc
   have new:fE (k+(k+k+1)+k+1) (some (p,x,y))/\∀q x' y',some (p,x,y)=some (q,x',y')->x'<wt*y':=⟨hf,λq x' y' h=>by cases h;exact acc.2⟩
   cases s with
   |none=>rw[R1 (c:=λp=>Yn (Yr t u p) 0 wt) cI];exact new
   |some z=>
    obtain⟨q,x',y'⟩:=z
    by_cases hl:x*y'<x'*y
    .rw[Ew (c:=λp=>Yn (Yr t u p) 0 wt) cI hl];exact new
    .rw[Ex (c:=λp=>Yn (Yr t u p) 0 wt) cI hl];exact hs
  .rw[Jv (c:=λp=>Yn (Yr t u p) 0 wt) (V4 ev acc)]
   exact hs
theorem Oz (fl:S)(ht:TB k t)(hu:TB k u)(hk:k<=60)(hm:t.h≠0\/u.h≠0)(hw:Fr k wt 1):∀(ps:List Po4) (s:WK) (v6 v7:Option S),(∀p∈ps,PoOk k p)->(fE (k+(k+k+1)+k+1) s/\∀q x y,s=some (q,x,y)->x<wt*y) ->
  ∃w6 w7,Xx (Xd 6) nq (ps.map Po4.D) [some fl,some (.ob ad1 "Track" t.r),some (.ob ad2 "Track" u.r),Jo wt,Io (Mt s),Io (Ey wt s),v6,v7] =
   .ok (.nx [some fl,some (.ob ad1 "Track" t.r),some (.ob ad2 "Track" u.r),Jo wt,Io (Mt (ps.foldl (Jg (λp=>Yn (Yr t u p) 0 wt)) s)),Io (Ey wt (ps.foldl (Jg (λp=>Yn (Yr t u p) 0 wt)) s)),w6,w7])
 |[],s,v6,v7,_,_=>⟨v6,v7,rfl⟩
 |p::ps,s,v6,v7,hp,hs=>by
  obtain⟨w7,e⟩:=zu (ad1:=ad1) (ad2:=ad2) fl ht hu hk hm hw (hp p (BH ..)) hs.1 hs.2 v7
  obtain⟨x6,x7,e2⟩:=Oz fl ht hu hk hm hw ps (Jg (λp=>Yn (Yr t u p) 0 wt) s p) (Io p.D) w7 (λq hq=>hp q (AV _ hq)) (Zfb ht hu (hp p (BH ..)) hs)
  exact⟨x6,x7,(Ye rfl e).trans e2⟩
def lQ (q:List (List Yx×D))(x y:Int)(ps:List Po4):Prop:=(Xj q [.inl x,.inl y]=some (.lst (ps.map Po4.D)))\/(Xj q [.inl x,.inl y]=none/\ps=[])
def zt (a:Addr)(g:D){q:List (List Yx×D)}{ps:List Po4}(hh:lQ q t.sq u.sq ps)(ht:TB k t)(hu:TB k u)(hk:k<=60)(hm:t.h≠0\/u.h≠0)(hw:Fr k wt 1)(hp:∀p∈ps,PoOk k p):
  F_person_ahead [.fl a g q,.ob ad1 "Track" t.r,.ob ad2 "Track" u.r,.im (.int wt)]=.ok (.im (Mt (ps.foldl (Jg (λp=>Yn (Yr t u p) 0 wt)) none))):=by
 obtain⟨w6,w7,e⟩:=Oz (ad1:=ad1) (ad2:=ad2) (.fl a g q) ht hu hk hm hw ps none none none hp ⟨trivial,λ_ _ _ h=>by cases h⟩
 have e1:Kl (La 0 J2 (Zc (Q0 (Zc (Yh 1 "Track" "square") (Zc (Yh 2 "Track" "square") Zj))) Zj)) [some (.fl a g q),some (.ob ad1 "Track" t.r),some (.ob ad2 "Track" u.r),Jo wt,Io .non,Io (nD wt 1),none,none]=.ok (ps.map Po4.D):=by
  have e2:La 0 J2 (Zc (Q0 (Zc (Yh 1 "Track" "square") (Zc (Yh 2 "Track" "square") Zj))) Zj) [some (.fl a g q),some (.ob ad1 "Track" t.r),some (.ob ad2 "Track" u.r),Jo wt,Io .non,Io (nD wt 1),none,none]=.ok ((Xj q [.inl t.sq,.inl u.sq]).getD (.tup [])):=by
   show Pk (J2 [.fl a g q,.im (.tup [.int t.sq,.int u.sq])])=_
   rfl
  rcases hh with h|⟨h,rfl⟩
  .rw[h] at e2
   exact Gy e2
  .rw[h] at e2
   exact Ep e2
 exact(vc _ _ _ _ _ _).trans (Z9 (go (Z6 rfl) (go (Z6 (Nu rfl rfl)) (go ((Yd e1).trans e) (Z7 rfl)))))
end
structure Sd where
 up:Bool
 x:Int
 y:Int
 f:Bool
 g:Bool
def fc (b:Bool):D:=.str (if b=true then Str.ofString "m" else Str.ofString "p")
def kd (b:Bool):D:=.str (if b=true then Str.ofString "up" else Str.ofString "flat")
def Sd.D (s:Sd):D:=.tup [kd s.up,.int s.x,.int s.y,fc s.f,fc s.g]
def Qo (W H:Int)(ss:List Sd):D:=.tup [.int W,.int H,.tup (ss.map Sd.D)]
def Sd.at (s:Sd)(u:Bool)(x y:Int):Bool:=decide (s.up=u/\s.x=x/\s.y=y)
def Uj (W H:Int)(ss:List Sd)(u:Bool)(x y:Int):Option (Bool×Bool):=match ss.find? (λs=>s.at u x y) with
 |some s=>some (s.f,s.g)
 |none=>if(if u=true then x else y)=0\/(if u=true then x else y)=(if u=true then W else H) then some (false,false) else none
def lP:Option (Bool×Bool)->D
 |some (f,g)=>.tup [fc f,fc g]
 |none=>.non
def pC (a b:Bool):D.eq (kd a) (kd b)=decide (a=b):=by cases a<;>cases b<;>rfl
def zr (s:Sd)(u:Bool)(x y:Int):D.eq (.tup [kd s.up,.int s.x,.int s.y]) (.tup [kd u,.int x,.int y])=s.at u x y:=by
 unfold Sd.at
 simp only[D.eq,D.eqs,pC]
 by_cases h1:s.up=u<;>by_cases h2:s.x=x<;>by_cases h3:s.y=y<;>simp[h1,h2,h3]
def Ez (b:Bool)(x y:Int):(D.tup [kd b,.int x,.int y]).dep<=60:=by cases b<;>simp[kd,D.dep,D.deps]
def fB:Zg->M O:=Js (DL.tB (Zn Kp (Bb (Zd 4) K5 (Xv ↑3)) (Q0 (Zc (Zd 1) (Zc (Zd 2) (Zc (Zd 3) Zj)))))) (Qs (Bb (Zd 4) (Xv ↑3) K5)) Yp
def Ck {fa fb fc:Zg->M D}{sd:Zg}{a b c:D}(h1:fa sd=.ok a)(h2:fb sd=.ok b)(h3:fc sd=.ok c):Q0 (Zc fa (Zc fb (Zc fc Zj))) sd=.ok (.tup [a,b,c]):=by
 unfold Q0
 rw[aC h1 (aC h2 (Law.a1 h3))]
 rfl
theorem qO (h0:Option S)(u:Bool)(x y:Int):∀(ss:List Sd) (v:Option S),(∃s,ss.find? (λs=>s.at u x y)=some s/\Xx (Xd 4) fB (ss.map Sd.D) [h0,Io (kd u),Jo x,Jo y,v]=.ok (.rt (.im (.tup [fc s.f,fc s.g])))) \/
  (ss.find? (λs=>s.at u x y)=none/\∃w,Xx (Xd 4) fB (ss.map Sd.D) [h0,Io (kd u),Jo x,Jo y,v]=.ok (.nx [h0,Io (kd u),Jo x,Jo y,w]))
 |[],v=>.inr ⟨rfl,v,rfl⟩
 |s::ss,v=>by
  have e1:DL.tB (Zn Kp (Bb (Zd 4) K5 (Xv ↑3)) (Q0 (Zc (Zd 1) (Zc (Zd 2) (Zc (Zd 3) Zj))))) [h0,Io (kd u),Jo x,Jo y,Io s.D]=.ok (s.at u x y):=by
   refine Qn (Zk (x:=.tup [kd s.up,.int s.x,.int s.y]) rfl (Ck rfl rfl rfl) ?_)
   rw[Km (Ez _ _ _),zr]
  by_cases h:s.at u x y=true
  .refine .inl ⟨s,by rw[CC,h],?_⟩
   rw[h] at e1
   have e2:fB [h0,Io (kd u),Jo x,Jo y,Io s.D]=.ok (.rt (.im (.tup [fc s.f,fc s.g]))):=Qj e1 (Z7 rfl)
   unfold List.map Xx
   show(fB [h0,Io (kd u),Jo x,Jo y,Io s.D]).bind _=_
   rw[e2]
   rfl
  .have hf:s.at u x y=false:=by cases hh:s.at u x y;rfl;exact absurd hh h
   rw[hf] at e1
   have e2:fB [h0,Io (kd u),Jo x,Jo y,Io s.D]=.ok (.nx [h0,Io (kd u),Jo x,Jo y,Io s.D]):=Z1 e1
   rcases qO h0 u x y ss (Io s.D) with⟨s',g1,g2⟩|⟨g1,w,g2⟩
   .exact .inl ⟨s',by rw[CC,hf];exact g1,(Ye rfl e2).trans g2⟩
   .exact .inr ⟨by rw[CC,hf];exact g1,w,(Ye rfl e2).trans g2⟩
def yF (W H:Int)(u:Bool)(x y:Int):∃d,X5 [.int W,.int H,kd u,.int x,.int y]=.ok (.im d)/\(d=.non↔¬((if u=true then x else y)=0\/(if u=true then x else y)=(if u=true then W else H))):=by
 have e5:Cu (DL.tB (Zn Kp (Zd 2) ↑"up")) (Zd 3) (Zd 4) [Jo W,Jo H,Io (kd u),Jo x,Jo y,none,none]=.ok (.int (if u=true then x else y)):=by
  cases u
  .exact Lu (Qn (Zk rfl rfl (by rw[Km (by simp[kd,D.dep])];rfl))) rfl
  .exact Sk (Qn (Zk rfl rfl (by rw[Km (by simp[kd,D.dep])];rfl))) rfl
 have e6:∀z,Cu (DL.tB (Zn Kp (Zd 2) ↑"up")) (Zd 0) (Zd 1) [Jo W,Jo H,Io (kd u),Jo x,Jo y,z,none]=.ok (.int (if u=true then W else H)):=λz=>by
  cases u
  .exact Lu (Qn (Zk rfl rfl (by rw[Km (by simp[kd,D.dep])];rfl))) rfl
  .exact Sk (Qn (Zk rfl rfl (by rw[Km (by simp[kd,D.dep])];rfl))) rfl
 generalize (if u=true then x else y)=l at *
 generalize (if u=true then W else H)=m at *
 by_cases h0:l=0
 .exact⟨.int 3,(kb _ _ _ _ _ _ _).trans (Z9 (go (Z6 e5) (go (Z6 (e6 _)) (Ya (Qj (Qn (Zk rfl rfl (by rw[Ju,h0];rfl))) (Z7 rfl)))))),by simp[h0]⟩
 .by_cases h1:l=m
  .exact⟨.int 4,(kb _ _ _ _ _ _ _).trans (Z9 (go (Z6 e5) (go (Z6 (e6 _)) (go (Z1 (Qn (Zk rfl rfl (by rw[Ju];simp[h0])))) (Ya (Qj (Qn (Zk rfl rfl (by rw[Ju];simp[h1]))) (Z7 rfl))))))),by simp[h1]⟩
  .exact⟨.non,(kb _ _ _ _ _ _ _).trans (Z9 (go (Z6 e5) (go (Z6 (e6 _)) (go (Z1 (Qn (Zk rfl rfl (by rw[Ju];simp[h0])))) (go (Z1 (Qn (Zk rfl rfl (by rw[Ju];simp[h1])))) (Z7 rfl)))))),by simp[h0,h1]⟩
def O0 (W H:Int)(ss:List Sd)(u:Bool)(x y:Int):Qp [Qo W H ss,kd u,.int x,.int y]=.ok (.im (lP (Uj W H ss u x y))):=by
 have e0:Kl 0[2]! [Io (Qo W H ss),Io (kd u),Jo x,Jo y,none]=.ok (ss.map Sd.D):=Ep (Zo rfl rfl (lG _ _ _ _))
 unfold Uj
 rcases qO (Io (Qo W H ss)) u x y ss none with⟨s,g1,g2⟩|⟨g1,w,g2⟩
 .rw[g1]
  exact(fH _ _ _ _ _ _).trans (Z9 (Ya ((Yd e0).trans g2)))
 .rw[g1]
  obtain⟨d,ed,hd⟩:=yF W H u x y
  have ec:Zu X5 (Zc 0[0]! (Zc 0[1]! (Zc (Zd 1) (Zc (Zd 2) (Zc (Zd 3) Zj))))) [Io (Qo W H ss),Io (kd u),Jo x,Jo y,w]=.ok d:=
   Zw (aC (Zo rfl rfl (Ym _ _)) (aC (Zo rfl rfl (Yi _ _ _)) (aC rfl (aC rfl (Law.a1 rfl))))) ed rfl
  by_cases hn:d=.non
  .have hr:=hd.mp hn
   simp only[AF hr]
   subst hn
   exact(fH _ _ _ _ _ _).trans (Z9 (go ((Yd e0).trans g2) (Ya (Qj (Qn (Zk ec rfl rfl)) (Z7 rfl)))))
  .have hr:_:=Classical.not_not.mp (λz=>hn (hd.mpr z))
   simp only[AD hr]
   refine(fH _ _ _ _ _ _).trans (Z9 (go ((Yd e0).trans g2) (go (Z1 (Qn (Zk ec rfl ?_))) (Z7 (Nu rfl rfl)))))
   cases d<;>first|rfl|exact absurd rfl hn
def Sd.tch (s:Sd)(x y:Int):Bool:=s.at true x (y-1)||(s.at true x y||(s.at false (x-1) y||s.at false x y))
def Gs (W H:Int)(ss:List Sd)(x y:Int):Bool:=(decide (x=0\/x=W)||decide (y=0\/y=H))||ss.any (λs=>s.tch x y)
theorem R3 {α:Type}(b:α->Bool):∀l:List α,X9 (l.map λa=>D.bl (b a))=some (l.map b)
 |[]=>rfl
 |a::l=>by
  rw[AM,AM]
  simp only[X9,R3 b l]
  rfl
def any_map {α:Type}(b:α->Bool)(l:List α):ff [.lst (l.map λa=>.bl (b a))]=.ok (.bl (l.any b)):=by
 show(match X9 (l.map λa=>D.bl (b a)) with|some bs=>M.ok (D.bl (bs.any id))|none=>.bad)=_
 rw[R3]
 simp
def E1 (x a b:Int):Xn [.int x,.int a,.int b]=.ok (.im (.bl (decide (a<=x)&&decide (x<=b)))):=by
 have e:Wd [.int x]=.ok (.im (.bl true)):=rfl
 refine(WL _ _ _ _ _).trans (Z9 (Z7 (qP (Zw (Law.a1 rfl) e rfl) (Hv rfl rfl))))
def vZ (x a b:Int):Ds (.int x) [.int a,.int b]=decide (x=a\/x=b):=by
 have e:Ds (.int x) [.int a,.int b]=((a==x)||((b==x)||false)):=by simp only[Ds,DF,List.any_nil,D.eq]
 rw[e,EC]
 simp only[IQ,ES,ET,HH]
 exact⟨λh=>h.imp LC LC,λh=>h.imp LC LC⟩
def zq (l:List Int):D.deps (l.map D.int)<=60:=Vi λd hd=>by
 obtain⟨i,_,rfl⟩:=CH.mp hd
 simp[D.dep]
def o9 (x a b:Int):aL (.int x) (.tup [.int a,.int b])=.ok (.bl (decide (x=a\/x=b))):=by
 show(if D.deps [.int a,.int b]<=60 then M.ok (D.bl (Ds (.int x) [.int a,.int b])) else .bad)=_
 rw[AD (show D.deps [D.int a,D.int b]<=60 from zq [a,b]),vZ]
def Jh (u:Bool)(x y:Int):D:=.tup [kd u,.int x,.int y]
def vY (s:Sd)(x y:Int):aL (.tup [kd s.up,.int s.x,.int s.y]) (.lst [Jh true x (y-1),Jh true x y,Jh false (x-1) y,Jh false x y])=.ok (.bl (s.tch x y)):=by
 have hd:D.deps [Jh true x (y-1),Jh true x y,Jh false (x-1) y,Jh false x y]<=60:=Vi λd hd=>by
  simp only[AW,LM,or_false] at hd
  rcases hd with rfl|rfl|rfl|rfl<;>exact Ez _ _ _
 show(if D.deps [Jh true x (y-1),Jh true x y,Jh false (x-1) y,Jh false x y]<=60 then M.ok (D.bl (Ds (.tup [kd s.up,.int s.x,.int s.y]) [Jh true x (y-1),Jh true x y,Jh false (x-1) y,Jh false x y])) else .bad)=_
 rw[AD hd]
 have sy:∀u a b,D.eq (Jh u a b) (.tup [kd s.up,.int s.x,.int s.y])=s.at u a b:=λu a b=>by
  unfold Jh Sd.at
  simp only[D.eq,D.eqs,pC]
  rw[EC]
  simp only[Bool.and_true,BG,ET,HH]
  exact⟨fun⟨h1,h2,h3⟩=>⟨h1.symm,h2.symm,h3.symm⟩,fun⟨h1,h2,h3⟩=>⟨h1.symm,h2.symm,h3.symm⟩⟩
 unfold Sd.tch Ds
 simp only[DF,List.any_nil,sy,IQ]
def Zff {W H:Int}{ss:List Sd}(hl:ss.length<=1000){x y:Int}(x0:0<=x)(x1:x<=W)(y0:0<=y)(y1:y<=H):Ug [Qo W H ss,.int x,.int y]=.ok (.im (.bl (Gs W H ss x y))):=by
 have c1:Zu Xn (Zc (Zd 1) (Zc ↑0 (Zc (Zd 3) Zj))) [Io (Qo W H ss),Jo x,Jo y,Jo W,Jo H,none]=.ok (.bl true):=
  Zw (aC rfl (aC rfl (Law.a1 rfl))) (E1 x 0 W) (by show M.ok (D.bl _)=_;rw[BD x0,BD x1];rfl)
 have c2:Zu Xn (Zc (Zd 2) (Zc ↑0 (Zc (Zd 4) Zj))) [Io (Qo W H ss),Jo x,Jo y,Jo W,Jo H,none]=.ok (.bl true):=
  Zw (aC rfl (aC rfl (Law.a1 rfl))) (E1 y 0 H) (by show M.ok (D.bl _)=_;rw[BD y0,BD y1];rfl)
 have c3:DL.tO (DL.tB (Zn aL (Zd 1) (Q0 (Zc ↑0 (Zc (Zd 3) Zj))))) (DL.tB (Zn aL (Zd 2) (Q0 (Zc ↑0 (Zc (Zd 4) Zj))))) [Io (Qo W H ss),Jo x,Jo y,Jo W,Jo H,none]=.ok (decide (x=0\/x=W)||decide (y=0\/y=H)):=
  lF (Qn (Zk rfl (Nu rfl rfl) (o9 x 0 W))) (Qn (Zk rfl (Nu rfl rfl) (o9 y 0 H)))
 unfold Gs
 refine(WL _ _ _ _ _).trans (Z9 (go (Z6 (Zo rfl rfl (Ym _ _))) (go (Z6 (Zo rfl rfl (Yi _ _ _))) (go (Z1 (Os (dG (Qn c1)) (dG (Qn c2)))) ?_))))
 cases hb:(decide (x=0\/x=W)||decide (y=0\/y=H)) with
 |true=>
  rw[hb] at c3
  exact Ya (Qj c3 (Z7 rfl))
 |false=>
  rw[hb] at c3
  refine go (Z1 c3) (go (Z6 (d:=.lst [Jh true x (y-1),Jh true x y,Jh false (x-1) y,Jh false x y]) (V3 (aC (Ck rfl rfl rfl) (aC (Ck rfl rfl rfl) (aC (Ck rfl rfl rfl) (Law.a1 (Ck rfl rfl rfl))))) (Ks (by show(4:Nat)<=1000000;decide)))) (Z7 (J9 (Law.a1 (Gc (Ui (Ep (Zo rfl rfl (lG _ _ _ _))) (by rw[AC];exact hl) (dE Sd.D (λs=>.bl (s.tch x y)) ss λs _=>⟨_,rfl,Zk (x:=.tup [kd s.up,.int s.x,.int s.y]) rfl rfl (vY s x y)⟩)))) (any_map _ ss))))
inductive Th where
 |no|co|fa (b:Bool)
 deriving DecidableEq
def Th.D:Th->D
 |.no=>.non
 |.co=>.str (Str.ofString "corner")
 |.fa b=>fc b
def Th.mir:Th->Bool
 |.fa true=>true
 |_=>false
def E2 (h:Int):Option (Bool×Bool)->Th
 |none=>.no
 |some (f,g)=>.fa (if 0<h then f else g)
def MQ (W H:Int)(ss:List Sd)(t u:Tk)(now:Int):Th:=
 if t.due=now/\u.due=now then(if Gs W H ss t.line u.line=true then .co else .no)
 else if t.due=now then E2 t.h (Uj W H ss true t.line u.sq)
 else if u.due=now then E2 u.h (Uj W H ss false t.sq u.line)
 else .no
def Hz (th:Th):th.D.dep<=60:=by cases th<;>simp[Th.D,fc,D.dep]
def k6 (th:Th):D.eq th.D (.str (Str.ofString "m"))=th.mir:=by
 cases th with
 |no=>rfl
 |co=>rfl
 |fa b=>cases b<;>rfl
def vk (th:Th):D.eq th.D (.str (Str.ofString "p"))=decide (th=.fa false):=by
 cases th with
 |no=>rfl
 |co=>rfl
 |fa b=>cases b<;>rfl
def vj (th:Th):D.eq th.D (.str (Str.ofString "corner"))=decide (th=.co):=by
 cases th with
 |no=>rfl
 |co=>rfl
 |fa b=>cases b<;>rfl
def o8 {x y:Int}(h:y<x):N6 (.int x) (.int y)=.ok (.bl true):=by
 show M.ok (D.bl (decide (y<x)))=_
 rw[BD h]
def oz {x y:Int}(h:¬y<x):N6 (.int x) (.int y)=.ok (.bl false):=by
 show M.ok (D.bl (decide (y<x)))=_
 rw[BI h]
def yE (a:Addr)(t:Tk)(o:Option (Bool×Bool)):F_face_ahead [.ob a "Track" t.r,.im (lP o)]=.ok (.im (E2 t.h o).D):=by
 refine(gk _ _ _ _).trans (Z9 ?_)
 cases o with
 |none=>exact Ya (Qj (Qn (Zk rfl rfl rfl)) (Z7 rfl))
 |some fg=>
  obtain⟨f,g⟩:=fg
  refine go (Z1 (Qn (Zk rfl rfl rfl))) (Z7 ?_)
  show _=M.ok (fc (if 0<t.h then f else g))
  by_cases h:0<t.h
  .rw[AD h]
   exact Sk (Qn (Zk rfl rfl (o8 h))) (Zo rfl rfl (Ym _ _))
  .rw[AF h]
   exact Lu (Qn (Zk rfl rfl (oz h))) (Zo rfl rfl (Yi _ _ _))
def vX (f:Zg->M D)(a0 a1 a2 a3:S):fL 4 f [a0,a1,a2,a3]=f [some a0,some a1,some a2,some a3]:=rfl
def lO {c:Zg->M Bool}{f g:Zg->M D}{sd:Zg}{r:M D}(h:c sd=.ok true)(k:f sd=r):ag c f g sd=r:=by unfold ag;rw[h];exact k
def Bw {c:Zg->M Bool}{f g:Zg->M D}{sd:Zg}{r:M D}(h:c sd=.ok false)(k:g sd=r):ag c f g sd=r:=by unfold ag;rw[h];exact k
def O1 (i:Nat){sd:Zg}{a b:Addr}{g:D}{q:List (List Yx×D)}{t:Tk}{W H:Int}{ss:List Sd}{up:Bool}{x y:Int}(e0:sd[0]?=some (some (.fl a (Qo W H ss) q))) (ei:sd[i]?=some (some (.ob b "Track" t.r))) {fk:Zg->M D} (hk:fk sd=.ok (.tup [kd up,.int x,.int y])):
  Gq Qp F_face_ahead i fk sd=.ok (E2 t.h (Uj W H ss up x y)).D:=by
 unfold Gq
 rw[e0,ei]
 show(if Nj (S.ob b "Track" t.r)=true then _ else _)=_
 rw[AD (show Nj (S.ob b "Track" t.r)=true from rfl),hk]
 have hs:(Vq [kd up,D.int x,D.int y]).isSome=true:=by cases up<;>rfl
 rw[M.bind_ok]
 dsimp only
 rw[AD ⟨rfl,hs⟩]
 have e1:Vv Qp (Qo W H ss) [kd up,.int x,.int y]=.ok (lP (Uj W H ss up x y)):=by
  unfold Vv
  rw[O0]
  rfl
 rw[e1,M.bind_ok,yE]
 rfl
def qN (i:Nat){sd:Zg}{b:Addr}{t:Tk}{now:Int} (ei:sd[i]?=some (some (.ob b "Track" t.r))) (e3:sd[3]?=some (Jo now)):DL.tB (Zn Kp (Yh i "Track" "due") (Zd 3)) sd=.ok (decide (t.due=now)):=by
 refine Qn (Zk (x:=.int t.due) (y:=.int now) ?_ ?_ (by rw[Ju];rfl))
 .unfold Yh;rw[ei];rfl
 .unfold Zd;rw[e3]
def zp (a a1 a2:Addr)(q:List (List Yx×D)){W H:Int}{ss:List Sd}{t u:Tk}{now:Int}(hl:ss.length<=1000)(hc:t.due=now->u.due=now->0<=t.line/\t.line<=W/\0<=u.line/\u.line<=H):
  F_thing_at [.fl a (Qo W H ss) q,.ob a1 "Track" t.r,.ob a2 "Track" u.r,.im (.int now)]=.ok (MQ W H ss t u now).D:=by
 refine(vX _ _ _ _ _).trans ?_
 have d1:=qN 1 (sd:=[some (.fl a (Qo W H ss) q),some (.ob a1 "Track" t.r),some (.ob a2 "Track" u.r),Jo now]) rfl rfl
 have d2:=qN 2 (sd:=[some (.fl a (Qo W H ss) q),some (.ob a1 "Track" t.r),some (.ob a2 "Track" u.r),Jo now]) rfl rfl
 unfold MQ
 by_cases h1:t.due=now
 .rw[BD h1] at d1
  by_cases h2:u.due=now
  .rw[BD h2] at d2
   rw[AD ⟨h1,h2⟩]
   obtain⟨x0,x1,y0,y1⟩:=hc h1 h2
   refine lO (Ms d1 d2) ?_
   have ec:=Zff (W:=W) (H:=H) (ss:=ss) hl x0 x1 y0 y1
   cases hb:Gs W H ss t.line u.line with
   |true=>
    rw[hb] at ec
    exact Sk (Qn (Zw (aC rfl (aC (Gd 1 rfl) (Law.a1 (Gd 2 rfl)))) ec rfl)) rfl
   |false=>
    rw[hb] at ec
    exact Lu (Qn (Zw (aC rfl (aC (Gd 1 rfl) (Law.a1 (Gd 2 rfl)))) ec rfl)) rfl
  .rw[BI h2] at d2
   rw[AF (λz=>h2 z.2),AD h1]
   refine Bw (Ms d1 d2) (lO d1 (O1 1 (g:=.non) (up:=true) rfl rfl (Ck rfl (Gd 1 rfl) rfl)))
 .rw[BI h1] at d1
  rw[AF (λz=>h1 z.1),AF h1]
  by_cases h2:u.due=now
  .rw[BD h2] at d2
   rw[AD h2]
   exact Bw (dF d1) (Bw d1 (lO d2 (O1 2 (g:=.non) (up:=false) rfl rfl (Ck rfl rfl (Gd 2 rfl)))))
  .rw[BI h2] at d2
   rw[AF h2]
   exact Bw (dF d1) (Bw d1 (Bw d2 rfl))
def Jw (th:Th)(over may:Bool):Option Str:=match th with
 |.co=>some (Str.ofString "corner")
 |.no=>if over=true then some (Str.ofString "end") else none
 |.fa false=>if over=true then some (Str.ofString "end") else some (Str.ofString "plain")
 |.fa true=>if over=true then some (Str.ofString "end") else if may=true then none else some (Str.ofString "many")
def O2:Option Str->D
 |some s=>.str s
 |none=>.non
def yD (th:Th)(over may:Bool):Jn [th.D,.bl over,.bl may]=.ok (.im (O2 (Jw th over may))):=by
 refine(WL _ _ _ _ _).trans (Z9 ?_)
 have c1:∀s:String,DL.tB (Zn Kp (Zd 0) (eC (.str (Str.ofString s)))) [Io th.D,Io (.bl over),Io (.bl may)]=.ok (D.eq th.D (.str (Str.ofString s))):=λs=>Qn (Zk (x:=th.D) rfl rfl (Km (Hz th)))
 have cc:=c1 "corner"
 have cp:=c1 "p"
 have cm:=c1 "m"
 rw[vj] at cc
 rw[vk] at cp
 rw[k6] at cm
 cases th with
 |co=>exact Ya (Qj cc (Z7 rfl))
 |no=>
  cases over with
  |true=>exact go (Z1 cc) (Ya (Qj rfl (Z7 rfl)))
  |false=>exact go (Z1 cc) (go (Z1 rfl) (go (Z1 cp) (go (Z1 (dF cm)) (Z7 rfl))))
 |fa b=>
  cases over with
  |true=>cases b<;>exact go (Z1 cc) (Ya (Qj rfl (Z7 rfl)))
  |false=>
   cases b with
   |false=>exact go (Z1 cc) (go (Z1 rfl) (Ya (Qj cp (Z7 rfl))))
   |true=>
    cases may with
    |true=>exact go (Z1 cc) (go (Z1 rfl) (go (Z1 cp) (go (Z1 (Ms cm (dG rfl))) (Z7 rfl))))
    |false=>exact go (Z1 cc) (go (Z1 rfl) (go (Z1 cp) (Ya (Qj (Ms cm (iS (b:=false) rfl)) (Z7 rfl)))))
def place (t:Tk)(now:Int):D:=if t.h=0 then nD t.n t.m else Xt (t.line*t.lap-t.h*(t.due-now)) t.lap
def Xb (t u:Tk)(now:Int):D:=.tup [place t now,place u now]
def Qu (t:Tk)(now:Int)(th:Th):Tk:=if t.due=now then(if th.mir=true then {t with h:=-t.h,due:=t.due+t.lap} else {t with sq:=t.sq+t.h,due:=t.due+t.lap}) else t
def O3 (t:Tk)(now:Int)(th:Th):F_pass_line t.r [.int now,th.D]=some (Qu t now th).r:=by
 unfold Tk.r
 rw[yg _ _ _ _ _ _ _ (Hz th),k6]
 unfold Qu
 by_cases h:t.due=now
 .rw[AD h,AD h]
  cases th.mir<;>rfl
 .rw[AF h,AF h]
def Jx:Nat:=10 ^ 54
def Lz:(10:Nat) ^ 56=100*Jx:=rfl
def Cn:10 ^ 10<=Jx:=by decide
structure PB (z:Nat) (p q:Int):Prop where
 fr:Fr 15 p q
 p0:0<p
 p1:p<(z:Int)*q
 g:Int.gcd p q=1
 nw:∀k:Int,k*q≠p
def PIn.pb {z:Nat}{p q:Int}(h:PIn z p q):PB z p q:=⟨h.fr.mono (by decide),h.p0,h.p1,h.g,h.nw⟩
structure TI (z:Nat) (T now:Int) (t:Tk):Prop where
 pn:PB z t.n t.m
 z8:z<=8
 s0:0<=t.sq
 s1:t.sq<z
 l0:0<=t.lap
 mv:(t.h=0/\t.due=T+1/\t.sq=t.n/t.m)\/((t.h=1\/t.h = -1)/\0<t.lap/\now<t.due/\t.due<=now+t.lap)
structure WS (W H:Nat) (T now:Int) (t u:Tk):Prop where
 x:TI W T now t
 y:TI H T now u
 mv:t.h≠0\/u.h≠0
 n0:0<=now
 n1:now<T
 at0:now=0\/(t.h≠0/\t.due=now+t.lap)\/(u.h≠0/\u.due=now+u.lap)
section
variable {z W H:Nat}{T now:Int}{t u:Tk}
theorem TI.line (h:TI z T now t):0<=t.line/\t.line<=z:=by
 have:=h.s0
 have:=h.s1
 unfold Tk.line Yl
 split<;>lia
def TI.tb (h:TI z T now t)(l1:t.lap<=Jx)(n0:0<=now)(n1:now<T)(t1:T<=Jx):TB 56 t:=by
 have hl:=h.line
 have:=h.z8
 have:=h.l0
 have bg:=Cn
 refine⟨h.pn.fr.mono (by decide),?_,?_,?_,?_⟩<;>rw[Lz]
 .lia
 .rcases h.mv with⟨a,_⟩|⟨a,_⟩<;>lia
 .rcases h.mv with⟨_,a,_⟩|⟨_,_,_,a⟩<;>lia
 .lia
def Zr (t u:Tk)(T:Int):Int:=min (min t.due u.due) T
def WS.nxt (h:WS W H T now t u):now<Zr t u T/\Zr t u T<=T/\Zr t u T<=t.due/\Zr t u T<=u.due:=by
 have:=h.n1
 have a:now<t.due:=by rcases h.x.mv with⟨_,a,_⟩|⟨_,_,a,_⟩<;>lia
 have b:now<u.due:=by rcases h.y.mv with⟨_,a,_⟩|⟨_,_,a,_⟩<;>lia
 unfold Zr
 lia
def E3 (a:Addr)(h:TI z T now t)(l1:t.lap<=Jx){w:Int}(n0:0<=now)(n1:now<T)(t1:T<=Jx)(w0:0<=w)(w1:w<=T):Yu [.ob a "Track" t.r,.im (.int w)]=.ok (.im (place t w)):=by
 unfold place
 have tb:=h.tb l1 n0 n1 t1
 have bg:=Cn
 by_cases hh:t.h=0
 .rw[AD hh]
  have:=Ze4 a (nD t.n t.m) t.sq t.due t.lap w
  unfold Tk.r
  rw[hh]
  exact this
 .rw[AF hh]
  have hl:0<t.lap:=by rcases h.mv with⟨z,_⟩|⟨_,z,_⟩;exact absurd z hh;exact z
  refine Zh7 (k:=56) a (nD t.n t.m) hh hl tb.lap tb.li tb.h ?_ (by decide)
  rw[Lz]
  rcases h.mv with⟨z,_⟩|⟨_,_,z1,z2⟩
  .exact absurd z hh
  .lia
def Wo (x y:Int)(p:Po4):Bool:=decide (p.a/p.b=x/\p.c/p.d=y)
def Kk (ps:List Po4)(T:Int)(t u:Tk):WK:=(ps.filter (Wo t.sq u.sq)).foldl (Jg (λp=>Yn (Yr t u p) 0 T)) none
def wk (W H:Int)(ss:List Sd)(ps:List Po4)(T:Int)(most:Nat):Nat->Tk->Tk->List D->Option D
 |0,_,_,_=>none
 |n+1,t,u,tn=>match Kk ps T t u with
  |some (p,_)=>some (.tup [.str (Str.ofString "person"),p.D,.lst tn])
  |none=>match Jw (MQ W H ss t u (Zr t u T)) (decide (Zr t u T=T)) (decide (tn.length<most)) with
   |some w=>some (.tup [.str w,Xb t u (Zr t u T),.lst tn])
   |none=>wk W H ss ps T most n (Qu t (Zr t u T) (MQ W H ss t u (Zr t u T))) (Qu u (Zr t u T) (MQ W H ss t u (Zr t u T))) (if(MQ W H ss t u (Zr t u T)).mir=true then tn++[Xb t u (Zr t u T)] else tn)
def O4 {th:Th}{n':Int}(h:TI z T now t)(a:now<n')(b:n'<=t.due)(c:n'<T)(hm:t.due=n'->th.mir=false->t.line≠0/\t.line≠z):TI z T n' (Qu t n' th):=by
 have h0:=h.s0
 have h1:=h.s1
 unfold Qu
 by_cases hd:t.due=n'
 .rw[AD hd]
  rcases h.mv with⟨_,z1,_⟩|⟨z1,z2,z3,z4⟩
  .lia
  .cases hq:th.mir with
   |true=>exact⟨h.pn,h.z8,h.s0,h.s1,h.l0,.inr ⟨by show -t.h=1 \/ -t.h = -1;lia,z2,by show n'<t.due+t.lap;lia,by show t.due+t.lap<=n'+t.lap;lia⟩⟩
   |false=>
    have hl:=hm hd hq
    unfold Tk.line Yl at hl
    refine⟨h.pn,h.z8,?_,?_,h.l0,.inr ⟨z1,z2,by show n'<t.due+t.lap;lia,by show t.due+t.lap<=n'+t.lap;lia⟩⟩
    .show 0<=t.sq+t.h
     rcases z1 with z1|z1<;>rw[z1] at hl ⊢<;>simp at hl<;>lia
    .show t.sq+t.h<z
     rcases z1 with z1|z1<;>rw[z1] at hl ⊢<;>simp at hl<;>lia
 .rw[AF hd]
  refine⟨h.pn,h.z8,h.s0,h.s1,h.l0,?_⟩
  rcases h.mv with z1|⟨z1,z2,z3,z4⟩
  .exact .inl z1
  .exact .inr ⟨z1,z2,by lia,by lia⟩
def Co {th:Th}{n':Int}:(Qu t n' th).h≠0↔t.h≠0:=by
 unfold Qu
 split
 .split
  .show -t.h≠0↔_
   lia
  .exact IB
 .exact IB
def L1 {th:Th}{n':Int}(h:t.due=n'):(Qu t n' th).due=n'+(Qu t n' th).lap:=by
 unfold Qu
 rw[AD h]
 split
 .show t.due+t.lap=n'+t.lap
  rw[h]
 .show t.due+t.lap=n'+t.lap
  rw[h]
def E4 {ss:List Sd}{up:Bool}{x y:Int}{W H:Int}(h:Uj W H ss up x y=none):(if up=true then x else y)≠0/\(if up=true then x else y)≠(if up=true then W else H):=by
 unfold Uj at h
 cases hf:ss.find? (λs=>s.at up x y) with
 |some s=>rw[hf] at h;cases h
 |none=>
  rw[hf] at h
  dsimp only at h
  by_cases q:(if up=true then x else y)=0\/(if up=true then x else y)=(if up=true then W else H)
  .rw[AD q] at h;cases h
  .exact⟨λz=>q (.inl z),λz=>q (.inr z)⟩
def Zb7 {ss:List Sd}{x y:Int}{W H:Int}(h:Gs W H ss x y=false):x≠0/\x≠W/\y≠0/\y≠H:=by
 unfold Gs at h
 simp only[Bool.or_eq_false_iff,decide_eq_false_iff_not] at h
 lia
def E5 {h:Int}{o:Option (Bool×Bool)}(e:E2 h o=.no):o=none:=by
 cases o with
 |none=>rfl
 |some p=>cases e
def Zb8 {ss:List Sd}{n':Int}{th:Th}(e:MQ W H ss t u n'=th)(QU:th=.no):(t.due=n'->t.line≠0/\t.line≠W)/\(u.due=n'->u.line≠0/\u.line≠H):=by
 subst e
 unfold MQ at QU
 split at QU
 .rename_i hd
  split at QU
  .cases QU
  .rename_i hc
   have:=Zb7 (FV.mpr hc)
   exact⟨λ_=>⟨this.1,this.2.1⟩,λ_=>this.2.2⟩
 .rename_i hd
  split at QU
  .rename_i h1
   have:=E4 (E5 QU)
   exact⟨λ_=>this,λz=>absurd ⟨h1,z⟩ hd⟩
  .rename_i h1
   split at QU
   .have:=E4 (E5 QU)
    exact⟨λz=>absurd z h1,λ_=>this⟩
   .rename_i h2
    exact⟨λz=>absurd z h1,λz=>absurd z h2⟩
def Gu {th:Th}{over may:Bool}(h:Jw th over may=none):over=false/\(th=.no\/(th=.fa true/\may=true)):=by
 cases th with
 |co=>cases h
 |no=>cases over;exact⟨rfl,.inl rfl⟩;cases h
 |fa b=>
  cases over
  .cases b
   .cases h
   .cases may
    .cases h
    .exact⟨rfl,.inr ⟨rfl,rfl⟩⟩
  .cases b<;>cases h
def WS.step {ss:List Sd}{may:Bool}(h:WS W H T now t u)(hw:Jw (MQ W H ss t u (Zr t u T)) (decide (Zr t u T=T)) may=none):
  WS W H T (Zr t u T) (Qu t (Zr t u T) (MQ W H ss t u (Zr t u T))) (Qu u (Zr t u T) (MQ W H ss t u (Zr t u T))):=by
 obtain⟨a1,a2,a3,a4⟩:=h.nxt
 obtain⟨w1,w2⟩:=Gu hw
 have w1:=HB w1
 have lt:Zr t u T<T:=by lia
 have dg:(MQ W H ss t u (Zr t u T)).mir=false->(t.due=Zr t u T->t.line≠0/\t.line≠W)/\(u.due=Zr t u T->u.line≠0/\u.line≠H):=λhm=>by
  rcases w2 with w2|⟨w2,_⟩
  .exact Zb8 rfl w2
  .rw[w2] at hm;cases hm
 have du:t.due=Zr t u T\/u.due=Zr t u T:=by unfold Zr at lt ⊢;lia
 refine⟨O4 h.x a1 a3 lt λz1 z2=>(dg z2).1 z1,O4 h.y a1 a4 lt λz1 z2=>(dg z2).2 z1,?_,by have:=h.n0;lia,lt,.inr ?_⟩
 .rw[Co,Co];exact h.mv
 .rcases du with d|d
  .refine .inl ⟨?_,L1 d⟩
   rw[Co]
   rcases h.x.mv with⟨_,z,_⟩|⟨z,_⟩<;>lia
  .refine .inr ⟨?_,L1 d⟩
   rw[Co]
   rcases h.y.mv with⟨_,z,_⟩|⟨z,_⟩<;>lia
end
def K2 {t:Tk}(w:Int)(th:Th):(Qu t w th).lap=t.lap:=by
 unfold Qu
 split
 .split<;>rfl
 .rfl
theorem PoOk.mono {j k:Nat}{p:Po4}(h:PoOk j p)(hk:j<=k):PoOk k p:=⟨h.x.mono hk,h.y.mono hk⟩
section
variable {W H:Nat}{T:Int}{ss:List Sd}{ps:List Po4}{most:Nat} (a a1 a2:Addr) (q:U7) (g pt st:D)
def zo (mo:Nat)(r1 r2:Qy)(tn:List D)(now:Int)(th:Th):
  Om (Ru a a1 a2 g (qD q) pt st (.int mo) (.int T) r1 r2 tn none (Jo now) (Io th.D) none)=.ok (O2 (Jw th (decide (now=T)) (decide (tn.length<mo)))):=by
 unfold Om Ix
 have e:Zu Jn (Zc (Zd 10) (Zc (Zn Kp (Zd 9) (Zd 4)) (Zc (Zn Mf (K6 Wj (Zc (Zd 7) Zj)) (Zd 3)) Zj))) (frz 7 (Ru a a1 a2 g (qD q) pt st (.int mo) (.int T) r1 r2 tn none (Jo now) (Io th.D) none))=.ok (O2 (Jw th (decide (now=T)) (decide (tn.length<mo)))):=by
  refine Zw (aC rfl (aC (Zk (x:=.int now) (y:=.int T) rfl rfl (by rw[Ju])) (Law.a1 (d:=.bl (decide (tn.length<mo))) (Zk (x:=.int tn.length) (y:=.int mo) (J9 (Law.a1 rfl) Rz) rfl ?_)))) (s:=.im (O2 (Jw th (decide (now=T)) (decide (tn.length<mo))))) ?_ rfl
  .show M.ok (D.bl (decide ((tn.length:Int)<(mo:Int))))=_
   congr 2
   rw[EC]
   simp
  .have:=yD th (now==T) (decide (tn.length<mo))
   exact this
 rw[e]
 cases Jw th (decide (now=T)) (decide (tn.length<mo))<;>rfl
def yC (mo wt:D)(r1 r2:Qy)(tn:List D)(th:Th):iG (Ru a a1 a2 g (qD q) pt st mo wt r1 r2 tn none none (Io th.D) none)=.ok th.mir:=
 Qn (Zk (x:=th.D) rfl rfl ((Km (Hz th)).trans (by rw[k6])))
def Zb9 (mo wt:D){t u:Tk}(tn:List D){w:Int}{p1 p2:D} (h1:Yu [.ob a1 "Track" t.r,.im (.int w)]=.ok (.im p1)) (h2:Yu [.ob a2 "Track" u.r,.im (.int w)]=.ok (.im p2)):
  Uh (Ru a a1 a2 g (qD q) pt st mo wt t.r u.r tn none (Jo w) none none)=.ok (.tup [p1,p2]):=by
 refine Nu ?_ ?_
 .show Pk (Yu [.ob a1 "Track" t.r,.im (.int w)])=_
  rw[h1];rfl
 .show Pk (Yu [.ob a2 "Track" u.r,.im (.int w)])=_
  rw[h2];rfl
theorem lw (hl:ss.length<=1000)(hp:∀p∈ps,PtOk W H p)(hq:∀x y,lQ (qD q) x y (ps.filter (Wo x y)))(hm:most<=1000)(hT:T<=Jx):∀(n:Nat) (t u:Tk) (tn:List D) (now:Int) (d:D),WS W H T now t u->t.lap<=Jx->u.lap<=Jx->tn.length<=most->wk W H ss ps T most n t u tn=some d ->
  Lq a a1 a2 (Qo W H ss) (qD q) pt st (.int most) (.int T) n t.r u.r tn=.ok d
 |0,_,_,_,_,_,_,_,_,_,h=>by cases h
 |n+1,t,u,tn,now,d,wi,lx,ly,uF,h=>by
  have tx:=wi.x.tb lx wi.n0 wi.n1 hT
  have ty:=wi.y.tb ly wi.n0 wi.n1 hT
  have hw:Fr 56 T 1:=by
   have:=wi.n0
   have:=wi.n1
   have:=Cn
   refine⟨by decide,?_,?_⟩<;>rw[Lz]<;>lia
  have ea:Ht (Ru a a1 a2 (Qo W H ss) (qD q) pt st (.int most) (.int T) t.r u.r tn none none none none)=.ok (Mt (Kk ps T t u)):=by
   show Pk (F_person_ahead [.fl a (Qo W H ss) (qD q),.ob a1 "Track" t.r,.ob a2 "Track" u.r,.im (.int T)])=_
   rw[zt a (Qo W H ss) (hq t.sq u.sq) tx ty (by decide) wi.mv hw (λp VU=>(hp p (DP.mp VU).1).ok.mono (by decide))]
   rfl
  unfold Lq
  rw[ea,M.bind_ok]
  unfold wk at h
  cases ha:Kk ps T t u with
  |some x=>
   rw[ha] at h
   obtain⟨p,xy⟩:=x
   cases h
   rfl
  |none=>
   rw[ha] at h
   dsimp only at h
   have en:lH (Ru a a1 a2 (Qo W H ss) (qD q) pt st (.int most) (.int T) t.r u.r tn none none none none)=.ok (.int (Zr t u T)):=rfl
   obtain⟨n1,n2,n3,n4⟩:=wi.nxt
   have n0:=wi.n0
   have et:=zp a a1 a2 (qD q) (t:=t) (u:=u) (now:=Zr t u T) (W:=W) (H:=H) hl λ_ _=>⟨wi.x.line.1,wi.x.line.2,wi.y.line.1,wi.y.line.2⟩
   have ep:=Zb9 a a1 a2 q (Qo W H ss) pt st (.int most) (.int T) tn (E3 a1 wi.x lx n0 wi.n1 hT (show 0<=Zr t u T by lia) n2) (E3 a2 wi.y ly n0 wi.n1 hT (show 0<=Zr t u T by lia) n2)
   have UO:=λmay h=>WS.step (ss:=ss) (may:=may) wi h
   have ew:=zo (T:=T) a a1 a2 q (Qo W H ss) pt st most t.r u.r tn (Zr t u T) (MQ W H ss t u (Zr t u T))
   have em:=yC a a1 a2 q (Qo W H ss) pt st (.int most) (.int T) t.r u.r tn (MQ W H ss t u (Zr t u T))
   have e1:=O3 t (Zr t u T) (MQ W H ss t u (Zr t u T))
   have e2:=O3 u (Zr t u T) (MQ W H ss t u (Zr t u T))
   show(if D.isN .non=true then _ else _)=_
   rw[AD (show D.isN .non=true from rfl),en,M.bind_ok,et,M.bind_ok,ew,M.bind_ok]
   generalize hth:MQ W H ss t u (Zr t u T)=th at *
   cases hw:Jw th (decide (Zr t u T=T)) (decide (tn.length<most)) with
   |some w=>
    rw[hw] at h
    cases h
    show(if D.isN (.str w)=true then _ else _)=_
    rw[AF (by intro z;cases z),ep,M.bind_ok]
    rfl
   |none=>
    rw[hw] at h
    dsimp only at h
    show(if D.isN .non=true then _ else _)=_
    rw[AD (show D.isN .non=true from rfl),em,M.bind_ok,ep,e1,e2]
    have wi':=UO _ hw
    obtain⟨_,w2⟩:=Gu hw
    cases hb:th.mir with
    |true=>
     rw[hb] at h
     have OF:tn.length<most:=by
      rcases w2 with rfl|⟨_,w2⟩
      .cases hb
      .exact BS w2
     show(M.bind (if few tn=true then M.ok (tn++[D.tup [place t (Zr t u T),place u (Zr t u T)]]) else M.bad) _)=_
     rw[AD (Ks (by lia)),M.bind_ok]
     exact lw hl hp hq hm hT n _ _ _ _ d wi' (by rw[K2];exact lx) (by rw[K2];exact ly) (by rw[AJ,AZ];lia) h
    |false=>
     rw[hb] at h
     exact lw hl hp hq hm hT n _ _ _ _ d wi' (by rw[K2];exact lx) (by rw[K2];exact ly) uF h
end
theorem O5 {W H:Int}{ss:List Sd}{ps:List Po4}{T:Int}{most:Nat}:∀(n m:Nat) (t u:Tk) (tn:List D) (d:D),n<=m->wk W H ss ps T most n t u tn=some d->wk W H ss ps T most m t u tn=some d
 |0,_,_,_,_,_,_,h=>by cases h
 |n+1,0,_,_,_,_,hm,_=>by lia
 |n+1,m+1,t,u,tn,d,hm,h=>by
  unfold wk at h ⊢
  cases ha:Kk ps T t u with
  |some x=>rw[ha] at h;exact h
  |none=>
   rw[ha] at h
   dsimp only at h ⊢
   cases hw:Jw (MQ W H ss t u (Zr t u T)) (decide (Zr t u T=T)) (decide (tn.length<most)) with
   |some w=>rw[hw] at h;exact h
   |none=>
    rw[hw] at h
    exact O5 n m _ _ _ d (by lia) h
theorem O6 {W H:Nat}{ss:List Sd}{ps:List Po4}{T:Int}{most:Nat}:∀(n kx ky:Nat) (t u:Tk) (tn:List D) (now:Int),WS W H T now t u->T<t.due+kx*t.lap->T<u.due+ky*u.lap->kx+ky<n->∃d,wk W H ss ps T most n t u tn=some d
 |0,_,_,_,_,_,_,_,_,_,h=>by lia
 |n+1,kx,ky,t,u,tn,now,wi,hx,hy,hn=>by
  unfold wk
  cases ha:Kk ps T t u with
  |some x=>exact⟨_,rfl⟩
  |none=>
   dsimp only
   cases hw:Jw (MQ W H ss t u (Zr t u T)) (decide (Zr t u T=T)) (decide (tn.length<most)) with
   |some w=>exact⟨_,rfl⟩
   |none=>
    have wi':=wi.step hw
    have lt:=wi'.n1
    obtain⟨n1,n2,n3,n4⟩:=wi.nxt
    have bJ:∀(v:Tk) (th:Th),(Qu v (Zr t u T) th).lap=v.lap:=λv th=>by
     unfold Qu;split
     .split<;>rfl
     .rfl
    have same:∀(v:Tk) (th:Th),v.due≠Zr t u T->(Qu v (Zr t u T) th).due=v.due:=λv th h=>by unfold Qu;rw[AF h]
    have one:∀(v:Tk) (th:Th) (k:Nat),v.due=Zr t u T->T<v.due+k*v.lap->0<=v.lap->∃j,k=j+1/\T<(Qu v (Zr t u T) th).due+j*(Qu v (Zr t u T) th).lap:=λv th k h hk h0=>by
     cases k with
     |zero=>simp at hk;lia
     |succ j=>
      refine⟨j,rfl,?_⟩
      have e:=L1 (th:=th) h
      rw[bJ] at e
      rw[bJ,e]
      have:((j+1:Nat):Int)*v.lap=j*v.lap+v.lap:=by rw[Int.natCast_add,EY];simp
      lia
    have YK:∀(v:Tk) (th:Th) (k:Nat),T<v.due+k*v.lap->0<=v.lap->∃j,j<=k/\(v.due=Zr t u T->j<k)/\T<(Qu v (Zr t u T) th).due+j*(Qu v (Zr t u T) th).lap:=λv th k hk h0=>by
     by_cases h:v.due=Zr t u T
     .obtain⟨j,e1,e2⟩:=one v th k h hk h0
      exact⟨j,by lia,λ_=>by lia,e2⟩
     .refine⟨k,AQ _,λz=>absurd z h,?_⟩
      rw[same v th h,bJ];exact hk
    obtain⟨jx,x1,x2,x3⟩:=YK t (MQ W H ss t u (Zr t u T)) kx hx wi.x.l0
    obtain⟨jy,y1,y2,y3⟩:=YK u (MQ W H ss t u (Zr t u T)) ky hy wi.y.l0
    have du:t.due=Zr t u T\/u.due=Zr t u T:=by unfold Zr at lt ⊢;lia
    exact O6 n jx jy _ _ _ _ wi' x3 y3 (by rcases du with z|z;have:=x2 z;lia;have:=y2 z;lia)
def oy {t:Tk}{n d:Int}(hd:0<d)(hh:t.h=1\/t.h = -1)(hl:0<t.lap)(hq:n/d=t.sq)(hn:∀k:Int,k*d≠n):t.tm n d<t.due*d:=by
 have e:=FH n d
 have r0:=BQ n (Int.ne_of_gt hd)
 have r1:=BK n hd
 have hk:=hn (n/d)
 rw[hq] at e hk
 generalize n%d=r at *
 have r2:0<r:=by
  rcases KM r0 with z|z
  .exact z
  .rw[CN] at e;lia
 unfold Tk.tm Tk.line Yl
 rcases hh with hh|hh<;>rw[hh]
 .rw[AD (by decide)]
  have k:t.due*d-1*((t.sq+1)*d-n)*t.lap=t.due*d-(d-r)*t.lap:=by grind
  rw[k]
  have:=AX (show 0<d-r by lia) hl
  lia
 .rw[AF (by decide)]
  have k:t.due*d - -1*(t.sq*d-n)*t.lap=t.due*d-r*t.lap:=by grind
  rw[k]
  have:=AX r2 hl
  lia
def WS.soon {W H:Nat}{T w:Int}{t u:Tk}(h:WS W H T w t u){p:Po4}(hb:0<p.b)(hd:0<p.d)(hn:∀k:Int,k*p.b≠p.a/\k*p.d≠p.c)(hq:Wo t.sq u.sq p=true){x y:Int}(e:Yr t u p=some (x,y)):0<y/\(t.h≠0->x<t.due*y)/\(u.h≠0->x<u.due*y):=by
 obtain⟨q1,q2⟩:=BS hq
 have gx:t.h≠0->t.tm p.a p.b<t.due*p.b:=λz=>by
  rcases h.x.mv with a|a
  .exact absurd a.1 z
  .exact oy hb a.1 a.2.1 q1 λk=>(hn k).1
 have gy:u.h≠0->u.tm p.c p.d<u.due*p.d:=λz=>by
  rcases h.y.mv with a|a
  .exact absurd a.1 z
  .exact oy hd a.1 a.2.1 q2 λk=>(hn k).2
 unfold Yr at e
 by_cases ht:t.h=0
 .rw[AF (λz=>z ht)] at e
  split at e
  .cases e
   exact⟨hd,λz=>absurd ht z,gy⟩
  .cases e
 .rw[AD ht] at e
  by_cases hu:u.h=0
  .rw[AF (λz=>z hu)] at e
   split at e
   .cases e
    exact⟨hb,gx,λz=>absurd hu z⟩
   .cases e
  .rw[AD hu] at e
   split at e
   .rename_i he
    cases e
    refine⟨hb,gx,λz=>?_⟩
    have:u.tm p.c p.d*p.b<u.due*p.d*p.b:=BU (gy z) hb
    rw[<-he] at this
    exact BM (by rw[show u.due*p.b*p.d=u.due*p.d*p.b by grind];exact this) (by lia)
   .cases e
def m1 (a:Int):Int:=if(a.natAbs:Int) > 1 then a.natAbs else 1
def Bx (a:Int):0<m1 a/\(a≠0->m1 a=a.natAbs):=by
 unfold m1
 split
 .exact⟨by lia,λ_=>rfl⟩
 .exact⟨by lia,λ_=>by lia⟩
def Sl {a:Int}{k:Nat}(h:a.natAbs<=10 ^ k):(m1 a).natAbs<=10 ^ k:=by
 have:=JQ (n:=k) (show 0<10 by decide)
 unfold m1
 split<;>lia
def wT (p s:Po4):Int:=1*p.b*m1 s.a*p.d*m1 s.c
structure QT (s:Po4):Prop where
 x:Fr 12 s.a s.b
 y:Fr 12 s.c s.d
 gx:Int.gcd s.a s.b=1
 gy:Int.gcd s.c s.d=1
 n0:s.a≠0\/s.c≠0
 lx:(s.a.natAbs:Int)<=40*s.b
 ly:(s.c.natAbs:Int)<=40*s.d
def vW:Zg->M O:=Qa 2 (Zn Zt (Zn Zt (Zd 2) 3[1]!) (K6 D5 (Zc ↑1 (Zc (K6 Wt (Zc 4[0]! Zj)) Zj))))
def qM (o0 o1 o3 o4:Option S){T0 n m a b:Int}(h0:T0.natAbs<=10 ^ 100)(hm:m.natAbs<=10 ^ 100)(ha:a.natAbs<=10 ^ 100):∃sd1,Wh 2 (Q8 (Xd 3) (Q8 (Xd 4) Ww)) (.tup [nD n m,nD a b]) [o0,o1,Jo T0,o3,o4]=.ok sd1 /\
  vW sd1=.ok (.nx [o0,o1,Jo (T0*m*m1 a),Io (nD n m),Io (nD a b)]):=by
 refine⟨[o0,o1,Jo T0,Io (nD n m),Io (nD a b)],rfl,?_⟩
 have em:K6 D5 (Zc ↑1 (Zc (K6 Wt (Zc 4[0]! Zj)) Zj)) [o0,o1,Jo T0,Io (nD n m),Io (nD a b)]=.ok (.int (m1 a)):=J9 (aC rfl (Law.a1 (J9 (Law.a1 (Zo rfl rfl (Ym _ _))) (Ry a)))) rfl
 exact Z6 (Zk (Zk rfl (Zo rfl rfl (Yi _ _ _)) (gT (Qk h0 (by decide)) (Qk hm (by decide)))) em (gT (Qk (Qb h0 hm) (by decide)) (Qk (Sl ha) (by decide))))
def Zij {p s:Po4}(hp:PoOk 20 p)(hs:QT s):Xr [p.D,s.D]=.ok (.im (.int (wT p s))):=by
 have b1:=hp.x.bot
 have b2:=hp.y.bot
 have a1:=hs.x.top
 have a2:=hs.y.top
 have le:∀{j:Nat},j<=100->(10:Nat) ^ j<=10 ^ 100:=λh=>Ur h
 obtain⟨s1,e1,e2⟩:=qM (Io p.D) (Io s.D) none none (T0:=1) (n:=p.a) (m:=p.b) (a:=s.a) (b:=s.b) (JQ (by decide)) (BA b1 (le (by decide))) (BA a1 (le (by decide)))
 have h0:((1:Int)*p.b*m1 s.a).natAbs<=10 ^ 100:=BA (Qb (j:=20) (k:=12) (by rw[DH];exact b1) (Sl a1)) (le (by decide))
 obtain⟨s2,e3,e4⟩:=qM (Io p.D) (Io s.D) (Io (nD p.a p.b)) (Io (nD s.a s.b)) (T0:=1*p.b*m1 s.a) (n:=p.c) (m:=p.d) (a:=s.c) (b:=s.d) h0 (BA b2 (le (by decide))) (BA a2 (le (by decide)))
 have z:Hm (Zc (Zd 0) (Zc (Zd 1) Zj)) [Io p.D,Io s.D,Jo 1,none,none]=.ok [.tup [nD p.a p.b,nD s.a s.b],.tup [nD p.c p.d,nD s.c s.d]]:=rfl
 exact(Oq _ _ _ _).trans (Z9 (go (Z6 rfl) (go ((Yd z).trans ((Ye e1 e2).trans ((Ye e3 e4).trans rfl))) (Z7 rfl))))
def Uk {f g:Zg->Qy->Option (Zg×Qy)}{sd sd':Zg}{r r':Qy}{x:Option (Zg×Qy)}(h:f sd r=some (sd',r'))(k:g sd' r'=x):Vu f g sd r=x:=by
 unfold Vu;rw[h];exact k
def Jd {n:Str}{e:Zg->Qy->M D}{sd:Zg}{r r':Qy}{d:D}(h:e sd r=.ok d)(hl:r.length<=900)(hr:D2 n d r=r'):Rp n e sd r=some (sd,r'):=by
 unfold Rp;rw[h]
 show(if r.length<=900 then some (sd,D2 n d r) else none)=_
 rw[AD hl,hr]
def O7 {i:Nat}{e:Zg->Qy->M D}{sd:Zg}{r:Qy}{d:D}(h:e sd r=.ok d):dC i e sd r=some (sd.set i (Io d),r):=by
 unfold dC;rw[h];rfl
def xG {c:Zg->Qy->M Bool}{f g:Zg->Qy->Option (Zg×Qy)}{sd:Zg}{r:Qy}{x:Option (Zg×Qy)}(h:c sd r=.ok true)(k:f sd r=x):ZF c f g sd r=x:=by
 unfold ZF;rw[h];exact k
def xF {c:Zg->Qy->M Bool}{f g:Zg->Qy->Option (Zg×Qy)}{sd:Zg}{r:Qy}{x:Option (Zg×Qy)}(h:c sd r=.ok false)(k:g sd r=x):ZF c f g sd r=x:=by
 unfold ZF;rw[h];exact k
def sg (a:Int):Int:=if a > 0 then 1 else -1
def Ge (a b T:Int):Int:=b*(T/(a.natAbs:Int))
def X7 (n m a:Int):Int:=if a > 0 then m-n%m else n%m
def Sx (n m a b T:Int):Tk:=if a=0 then⟨n,m,n/m,0,T+1,0⟩ else⟨n,m,n/m,sg a,X7 n m a*(Ge a b T/m),Ge a b T⟩
def qL {n m a b T:Int}(hm:Fr 20 n m)(ha:Fr 12 a b)(hT:T.natAbs<=10 ^ 54):Kj [] [nD n m,nD a b,.int T]=some (Sx n m a b T).r:=by
 have mJ:=Qk hm.bot (show 20<=900 by decide)
 have nP:Zu Xk (Zc (Zd 1) Zj) [none,Io (nD n m),Io (nD a b),Jo T,none,none]=.ok (.int (n/m)):=
  Zw (Law.a1 rfl) ((gq _ _ _).trans (Z9 (Z7 (Zk (Zo rfl rfl (Ym _ _)) (Zo rfl rfl (Yi _ _ _)) (Eo hm.pos mJ))))) rfl
 have c0:DL.tB (Zn Gv 2[0]! ↑0) [none,Io (nD n m),Io (nD a b),Jo T,none,none]=.ok (!(a==0)):=by
  refine Qn (Zk (Zo rfl rfl (Ym _ _)) rfl ?_)
  rw[Uz (by simp[D.dep])]
  rfl
 have fin:∀{g:Zg->Qy->Option (Zg×Qy)}{sd':Zg}{r':Qy},g [none,Io (nD n m),Io (nD a b),Jo T,none,none] []=some (sd',r')->ZE 3 2 g [] [nD n m,nD a b,.int T]=some r':=λ{g sd' r'} h=>by
  unfold ZE
  rw[AD (show [nD n m,nD a b,D.int T].length=3 from rfl)]
  show Option.map _ (g [none,Io (nD n m),Io (nD a b),Jo T,none,none] [])=_
  rw[h]
  rfl
 unfold Sx
 by_cases h0:a=0
 .rw[AD h0]
  rw[show(!(a==0))=false by simp[h0]] at c0
  exact fin (Uk (Jd rfl (BX rfl) rfl) (Uk (Jd nP (BX rfl) rfl) (Uk (Jd rfl (BX rfl) rfl) (Uk (Jd (d:=.int (T+1)) rfl (BX rfl) rfl) (Uk (Jd rfl (BX rfl) rfl) (xF c0 rfl))))))
 .rw[AF h0]
  rw[show(!(a==0))=true by simp[h0]] at c0
  have hn:0<(a.natAbs:Int):=by lia
  have sa:sm (a.natAbs:Int)=true:=Qk (x:=(a.natAbs:Int)) (k:=12) (by rw[EU];exact ha.top) (by decide)
  have hh:Cu (DL.tB (Zn N6 2[0]! ↑0)) ↑1 (Dv Pf ↑1) [none,Io (nD n m),Io (nD a b),Jo T,none,none]=.ok (.int (sg a)):=by
   unfold sg
   by_cases hp:a > 0
   .rw[AD hp];exact Sk (Qn (Zk (Zo rfl rfl (Ym _ _)) rfl (o8 hp))) rfl
   .rw[AF hp];exact Lu (Qn (Zk (Zo rfl rfl (Ym _ _)) rfl (oz hp))) rfl
  have dT:(T/(a.natAbs:Int)).natAbs<=10 ^ 54:=BA (IF _ _) hT
  have el:Zn Zt 2[1]! (Zn Yz (Zd 3) (K6 Wt (Zc 2[0]! Zj))) [none,Io (nD n m),Io (nD a b),Jo T,none,none]=.ok (.int (Ge a b T)):=
   Zk (Zo rfl rfl (Yi _ _ _)) (Zk rfl (J9 (Law.a1 (Zo rfl rfl (Ym _ _))) (Ry a)) (Eo hn sa)) (gT (Qk ha.bot (by decide)) (Qk dT (by decide)))
  have lb:(Ge a b T).natAbs<=10 ^ 66:=Qb (j:=12) (k:=54) ha.bot dT
  have em:Zn Q7 1[0]! 1[1]! [none,Io (nD n m),Io (nD a b),Jo T,none,none]=.ok (.int (n%m)):=Zk (Zo rfl rfl (Ym _ _)) (Zo rfl rfl (Yi _ _ _)) (gM hm.pos)
  have dm:(Ge a b T/m).natAbs<=10 ^ 66:=BA (IF _ _) lb
  have e5:∀r:Qy,r.lookup ("heading":Str)=some (D.int (sg a))->iN (gB (Fi N6 (Wm "heading") (Vb ↑0))) (Vb (Zn DL.Vl 1[1]! (Zd 4))) (Vb (Zd 4)) [none,Io (nD n m),Io (nD a b),Jo T,Jo (n%m),none] r=.ok (.int (X7 n m a)):=λr hr=>by
   have hg:Wm "heading" [none,Io (nD n m),Io (nD a b),Jo T,Jo (n%m),none] r=.ok (.int (sg a)):=by unfold Wm;rw[hr]
   have hc:gB (Fi N6 (Wm "heading") (Vb ↑0)) [none,Io (nD n m),Io (nD a b),Jo T,Jo (n%m),none] r=.ok (decide (0<sg a)):=by
    unfold gB Fi
    rw[hg]
    rfl
   unfold iN X7
   rw[hc]
   unfold sg
   by_cases hp:a > 0
   .rw[AD hp,AD hp]
    show Zn DL.Vl 1[1]! (Zd 4) [none,Io (nD n m),Io (nD a b),Jo T,Jo (n%m),none]=_
    exact Zk (Zo rfl rfl (Yi _ _ _)) rfl rfl
   .rw[AF hp,AF hp]
    rfl
  have lo:(X7 n m a).natAbs<=10 ^ 21:=by
   have h1:=BQ n (show m≠0 by have:=hm.pos;lia)
   have h2:=BK n hm.pos
   have h3:=hm.bot
   have h4:(10:Nat) ^ 21=10*10 ^ 20:=rfl
   unfold X7
   split<;>lia
  have e6:∀r:Qy,r.lookup ("lap":Str)=some (D.int (Ge a b T))->Fi Zt (Vb (Zd 5)) (Fi Yz (Wm "lap") (Vb 1[1]!)) [none,Io (nD n m),Io (nD a b),Jo T,Jo (n%m),Jo (X7 n m a)] r=.ok (.int (X7 n m a*(Ge a b T/m))):=λr hr=>by
   have hg:Wm "lap" [none,Io (nD n m),Io (nD a b),Jo T,Jo (n%m),Jo (X7 n m a)] r=.ok (.int (Ge a b T)):=by unfold Wm;rw[hr]
   have h2:Vb 1[1]! [none,Io (nD n m),Io (nD a b),Jo T,Jo (n%m),Jo (X7 n m a)] r=.ok (.int m):=Zo rfl rfl (Yi _ _ _)
   have h3:Fi Yz (Wm "lap") (Vb 1[1]!) [none,Io (nD n m),Io (nD a b),Jo T,Jo (n%m),Jo (X7 n m a)] r=.ok (.int (Ge a b T/m)):=by
    unfold Fi
    rw[hg,M.bind_ok,h2,M.bind_ok]
    exact Eo hm.pos mJ
   unfold Fi at h3 ⊢
   rw[h3]
   exact gT (Qk lo (by decide)) (Qk dm (by decide))
  exact fin (Uk (Jd rfl (BX rfl) rfl) (Uk (Jd nP (BX rfl) rfl) (Uk (Jd rfl (BX rfl) rfl) (Uk (Jd (d:=.int (T+1)) rfl (BX rfl) rfl) (Uk (Jd rfl (BX rfl) rfl) (xG c0 (Uk (Jd hh (BX rfl) rfl) (Uk (Jd el (BX rfl) rfl) (Uk (O7 em) (Uk (O7 (e5 _ rfl)) (Jd (e6 _ rfl) (BX rfl) rfl)))))))))))
section
variable {z:Nat}{n m a b T:Int}
def cy (h:a=0):Sx n m a b T=⟨n,m,n/m,0,T+1,0⟩:=AD h
def fU {k:Int}(h:a≠0)(hm:0<m)(hT:T=m*a.natAbs*k):Sx n m a b T=⟨n,m,n/m,sg a,X7 n m a*(b*k),b*(m*k)⟩:=by
 have e1:T/(a.natAbs:Int)=m*k:=by
  rw[hT,show m*(a.natAbs:Int)*k=m*k*a.natAbs by grind]
  exact GX _ (by lia)
 have e2:Ge a b T=b*(m*k):=by unfold Ge;rw[e1]
 have e3:b*(m*k)/m=b*k:=by
  rw[show b*(m*k)=b*k*m by grind]
  exact GX _ (by lia)
 unfold Sx
 rw[AF h,e2,e3]
def O8 (hp:PB z n m):0<X7 n m a/\X7 n m a<m:=by
 have hm:=hp.fr.pos
 have h1:=BQ n (show m≠0 by lia)
 have h2:=BK n hm
 have h3:=FH n m
 have h4:=hp.nw (n/m)
 rw[CN] at h4
 unfold X7
 split<;>lia
def O9 (h:a≠0):(sg a=1/\0<a)\/(sg a = -1/\a<0):=by
 unfold sg
 split<;>lia
def ox (hp:PB z n m)(z8:z<=8)(hT:0<T)(hb:0<b)(hd:a≠0->∃k,0<k/\T=m*a.natAbs*k):TI z T 0 (Sx n m a b T):=by
 have hm:=hp.fr.pos
 have q0:0<=n/m:=GL (AI hp.p0) (AI hm)
 have q1:n/m<z:=(Int.ediv_lt_iff_lt_mul hm).mpr hp.p1
 by_cases h:a=0
 .rw[cy h]
  exact⟨hp,z8,q0,q1,FU _,.inl ⟨rfl,rfl,rfl⟩⟩
 .obtain⟨k,k0,e⟩:=hd h
  rw[fU h hm e]
  obtain⟨l0,l1⟩:=O8 (a:=a) hp
  have bk:0<b*k:=AX hb k0
  have lp:0<b*(m*k):=AX hb (AX hm k0)
  refine⟨hp,z8,q0,q1,AI lp,.inr ⟨?_,lp,AX l0 bk,?_⟩⟩
  .show sg a=1\/sg a = -1
   rcases O9 h with⟨q,_⟩|⟨q,_⟩
   .exact .inl q
   .exact .inr q
  .show X7 n m a*(b*k)<=0+b*(m*k)
   have:=AS (AI l1) (AI bk)
   rw[show b*(m*k)=m*(b*k) by grind]
   lia
def nj (a:Int):Int:=if a=0 then 1 else a.natAbs
def Zon:(Sx n m a b T).h*nj a=a:=by
 unfold nj
 by_cases h:a=0
 .rw[cy h,AD h,h];rfl
 .rw[AF h]
  unfold Sx
  rw[AF h]
  show sg a*_=_
  rcases O9 h with⟨q,r⟩|⟨q,r⟩<;>rw[q]<;>lia
def E6 (hp:PB z n m)(hb:0<b)(hd:a≠0->∃k,0<k/\T=m*a.natAbs*k):place (Sx n m a b T) 0=nD n m:=by
 have hm:=hp.fr.pos
 by_cases h:a=0
 .rw[cy h];rfl
 .obtain⟨k,k0,e⟩:=hd h
  rw[fU h hm e]
  have lp:0<b*(m*k):=AX hb (AX hm k0)
  have h3:=FH n m
  unfold place
  have hs:sg a≠0:=by rcases O9 h with⟨q,_⟩|⟨q,_⟩<;>lia
  dsimp only
  rw[AF hs,<-Ly hm hp.g]
  refine R0 lp hm ?_
  unfold Tk.line Yl X7
  dsimp only
  rcases O9 h with⟨q,r⟩|⟨q,r⟩
  .rw[q,AD (by decide),AD (show a > 0 from r)]
   have:(n/m+1)*m-(m-n%m)=n:=by grind
   grind
  .rw[q,AF (by decide),AF (show ¬a > 0 by lia)]
   have:n/m*m+n%m=n:=by grind
   grind
def qK (hp:PB z n m)(hb:0<b)(hl:(a.natAbs:Int)<=40*b)(hd:a≠0->∃k,0<k/\T=m*a.natAbs*k):T<(Sx n m a b T).due+(40:Nat)*(Sx n m a b T).lap:=by
 have hm:=hp.fr.pos
 by_cases h:a=0
 .rw[cy h]
  show T<T+1+(40:Nat)*0
  lia
 .obtain⟨k,k0,e⟩:=hd h
  rw[fU h hm e]
  obtain⟨l0,l1⟩:=O8 (a:=a) hp
  show T<X7 n m a*(b*k)+(40:Nat)*(b*(m*k))
  have h1:=AX l0 (AX hb k0)
  have mk:0<m*k:=AX hm k0
  have h2:=AS hl (AI mk)
  have e1:T=a.natAbs*(m*k):=by rw[e];grind
  have e2:((40:Nat):Int)*(b*(m*k))=40*b*(m*k):=by grind
  rw[e2]
  lia
end
def look:U7->List Yx->List D
 |[],_=>[]
 |(k,l)::r,ks=>if k=ks then l else look r ks
def Zcb (q:U7)(ks:List Yx):Xj (qD q) ks=some (.lst (look q ks))\/(Xj (qD q) ks=none/\look q ks=[]):=by
 induction q with
 |nil=>exact .inr ⟨rfl,rfl⟩
 |cons kl r ih=>
  obtain⟨k,l⟩:=kl
  have e:look ((k,l)::r) ks=if k=ks then l else look r ks:=rfl
  rw[e]
  unfold Xj qD at *
  rw[AM,CC]
  by_cases h:k=ks
  .rw[BD h,AD h]
   exact .inl rfl
  .rw[BI h,AF h]
   exact ih
theorem E7 (ks ZL:List Yx)(p:D):∀q:U7,look (Wn ks p q) ZL=if ks=ZL then look q ZL++[p] else look q ZL
 |[]=>by
  unfold Wn look
  split
  .rfl
  .rfl
 |(k,l)::r=>by
  unfold Wn
  by_cases h:k=ks
  .rw[AD h]
   subst h
   unfold look
   by_cases h':k=ZL
   .rw[AD h',AD h',AD h']
   .rw[AF h',AF h',AF h']
  .rw[AF h]
   unfold look
   rw[E7 ks ZL p r]
   by_cases h':k=ZL
   .rw[AD h',AD h',AF (λz=>h (h'.trans z.symm))]
   .rw[AF h',AF h']
def xx {p:Po4}(hp:PoOk 4 p):On p.D=some [.inl (p.a/p.b),.inl (p.c/p.d)]:=by
 have e:∀{x y:Int},Fr 4 x y->Xk [nD x y]=.ok (.im (.int (x/y))):=λh=>
  (gq _ _ _).trans (Z9 (Z7 (Zk (Zo rfl rfl (Ym _ _)) (Zo rfl rfl (Yi _ _ _)) (Eo h.pos (Qk h.bot (by decide))))))
 have h:gw [none,none,none,Io p.D,none]=.ok (.tup [.int (p.a/p.b),.int (p.c/p.d)]):=Nu (Zw (Law.a1 (Zo rfl rfl (Ym _ _))) (e hp.x) rfl) (Zw (Law.a1 (Zo rfl rfl (Yi _ _ _))) (e hp.y) rfl)
 unfold On
 rw[h]
 rfl
theorem fS:∀(ps:List Po4) (acc:U7),(∀p∈ps,PoOk 4 p)->∃q,Br acc (ps.map Po4.D)=some q/\∀x y:Int,look q [.inl x,.inl y]=look acc [.inl x,.inl y]++(ps.filter (Wo x y)).map Po4.D
 |[],acc,_=>⟨acc,rfl,λ_ _=>by simp⟩
 |p::ps,acc,h=>by
  obtain⟨q,e1,e2⟩:=fS ps (Wn [.inl (p.a/p.b),.inl (p.c/p.d)] p.D acc) (λr hr=>h r (AV _ hr))
  refine⟨q,?_,λx y=>?_⟩
  .rw[AM]
   unfold Br
   rw[xx (h p (BH ..))]
   exact e1
  .rw[e2,E7]
   by_cases hs:Wo x y p=true
   .have hs':=BS hs
    rw[AD (by rw[hs'.1,hs'.2]),DU hs,AM,ED]
    rfl
   .have hs':¬(p.a/p.b=x/\p.c/p.d=y):=HB (FV.mpr hs)
    rw[AF (λz=>hs' (by injection z with z1 z2;injection z1 with z1;injection z2 with z2 _;injection z2 with z2;exact⟨z1,z2⟩)),EW hs]
def xw {ps:List Po4}{q:U7}(h:∀x y:Int,look q [.inl x,.inl y]=look [] [.inl x,.inl y]++(ps.filter (Wo x y)).map Po4.D)(x y:Int):lQ (qD q) x y (ps.filter (Wo x y)):=by
 have e:=h x y
 rcases Zcb q [.inl x,.inl y] with k|⟨k1,k2⟩
 .rw[e] at k
  exact .inl k
 .refine .inr ⟨k1,?_⟩
  rw[k2] at e
  have:=e.symm
  exact List.map_eq_nil_iff.mp this
section
variable {z:Nat}{TA TB TC N now a b a3 b3 n3 m3 k3:Int}{t t':Tk}
def Kt {a b c d:Int}(h:nD a b=nD c d):a=c/\b=d:=by
 unfold nD at h
 injection h with h
 injection h with h1 h
 injection h1 with h1
 injection h with h2 h
 injection h2 with h2
 exact⟨h1,h2⟩
def rb {p q:Int}(q0:0<q)(g:Int.gcd p q=1){c:Int}(e:p=c*q):q=1:=by
 have h1:q ∣ p:=⟨c,by rw[e,CN]⟩
 have h2:=Int.dvd_coe_gcd h1 (Int.dvd_refl q)
 rw[g] at h2
 have:=IP (by decide) h2
 lia
end
def oG {gt:D->Zg->M Zg}{fe:Zg->M D}{sd0 s0 s1:Zg}{d0 d1 r0 r1:D}(h1:gt d0 sd0=.ok s0)(h2:fe s0=.ok r0)(h3:gt d1 sd0=.ok s1)(h4:fe s1=.ok r1):Wk gt fe sd0 [d0,d1]=.ok [r0,r1]:=by
 simp only[Wk,h1,h2,h3,h4]
def Gf (d:D):Prop:=∃a b c e,d=.tup [nD a b,nD c e]/\Fr 93 a b/\Int.gcd a b=1/\Fr 93 c e/\Int.gcd c e=1
def L3 {d:D}(h:Gf d):d.dep<=10:=by
 obtain⟨a,b,c,e,rfl,_⟩:=h
 simp[nD,D.dep,D.deps]
section
variable {W H z:Nat}{T now:Int}{t u:Tk}{ss:List Sd}{ps:List Po4}{most:Nat}
def Pz (h:TI z T now t)(l1:t.lap<=Jx)(n0:0<=now)(n1:now<T)(t1:T<=Jx){w:Int}(w0:0<=w)(w1:w<=T):∃a b,place t w=nD a b/\Fr 93 a b/\Int.gcd a b=1:=by
 unfold place
 by_cases hh:t.h=0
 .rw[AD hh]
  exact⟨_,_,rfl,h.pn.fr.mono (by decide),h.pn.g⟩
 .rw[AF hh]
  have tb:=h.tb l1 n0 n1 t1
  have hl:0<t.lap:=by rcases h.mv with q|q;exact absurd q.1 hh;exact q.2.1
  have bg:=Cn
  have b1:(t.line*t.lap).natAbs<=10 ^ (56+56):=Qb tb.li tb.lap
  have bd:(t.due-w).natAbs<=10 ^ 56:=by
   rw[Lz]
   rcases h.mv with q|⟨_,_,q1,q2⟩
   .exact absurd q.1 hh
   .lia
  obtain⟨p,q,e,q0,_,g,_,_⟩:=Yb (t:=t.line*t.lap-t.h*(t.due-w)) (b:=t.lap) hl
  have hline:=h.line
  have z8:=h.z8
  have f:Fr 93 (t.line*t.lap-t.h*(t.due-w)) t.lap:=by
   have eb:(10:Nat) ^ 93=10 ^ 39*Jx:=rfl
   have vM:(1000:Nat)<=10 ^ 39:=by decide
   have k1:1000*Jx<=10 ^ 93:=by rw[eb];exact Nat.mul_le_mul_right _ vM
   have k2:t.line*t.lap<=8*t.lap:=AS (by lia) (AI hl)
   have k3:0<=t.line*t.lap:=CK hline.1 (AI hl)
   rw[Lz] at bd
   refine⟨hl,?_,by lia⟩
   rcases h.mv with q|⟨q1,_⟩
   .exact absurd q.1 hh
   .rcases q1 with q1|q1<;>rw[q1]<;>lia
  obtain⟨p',q',e1,f1,_,g1⟩:=Hw f
  exact⟨p',q',e1,f1,g1⟩
def By (wi:WS W H T now t u)(lx:t.lap<=Jx)(ly:u.lap<=Jx)(t1:T<=Jx):Gf (Xb t u (Zr t u T)):=by
 obtain⟨w0,w1,w2,w3⟩:=wi.nxt
 have n0:=wi.n0
 obtain⟨p,q,e1,f1,g1⟩:=Pz wi.x lx n0 wi.n1 t1 (show 0<=Zr t u T by lia) w1
 obtain⟨p',q',e2,f2,g2⟩:=Pz wi.y ly n0 wi.n1 t1 (show 0<=Zr t u T by lia) w1
 refine⟨p,q,p',q',?_,f1,g1,f2,g2⟩
 unfold Xb
 rw[e1,e2]
theorem E8 {c:Po4->Option (Int×Int)}:∀(ps:List Po4) (s:WK),(∀p xy,s=some (p,xy)->p∈ps\/∃q,s=some q)->∀p xy,ps.foldl (Jg c) s=some (p,xy)->p∈ps\/∃mF,s=some (p,mF)
 |[],s,_,p,xy,h=>.inr ⟨xy,h⟩
 |q::ps,s,_,p,xy,h=>by
  rw[HZ] at h
  rcases E8 ps (Jg c s q) (λ_ _ z=>.inr ⟨_,z⟩) p xy h with k|⟨mF,k⟩
  .exact .inl (AV _ k)
  .unfold Jg at k
   split at k
   .exact .inr ⟨_,k⟩
   .split at k
    .cases k;exact .inl (BH ..)
    .split at k
     .cases k;exact .inl (BH ..)
     .exact .inr ⟨_,k⟩
def PtOk.is {p:Po4}(h:PtOk W H p):Gf p.D:=⟨_,_,_,_,rfl,h.x.fr.mono (by decide),h.x.g,h.y.fr.mono (by decide),h.y.g⟩
theorem oq (hp:∀p∈ps,PtOk W H p)(t1:T<=Jx):∀(n:Nat) (t u:Tk) (tn:List D) (now:Int) (d:D),WS W H T now t u->t.lap<=Jx->u.lap<=Jx->(∀x∈tn,Gf x)->tn.length<=most->wk W H ss ps T most n t u tn=some d->∃wd pt tn',d=.tup [.str wd,pt,.lst tn']/\Gf pt/\(∀x∈tn',Gf x)/\tn'.length<=most
 |0,_,_,_,_,_,_,_,_,_,_,h=>by cases h
 |n+1,t,u,tn,now,d,wi,lx,ly,ht,hl,h=>by
  unfold wk at h
  cases ha:Kk ps T t u with
  |some x=>
   obtain⟨p,xy⟩:=x
   rw[ha] at h
   cases h
   refine⟨_,_,_,rfl,?_,ht,hl⟩
   unfold Kk at ha
   rcases E8 _ none (λ_ _ z=>by cases z) p xy ha with k|⟨_,k⟩
   .exact(hp p (DP.mp k).1).is
   .cases k
  |none=>
   rw[ha] at h
   dsimp only at h
   cases hw:Jw (MQ W H ss t u (Zr t u T)) (decide (Zr t u T=T)) (decide (tn.length<most)) with
   |some w=>
    rw[hw] at h
    cases h
    exact⟨_,_,_,rfl,By wi lx ly t1,ht,hl⟩
   |none=>
    rw[hw] at h
    dsimp only at h
    refine oq hp t1 n _ _ _ _ d (wi.step hw) (by rw[K2];exact lx) (by rw[K2];exact ly) ?_ ?_ h
    .split
     .intro x hx
      rcases DK.mp hx with k|k
      .exact ht x k
      .rw[CU.mp k];exact By wi lx ly t1
     .exact ht
    .split
     .rename_i d6
      obtain⟨_,w2⟩:=Gu hw
      rcases w2 with w2|⟨_,w2⟩
      .rw[w2] at d6;cases d6
      .have:=BS w2
       rw[AJ,AZ]
       lia
     .exact hl
end
structure St (W H:Nat) (p:Po4):Prop where
 x:PB W p.a p.b
 y:PB H p.c p.d
 bx:p.b.natAbs<=10 ^ 15
 by':p.d.natAbs<=10 ^ 15
def PtOk.st {W H:Nat}{p:Po4}(h:PtOk W H p):St W H p:=⟨h.x.pb,h.y.pb,BA h.x.fr.bot (Ur (by decide)),BA h.y.fr.bot (Ur (by decide))⟩
theorem all_map {α:Type}{f:α->D}:∀l:List D,(∀d∈l,∃s,d=f s)->∃ss:List α,l=ss.map f
 |[],_=>⟨[],rfl⟩
 |d::l,h=>by
  obtain⟨s,rfl⟩:=h d (BH ..)
  obtain⟨ss,rfl⟩:=all_map l λe he=>h e (AV _ he)
  exact⟨s::ss,rfl⟩
def P0 (p:Int){m:Nat}(h:1<=m):∃k:Nat,p%(m:Int)=(k:Int)/\k<m:=by
 have q1:0<=p%(m:Int):=BQ _ (by lia)
 have q2:p%(m:Int)<m:=BK _ (by lia)
 exact⟨(p%(m:Int)).toNat,by lia,by lia⟩
def iF (s:Sd):List V:=[.str (if s.up=true then Str.ofString "up" else Str.ofString "flat"),.int s.x,.int s.y,.str (if s.f=true then Str.ofString "m" else Str.ofString "p"),.str (if s.g=true then Str.ofString "m" else Str.ofString "p")]
theorem ra:∀ss:List Sd,T2 (ss.map Sd.D)=some (ss.map iF)
 |[]=>rfl
 |s::ss=>by
  show(match some (iF s),T2 (ss.map Sd.D) with|some v,some vs=>some (v::vs)|_,_=>none)=_
  rw[ra ss]
  rfl
def P5 {x y:V}{xs ys:List V}(e:∃c,fO x y=some c)(l:∃c,g9 x y=some c)(r:∃b,aK xs ys=some b):∃b,aK (x::xs) (y::ys)=some b:=by
 obtain⟨c,e⟩:=e
 unfold aK
 rw[e]
 cases c
 .exact l
 .exact r
def xv (s t:Sd):∃b,aK (iF s) (iF t)=some b:=P5 ⟨_,rfl⟩ ⟨_,rfl⟩ (P5 ⟨_,rfl⟩ ⟨_,rfl⟩ (P5 ⟨_,rfl⟩ ⟨_,rfl⟩ (P5 ⟨_,rfl⟩ ⟨_,rfl⟩ (P5 ⟨_,rfl⟩ ⟨_,rfl⟩ ⟨false,rfl⟩))))
def zm (ss:List Sd)(hl:ss.length<64):∃ts:List Sd,ts.length=ss.length/\T4 [.lst (ss.map Sd.D)]=.ok (.lst (ts.map Sd.D)):=by
 obtain⟨es,hp,e⟩:=Ha (ra ss) (by rw[AC];exact hl) (by
  rw[ES]
  refine .inl (LP.mpr λy hy=>?_)
  obtain⟨s,_,rfl⟩:=CH.mp hy
  rfl) (by rw[AC,AC]) λx hx y hy=>by
  obtain⟨s,_,rfl⟩:=CH.mp hx
  obtain⟨t,_,rfl⟩:=CH.mp hy
  exact⟨rfl,xv s t⟩
 obtain⟨ts,rfl⟩:=all_map (f:=Sd.D) es λd hd=>by
  obtain⟨s,_,rfl⟩:=CH.mp (hp.mem_iff.mp hd)
  exact⟨s,rfl⟩
 have:=hp.length_eq
 rw[AC,AC] at this
 exact⟨ts,this,e⟩
theorem oF {α:Type}{gt:D->Zg->M Zg}{fc:Zg->M Bool}{fe:Zg->M D}{sd0:Zg}(e g:α->D)(q:α->Bool):∀l:List α,(∀a∈l,∃sd1,gt (e a) sd0=.ok sd1/\fc sd1=.ok (q a)/\fe sd1=.ok (g a))->Ni gt fc fe sd0 (l.map e)=.ok ((l.filter q).map g)
 |[],_=>rfl
 |a::l,h=>by
  obtain⟨sd1,h1,h2,h3⟩:=h a (by simp)
  have ih:=oF (gt:=gt) (fc:=fc) (fe:=fe) (sd0:=sd0) e g q l λb hb=>h b (by simp[hb])
  rw[AM]
  cases z:q a with
  |true=>
   rw[z] at h2
   rw[DU z]
   simp only[Ni,h1,h2,h3,ih,AM]
  |false=>
   rw[z] at h2
   rw[EW (by rw[z];decide)]
   simp only[Ni,h1,h2,ih]
theorem mX (s:String) (h:s="mpm" \/ s="mmp") (g:Int):∃b:Bool,Ys (.str (Str.ofString s)) (.int (g%3))=.ok (fc b):=by
 have:g%3=0\/g%3=1\/g%3=2:=by lia
 rcases h with rfl|rfl<;>rcases this with e|e|e<;>rw[e]
 .exact⟨true,rfl⟩
 .exact⟨false,rfl⟩
 .exact⟨true,rfl⟩
 .exact⟨true,rfl⟩
 .exact⟨true,rfl⟩
 .exact⟨false,rfl⟩
def oE (m:Nat)(f:Zg->M O)(a0 a1 a2 a3 a4 a5:D):V5 6 m f [a0,a1,a2,a3,a4,a5]=Wx (f ([some (S.im a0),some (S.im a1),some (S.im a2),some (S.im a3),some (S.im a4),some (S.im a5)]++List.replicate m none)):=rfl
def zk (u:Bool)(x y t en g:Int):∃ts:List Sd,ts.length<=1/\Ux [kd u,.int x,.int y,.int t,.int en,.int g]=.ok (.im (.lst (ts.map Sd.D))):=by
 obtain⟨o,eo⟩:=mX "mpm" (.inl rfl) g
 obtain⟨p,ep⟩:=mX "mmp" (.inr rfl) (g/3)
 have s3:sm 3=true:=Gx (by decide) (by decide)
 have s9:sm 9=true:=Gx (by decide) (by decide)
 have g1:∀r:List (Option S),Zn Ys ↑"mpm" (Zn Q7 (Zd 5) ↑3) (Io (kd u)::Jo x::Jo y::Jo t::Jo en::Jo g::r)=.ok (fc o):=λr=>Zk rfl (Zk rfl rfl (gM (by decide))) eo
 have g2:∀r:List (Option S),Zn Ys ↑"mmp" (Zn Q7 (Zn Yz (Zd 5) ↑3) ↑3) (Io (kd u)::Jo x::Jo y::Jo t::Jo en::Jo g::r)=.ok (fc p):=λr=>Zk rfl (Zk (Zk rfl rfl (Eo (by decide) s3)) rfl (gM (by decide))) ep
 obtain⟨b1,c1⟩:∃b:Bool,∀r:List (Option S),DL.tB (W2 Mf Mf ↑0 (Zd 3) (Zd 4)) (Io (kd u)::Jo x::Jo y::Jo t::Jo en::Jo g::r)=.ok b:=by
  by_cases h:(0:Int)<t
  .by_cases h2:t<en
   .exact⟨true,λr=>Qn (by simp[W2,eC,Zd,Mf,Dc,asB,M.bind,h,h2])⟩
   .exact⟨false,λr=>Qn (by simp[W2,eC,Zd,Mf,Dc,asB,M.bind,h,h2])⟩
  .exact⟨false,λr=>Qn (by simp[W2,eC,Zd,Mf,Dc,asB,M.bind,h])⟩
 have c2:∀r:List (Option S),DL.tB (Zn N6 (Zn Q7 (Zn Yz (Zd 5) ↑9) ↑3) ↑0) (Io (kd u)::Jo x::Jo y::Jo t::Jo en::Jo g::r)=.ok (decide (0<g/9%3)):=λr=>Qn (Zk (Zk (Zk rfl rfl (Eo (by decide) s9)) rfl (gM (by decide))) rfl rfl)
 have c3:∀r:List (Option S),DL.tB (Zn Kp (Zn Q7 (Zn Yz (Zd 5) ↑9) ↑6) ↑5) (Io (kd u)::Jo x::Jo y::Jo t::Jo en::Jo g::r)=.ok (g/9%6==5):=λr=>Qn (Zk (Zk (Zk rfl rfl (Eo (by decide) s9)) rfl (gM (by decide))) rfl (Ju _ _))
 have c4:∀r:List (Option S),DL.tB (Zn Kp (Zd 3) ↑0) (Io (kd u)::Jo x::Jo y::Jo t::Jo en::Jo g::r)=.ok (t==0):=λr=>Qn (Zk rfl rfl (Ju _ _))
 have c5:∀r:List (Option S),DL.tB (Zn Kp (Zd 3) (Zd 4)) (Io (kd u)::Jo x::Jo y::Jo t::Jo en::Jo g::r)=.ok (t==en):=λr=>Qn (Zk rfl rfl (Ju _ _))
 have tt:=λr=>lF (iQ (c1 r) (c2 r)) (iQ (iS (c1 r)) (c3 r))
 generalize ((b1&&decide (0<g/9%3))||((!b1)&&(g/9%6==5)))=b at tt
 cases b with
 |true=>exact⟨[],by simp,(oE _ _ _ _ _ _ _ _).trans (Z9 (go (Z6 (g1 _)) (go (Z6 (g2 _)) (Ya (Qj (tt _) (Z7 rfl))))))⟩
 |false=>
  refine⟨[⟨u,x,y,if t==0 then false else o,if t==en then false else p⟩],by simp,(oE _ _ _ _ _ _ _ _).trans (Z9 (go (Z6 (g1 _)) (go (Z6 (g2 _)) (go (Z1 (tt _)) ?_))))⟩
  cases q1:(t==0) with
  |true=>
   refine go (Qj ((c4 _).trans (by rw[q1])) rfl) ?_
   cases q2:(t==en) with
   |true=>exact go (Qj ((c5 _).trans (by rw[q2])) rfl) (Z7 rfl)
   |false=>exact go (Z1 ((c5 _).trans (by rw[q2]))) (Z7 rfl)
  |false=>
   refine go (Z1 ((c4 _).trans (by rw[q1]))) ?_
   cases q2:(t==en) with
   |true=>exact go (Qj ((c5 _).trans (by rw[q2])) rfl) (Z7 rfl)
   |false=>exact go (Z1 ((c5 _).trans (by rw[q2]))) (Z7 rfl)
def xu (r:List (Option S))(v0 v1 v2:Option S)(ns:List Int)(n:Int):Dy 3 (v0::v1::v2::some (.ow ((ns++[n]).map D.int))::r)=.ok (.int n,v0::v1::v2::some (.ow (ns.map D.int))::r):=by
 unfold Dy
 show(match ((ns++[n]).map D.int)[((ns++[n]).map D.int).length-1]? with|some d=>M.ok (d,_)|none=>.bad)=_
 rw[AC,AJ,AZ,Nat.add_sub_cancel,CY,AM,FB]
 rw[BW (by simp),AC,Nat.sub_self]
 simp
def P7 (v0:Option S)(W H:Nat)(ns:List Int)(ss:List Sd)(v5 v6:Option S):Zg:=[v0,Jo (W:Int),Jo (H:Int),some (.ow (ns.map D.int)),Io (.lst (ss.map Sd.D)),v5,v6]
noncomputable def cf (k:String)(i j:Nat):Zg->M O:=(D0 4 (fN Z8 (Zd 4) (Bk Ux (Yw (eC (.str (Str.ofString k))) (Yw (Zd 5) (Yw (Zd 6) (Yw (Zd i) (Yw (Zd j) (Ro (Dy 3))))))))))
def rZ (u:Bool)(v0:Option S){W H x y:Nat}(ns:List Int)(n:Int)(ss:List Sd)(hl:ss.length<=900):
  ∃ss',ss'.length<=ss.length+1/\cf (if u=true then "up" else "flat") (if u=true then 5 else 6) (if u=true then 1 else 2) (P7 v0 W H (ns++[n]) ss (Jo (x:Int)) (Jo (y:Int)))=.ok (.nx (P7 v0 W H ns ss' (Jo (x:Int)) (Jo (y:Int)))):=by
 obtain⟨ts,ht,hf⟩:=zk u x y (if u=true then x else y) (if u=true then W else H) n
 have pp:=xu [Io (.lst (ss.map Sd.D)),Jo (x:Int),Jo (y:Int)] v0 (Jo (W:Int)) (Jo (H:Int)) ns n
 refine⟨ss++ts,by rw[AJ];lia,?_⟩
 have ar:(Yw (eC (.str (Str.ofString (if u=true then "up" else "flat")))) (Yw (Zd 5) (Yw (Zd 6) (Yw (Zd (if u=true then 5 else 6)) (Yw (Zd (if u=true then 1 else 2)) (Ro (Dy 3))))))) (P7 v0 W H (ns++[n]) ss (Jo (x:Int)) (Jo (y:Int)))=.ok ([kd u,.int x,.int y,.int (if u=true then x else y),.int (if u=true then W else H),.int n],P7 v0 W H ns ss (Jo (x:Int)) (Jo (y:Int))):=by
  unfold Yw Ro P7
  rw[pp]
  cases u<;>rfl
 unfold cf D0 fN Bk
 rw[ar]
 simp only[M.bind_ok]
 rw[hf]
 show((Z8 (.lst (ss.map Sd.D)) (.lst (ts.map Sd.D))).bind λz=>M.ok (z,P7 v0 W H ns ss (Jo (x:Int)) (Jo (y:Int)))).bind _=_
 rw[Gb (by rw[AC,AC];lia),<-CY]
 rfl
def zj {ns:List Int}{k:Nat}(h:k+1<=ns.length):∃ms n,ns=ms++[n]/\k<=ms.length:=by
 have hne:ns≠[]:=by intro q;rw[q] at h;simp at h
 exact⟨ns.dropLast,ns.getLast hne,(List.dropLast_concat_getLast hne).symm,by rw[JT];lia⟩
theorem Cp (v0:Option S){W H x:Nat}{B:Zg->M O}(turn:∀(y:Nat) (ns:List Int) (n:Int) (ss:List Sd),ss.length<=900->∃ss',ss'.length<=ss.length+1/\B (P7 v0 W H (ns++[n]) ss (Jo (x:Int)) (Jo (y:Int)))=.ok (.nx (P7 v0 W H ns ss' (Jo (x:Int)) (Jo (y:Int))))):
  ∀(ys:List Nat) (ns:List Int) (ss:List Sd) (v6:Option S) (j:Nat),j+ys.length<=ns.length->ss.length+ys.length<=900 ->
  ∃ns' ss' VL,ss'.length<=ss.length+ys.length/\j<=ns'.length/\Xx (Xd 6) B (ys.map fun(y:Nat)=>D.int (y:Int)) (P7 v0 W H ns ss (Jo (x:Int)) v6)=.ok (.nx (P7 v0 W H ns' ss' (Jo (x:Int)) VL))
 |[],ns,ss,v6,j,hj,hl=>⟨ns,ss,v6,by simp,by simpa using hj,rfl⟩
 |y::ys,ns,ss,v6,j,hj,hl=>by
  rw[AH] at hj hl
  obtain⟨ms,n,rfl,hm⟩:=zj (k:=j+ys.length) (ns:=ns) (by lia)
  obtain⟨s1,l1,e1⟩:=turn y ms n ss (by lia)
  obtain⟨ns',ss',VL,l2,l3,e2⟩:=Cp v0 turn ys ms s1 (Jo (y:Int)) j hm (by lia)
  exact⟨ns',ss',VL,by rw[AH];lia,l3,(Ye (sd1:=P7 v0 W H (ms++[n]) ss (Jo (x:Int)) (Jo (y:Int))) rfl e1).trans e2⟩
theorem L4 (v0:Option S){W H m:Nat}{F:Zg->M O}(turn:∀(x j:Nat) (ns:List Int) (ss:List Sd) (v6:Option S),j+m<=ns.length->ss.length+m<=900->∃ns' ss' VL,ss'.length<=ss.length+m/\j<=ns'.length/\F (P7 v0 W H ns ss (Jo (x:Int)) v6)=.ok (.nx (P7 v0 W H ns' ss' (Jo (x:Int)) VL))):
  ∀(xs:List Nat) (ns:List Int) (ss:List Sd) (v5 v6:Option S) (j:Nat),j+xs.length*m<=ns.length->ss.length+xs.length*m<=900 ->
  ∃ns' ss' gC VL,ss'.length<=ss.length+xs.length*m/\j<=ns'.length/\Xx (Xd 5) F (xs.map fun(y:Nat)=>D.int (y:Int)) (P7 v0 W H ns ss v5 v6)=.ok (.nx (P7 v0 W H ns' ss' gC VL))
 |[],ns,ss,v5,v6,j,hj,hl=>⟨ns,ss,v5,v6,by simp,by simpa using hj,rfl⟩
 |x::xs,ns,ss,v5,v6,j,hj,hl=>by
  rw[AH,HU,HS] at hj hl
  obtain⟨n1,s1,r8,l1,j1,e1⟩:=turn x (j+xs.length*m) ns ss v6 (by lia) (by lia)
  obtain⟨ns',ss',gC,VL,l2,l3,e2⟩:=L4 v0 turn xs n1 s1 (Jo (x:Int)) r8 j j1 (by lia)
  exact⟨ns',ss',gC,VL,by rw[AH,HU,HS];lia,l3,(Ye (sd1:=P7 v0 W H ns ss (Jo (x:Int)) v6) rfl e1).trans e2⟩
def xq (c:Int){W H:Nat}(hW:W<=3)(hH:H<=3):∃ss:List Sd,ss.length<=400/\Pv [.int c,.int (W:Int),.int (H:Int)]=.ok (.im (Qo W H ss)):=by
 have w72:(W+1)*H<=4*3:=EI (by lia) hH
 have w73:W*(H+1)<=3*4:=EI hW (by lia)
 have w1:(W+1)*H=W*H+H:=by rw[HU,HS]
 have w2:W*(H+1)=W*H+W:=by rw[Nat.mul_add,Nat.mul_one]
 obtain⟨es,jv,_,en⟩:=Rx c (2*(W*H)+W+H) (by lia)
 have cnt:Zn Z8 (Zn Z8 (Zn Zt (Zn Zt ↑2 (Zd 1)) (Zd 2)) (Zd 1)) (Zd 2) [Jo c,Jo (W:Int),Jo (H:Int),none,none,none,none]=.ok (.int ((2*(W*H)+W+H:Nat):Int)):=by
  refine(Zk (Zk (Zk (Zk rfl rfl (gT (Gx (by decide) (by decide)) (Gx (by lia) (by lia)))) rfl (gT (Gx (by lia) (by lia)) (Gx (by lia) (by lia)))) rfl rfl) rfl rfl).trans ?_
  show M.ok (D.int (2*(W:Int)*(H:Int)+W+H))=_
  congr 2
  rw[DG]
  push_cast
  rfl
 have own:Tv 3 (Do Y7 (Zc (Zd 0) (Zc (Zn Z8 (Zn Z8 (Zn Zt (Zn Zt ↑2 (Zd 1)) (Zd 2)) (Zd 1)) (Zd 2)) Zj))) [Jo c,Jo (W:Int),Jo (H:Int),none,none,none,none]=.ok (.nx [Jo c,Jo (W:Int),Jo (H:Int),some (.ow (es.map D.int)),none,none,none]):=by
  unfold Tv Do
  rw[aC (d:=.int c) rfl (Law.a1 cnt),M.bind_ok,en]
  rfl
 obtain⟨n1,s1,v5,v6,l1,j1,e1⟩:=L4 (Jo c) (W:=W) (H:=H) (m:=H) (F:=Ke (Yc (Zc (Zd 2) Zj)) (Xd 6) (cf "up" 5 1)) (λx j ns ss v6 hj hl=>by
  obtain⟨ns',ss',VL,a2,a3,a4⟩:=Cp (Jo c) (W:=W) (H:=H) (x:=x) (B:=cf "up" 5 1) (λy ns n ss hl=>rZ true _ ns n ss hl) (List.range H) ns ss v6 j (by rw[BY];exact hj) (by rw[BY];exact hl)
  rw[BY] at a2
  exact⟨ns',ss',VL,a2,a3,(Yd (aH (n:=H) (Law.a1 rfl) (by lia))).trans a4⟩) (List.range (W+1)) es [] none none (W*(H+1)) (by rw[jv,BY];lia) (by rw[BY];simp;lia)
 rw[BY] at l1
 obtain⟨n2,s2,gC,VL,l2,j2,e2⟩:=L4 (Jo c) (W:=W) (H:=H) (m:=H+1) (F:=Ke (Yc (Zc (Zn Z8 (Zd 2) ↑1) Zj)) (Xd 6) (cf "flat" 6 2)) (λx j ns ss v6 hj hl=>by
  obtain⟨ns',ss',VL,a2,a3,a4⟩:=Cp (Jo c) (W:=W) (H:=H) (x:=x) (B:=cf "flat" 6 2) (λy ns n ss hl=>rZ false _ ns n ss hl) (List.range (H+1)) ns ss v6 j (by rw[BY];exact hj) (by rw[BY];exact hl)
  rw[BY] at a2
  exact⟨ns',ss',VL,a2,a3,(Yd (aH (n:=H+1) (Law.a1 rfl) (by lia))).trans a4⟩) (List.range W) n1 s1 v5 v6 0 (by rw[BY];lia) (by rw[BY];simp at l1;lia)
 rw[BY] at l2
 have l3:s2.length<=24:=by simp at l1;lia
 obtain⟨ts,lt,et⟩:=zm s2 (by lia)
 exact⟨ts,by lia,(WL _ _ _ _ _).trans (Z9 (go own (go (Z6 (d:=.lst []) (V3 rfl (Ks (by show(0:Nat)<=1000000;decide)))) (go ((Yd (aH (n:=W+1) (Law.a1 rfl) (by lia))).trans e1) (go ((Yd (aH (n:=W) (Law.a1 rfl) (by lia))).trans e2) (Z7 (Ck rfl rfl (J9 (Law.a1 (d:=.lst (ts.map Sd.D)) (J9 (Law.a1 rfl) et)) rfl))))))))⟩
def xo {a b c t:Int}(hc:0<c):t∈Cw a c (Si a b c)↔a<=t/\t<b/\c ∣ t-a:=by
 unfold Cw
 rw[CH]
 constructor
 .rintro⟨i,hi,rfl⟩
  have hi:=FA.mp hi
  unfold Si at hi
  split at hi
  .have h0:0<=(b-a-1)/c:=GL (by lia) (by lia)
   have h1:(i:Int)<=(b-a-1)/c:=by lia
   have h2:=(FD hc).mp h1
   have h3:=CK (show(0:Int)<=i by lia) (AI hc)
   exact⟨by lia,by lia,⟨i,by rw[CN];lia⟩⟩
  .lia
 .rintro⟨h1,h2,⟨k,hk⟩⟩
  have k0:0<=k:=by
   rcases FC k 0 with z|z
   .have:=IG hc z
    lia
   .exact z
  have k1:k<=(b-a-1)/c:=(FD hc).mpr (by rw[CN];lia)
  refine⟨k.toNat,FA.mpr ?_,?_⟩
  .unfold Si
   rw[AD (by lia)]
   lia
  .rw[Int.toNat_of_nonneg k0,CN]
   lia
def E9 {a c:Int}(hc:0<c)(n:Nat):(Cw a c n).Nodup:=by
 unfold Cw
 refine HK.mpr (List.nodup_range.imp λ{i j} h z=>h ?_)
 have:(i:Int)*c=(j:Int)*c:=by lia
 have:=CD (by lia) this
 lia
def om {k F c:Int}(hc:0<c)(hF:0<=F)(t:Int):t∈Cw ((k+F)%c-F) c (Si ((k+F)%c-F) (F+1) c) ↔ -F<=t/\t<=F/\c ∣ t-k:=by
 have m0:=BQ (k+F) (show c≠0 by lia)
 have m1:=BK (k+F) hc
 have m2:=JM (k+F) c
 rw[xo hc]
 generalize (k+F)%c=r at *
 generalize (k+F)/c=w at *
 constructor
 .rintro⟨h1,h2,⟨x,hx⟩⟩
  refine⟨by lia,by lia,⟨x-w,?_⟩⟩
  rw[Int.mul_sub];lia
 .rintro⟨h1,h2,⟨x,hx⟩⟩
  refine⟨?_,by lia,⟨x+w,by rw[Int.mul_add];lia⟩⟩
  have e:t-(r-F)=c*(x+w):=by rw[Int.mul_add];lia
  rcases FC (x+w) 0 with z|z
  .have:=DI (show x+w <= -1 by lia) (AI hc)
   lia
  .have:=CK (AI hc) z
   lia
def nh:Zg->M O:=(Zz (Qa 9 (Zn DL.Vl (Zn Q7 (Zn Z8 (Zn DL.Vl (Zd 8) (Zd 4)) (Zd 6)) (Zn Zt ↑2 (Zd 3))) (Zd 6)))
   (Qa 7 (Zn Z8 (Zd 7) (lI (Zc (Zd 9) (Zc (Zn Z8 (Zd 6) ↑1) (Zc (Zn Zt ↑2 (Zd 3)) Zj)))))))
def Ia {k F c:Int}{R:Nat}(hc:0<c)(hF:F+F<=(R:Int)*c):Si ((k+F)%c-F) (F+1) c<=R+1:=by
 have m0:=BQ (k+F) (show c≠0 by lia)
 unfold Si
 split
 .have h1:(F+1-((k+F)%c-F)-1)/c<=(R:Int):=by
   have:=Int.ediv_le_ediv hc (show F+1-((k+F)%c-F)-1<=(R:Int)*c by lia)
   rwa[GX _ (by lia)] at this
  lia
 .lia
def rY (o0 o1 o2:Option S){B b e F im:Int}{R:Nat}(B0:0<B)(B1:B<=1000000)(bb:b.natAbs<=8000000)(ib:im.natAbs<=8000000)(hR:R<=20)(hF:F=(R:Int)*B)(ts:List Int)(hl:ts.length<=100)(v9:Option S):
  nh [o0,o1,o2,Jo B,Jo b,Jo e,Jo F,Io (.lst (ts.map D.int)),Jo im,v9]=.ok (.nx [o0,o1,o2,Jo B,Jo b,Jo e,Jo F,Io (.lst ((ts++Cw ((im-b+F)%(2*B)-F) (2*B) (Si ((im-b+F)%(2*B)-F) (F+1) (2*B))).map D.int)),Jo im,Jo ((im-b+F)%(2*B)-F)]):=by
 have F0:0<=F:=by rw[hF];exact CK (by lia) (by lia)
 have F1:F<=20*1000000:=by rw[hF];exact CW (by lia) B1 (by lia) (by decide)
 have m0:=BQ (im-b+F) (show 2*B≠0 by lia)
 have m1:=BK (im-b+F) (show 0<2*B by lia)
 have g2:∀r:List (Option S),Zn Zt ↑2 (Zd 3) (o0::o1::o2::Jo B::r)=.ok (.int (2*B)):=λr=>Zk rfl rfl (gT (Gx (by decide) (by decide)) (Gx (by lia) (by lia)))
 have fw:=Ia (k:=im-b) (F:=F) (c:=2*B) (R:=R) (by lia) (by rw[hF];lia)
 have nY:(2:Int) ^ 60=1152921504606846976:=by decide
 refine go (Z6 (d:=.int ((im-b+F)%(2*B)-F)) (Zk (Zk (Zk (Zk rfl rfl rfl) rfl rfl) (g2 _) (gM (by lia))) rfl rfl)) (Z6 (Zk (x:=.lst (ts.map D.int)) rfl (y:=.lst ((Cw ((im-b+F)%(2*B)-F) (2*B) (Si ((im-b+F)%(2*B)-F) (F+1) (2*B))).map D.int)) ?_ ?_))
 .have ea:Zc (Zd 9) (Zc (Zn Z8 (Zd 6) ↑1) (Zc (Zn Zt ↑2 (Zd 3)) Zj)) [o0,o1,o2,Jo B,Jo b,Jo e,Jo F,Io (.lst (ts.map D.int)),Jo im,Jo ((im-b+F)%(2*B)-F)]=.ok [.int ((im-b+F)%(2*B)-F),.int (F+1),.int (2*B)]:=aC rfl (aC rfl (Law.a1 (g2 _)))
  show(Zc (Zd 9) (Zc (Zn Z8 (Zd 6) ↑1) (Zc (Zn Zt ↑2 (Zd 3)) Zj)) [o0,o1,o2,Jo B,Jo b,Jo e,Jo F,Io (.lst (ts.map D.int)),Jo im,Jo ((im-b+F)%(2*B)-F)]).bind k8=_
  rw[ea,M.bind_ok]
  show(if fK _ _ _=true then _ else _)=_
  rw[AD]
  unfold fK
  refine BD ⟨?_,?_,?_,?_,?_,?_,?_⟩<;>(try rw[nY])<;>lia
 .rw[CY]
  exact Gb (by rw[AC,AC,As];lia)
structure RF (n1 m1 n2 m2:Int) (R:Nat) (ts:List Int):Prop where
 lt:ts.Pairwise (· < ·)
 mem:∀t,t∈ts ↔ -((R:Int)*(m1*m2))<=t/\t<=(R:Int)*(m1*m2)/\(2*(m1*m2) ∣ t-(n2*m1-n1*m2)\/2*(m1*m2) ∣ t-(-(n2*m1)-n1*m2))
 few:ts.length<=2*R+2
def R4 {z:Nat}{p q:Int}(h:PIn z p q)(z8:z<=8):0<q/\q<=1000/\0<p/\p<8000:=by
 have h1:=h.fr.pos
 have h2:=h.q3
 have h3:=h.p0
 have h4:=h.p1
 have:(z:Int)*q<=8*1000:=CW (by lia) h2 (by lia) (by decide)
 exact⟨h1,h2,h3,by lia⟩
def xE {l:List Int}(h:l.Pairwise (·<=·))(nd:l.Nodup):l.Pairwise (· < ·):=by
 refine(h.and nd).imp λ{a b} q=>?_
 have:=q.1
 have:=q.2
 lia
theorem rX:∀l:List Int,Wz (l.map D.int)=some l
 |[]=>rfl
 |i::l=>by
  show(Wz (l.map D.int)).map (i::·)=_
  rw[rX l]
  rfl
def rW {z:Nat}(z8:z<=8){n1 m1 n2 m2:Int}(h1:PIn z n1 m1)(h2:PIn z n2 m2){R:Nat}(hR:R<=20):∃ts:List Int,RF n1 m1 n2 m2 R ts/\Y5 [nD n1 m1,nD n2 m2,.int (R:Int)]=.ok (.ow (ts.map λt=>Xt t (m1*m2))):=by
 obtain⟨a1,a2,a3,a4⟩:=R4 h1 z8
 obtain⟨c1,c2,c3,c4⟩:=R4 h2 z8
 have B0:0<m1*m2:=AX a1 c1
 have B1:m1*m2<=1000*1000:=CW a2 c2 (by lia) (by decide)
 have b0:0<n1*m2:=AX a3 c1
 have b1:n1*m2<=8000*1000:=CW (by lia) c2 (by lia) (by decide)
 have e0:0<n2*m1:=AX c3 a1
 have e1:n2*m1<=8000*1000:=CW (by lia) a2 (by lia) (by decide)
 have dj:¬2*(m1*m2) ∣ 2*(n2*m1):=fun⟨k,hk⟩=>h2.nw k (by
  have:m1*(k*m2)=m1*n2:=by grind
  exact EN (by lia) this)
 have q2:m1*m2=m1*m2:=rfl
 generalize hB:m1*m2=B at *
 generalize hb:n1*m2=b at *
 generalize he:n2*m1=e at *
 have F0:0<=(R:Int)*B:=CK (by lia) (by lia)
 have F1:(R:Int)*B<=20*1000000:=CW (by lia) (by lia) (by lia) (by decide)
 generalize hF:(R:Int)*B=F at *
 have t1:=rY (Io (nD n1 m1)) (Io (nD n2 m2)) (Jo (R:Int)) (e:=e) (im:=e) B0 (by lia) (b:=b) (by lia) (by lia) hR hF.symm [] (by simp) none
 have f1:=Ia (k:=e-b) (F:=F) (c:=2*B) (R:=R) (by lia) (by rw[<-hF];lia)
 have f2:=Ia (k:=-e-b) (F:=F) (c:=2*B) (R:=R) (by lia) (by rw[<-hF];lia)
 have jO:=om (k:=e-b) (F:=F) (c:=2*B) (by lia) F0
 have jN:=om (k:=-e-b) (F:=F) (c:=2*B) (by lia) F0
 have jM:=E9 (a:=(e-b+F)%(2*B)-F) (c:=2*B) (by lia) (Si ((e-b+F)%(2*B)-F) (F+1) (2*B))
 have jL:=E9 (a:=(-e-b+F)%(2*B)-F) (c:=2*B) (by lia) (Si ((-e-b+F)%(2*B)-F) (F+1) (2*B))
 have l1:=As ((e-b+F)%(2*B)-F) (2*B) (Si ((e-b+F)%(2*B)-F) (F+1) (2*B))
 have l2:=As ((-e-b+F)%(2*B)-F) (2*B) (Si ((-e-b+F)%(2*B)-F) (F+1) (2*B))
 have t2:=λv9=>rY (Io (nD n1 m1)) (Io (nD n2 m2)) (Jo (R:Int)) (e:=e) (im:=-e) B0 (by lia) (b:=b) (by lia) (by lia) hR hF.symm (Cw ((e-b+F)%(2*B)-F) (2*B) (Si ((e-b+F)%(2*B)-F) (F+1) (2*B))) (by lia) v9
 rw[FO] at t1
 generalize Cw ((e-b+F)%(2*B)-F) (2*B) (Si ((e-b+F)%(2*B)-F) (F+1) (2*B))=A1 at *
 generalize Cw ((-e-b+F)%(2*B)-F) (2*B) (Si ((-e-b+F)%(2*B)-F) (F+1) (2*B))=A2 at *
 have pm:=U2 (A1++A2)
 have nd:(A1++A2).Nodup:=FT.mpr ⟨jM,jL,λx hx y hy z=>by
  subst z
  obtain⟨_,_,⟨k1,d1⟩⟩:=(jO x).mp hx
  obtain⟨_,_,⟨k2,d2⟩⟩:=(jN x).mp hy
  exact dj ⟨k2-k1,by rw[Int.mul_sub];lia⟩⟩
 have len:(Vo (A1++A2)).length<=2*R+2:=by rw[pm.length_eq,AJ];lia
 have fr:∀t∈Vo (A1++A2),Fr 8 t B:=λt ht=>by
  have e8:(10:Nat) ^ 8=100000000:=rfl
  have:-F<=t/\t<=F:=by
   rcases DK.mp (pm.mem_iff.mp ht) with z|z
   .have:=(jO t).mp z;lia
   .have:=(jN t).mp z;lia
  exact⟨B0,by rw[e8];lia,by rw[e8];lia⟩
 refine⟨Vo (A1++A2),⟨xE (U3 _) (pm.nodup_iff.mpr nd),λt=>?_,len⟩,?_⟩
 .rw[pm.mem_iff,DK,jO,jN,hB,hF,he,hb]
  constructor
  .rintro(⟨x,y,z⟩|⟨x,y,z⟩)
   .exact⟨x,y,.inl z⟩
   .exact⟨x,y,.inr z⟩
  .rintro⟨x,y,z|z⟩
   .exact .inl ⟨x,y,z⟩
   .exact .inr ⟨x,y,z⟩
 .have sq:∀r:List (Option S),Zn Zt 0[1]! 1[1]! (Io (nD n1 m1)::Io (nD n2 m2)::r)=.ok (.int B):=λr=>Zk (Zo rfl rfl (Yi _ _ _)) (Zo rfl rfl (Yi _ _ _)) (by rw[gT (Gx (by lia) (by lia)) (Gx (by lia) (by lia)),hB])
  have sb:∀r:List (Option S),Zn Zt 0[0]! 1[1]! (Io (nD n1 m1)::Io (nD n2 m2)::r)=.ok (.int b):=λr=>Zk (Zo rfl rfl (Ym _ _)) (Zo rfl rfl (Yi _ _ _)) (by rw[gT (Gx (by lia) (by lia)) (Gx (by lia) (by lia)),hb])
  have se:∀r:List (Option S),Zn Zt 1[0]! 0[1]! (Io (nD n1 m1)::Io (nD n2 m2)::r)=.ok (.int e):=λr=>Zk (Zo rfl rfl (Ym _ _)) (Zo rfl rfl (Yi _ _ _)) (by rw[gT (Gx (by lia) (by lia)) (Gx (by lia) (by lia)),he])
  have sf:∀r:List (Option S),Zn Zt (Zd 2) (Zd 3) (Io (nD n1 m1)::Io (nD n2 m2)::Jo (R:Int)::Jo B::r)=.ok (.int F):=λr=>Zk rfl rfl (by rw[gT (Gx (by lia) (by lia)) (Gx (by lia) (by lia)),hF])
  have es:K6 S5 (Zc (Zd 7) Zj) [Io (nD n1 m1),Io (nD n2 m2),Jo (R:Int),Jo B,Jo b,Jo e,Jo F,Io (.lst ((A1++A2).map D.int)),Jo (-e),Jo ((-e-b+F)%(2*B)-F)]=.ok (.lst ((Vo (A1++A2)).map D.int)):=by
   refine J9 (Law.a1 (d:=.lst ((A1++A2).map D.int)) rfl) ?_
   show(match Wz ((A1++A2).map D.int) with|some ns=>if ns.length<64 then M.ok (D.lst ((Vo ns).map D.int)) else .bad|none=>.bad)=_
   rw[rX]
   dsimp only
   rw[AD (by rw[AJ];lia)]
  have em:Wk (Xd 0) (Zu Ki (Zc (Zd 0) (Zc (Zd 1) Zj))) (Ut 1 [3] [Io (nD n1 m1),Io (nD n2 m2),Jo (R:Int),Jo B,Jo b,Jo e,Jo F,Io (.lst ((A1++A2).map D.int)),Jo (-e),Jo ((-e-b+F)%(2*B)-F)]) ((Vo (A1++A2)).map D.int)=.ok ((Vo (A1++A2)).map λt=>Xt t B):=
   dE D.int (λt=>Xt t B) (Vo (A1++A2)) λt ht=>⟨_,rfl,Zw (aC rfl (Law.a1 rfl)) (Py (fr t ht) (by decide)) rfl⟩
  refine(WL _ _ _ _ _).trans (Z9 (go (Z6 (sq _)) (go (Z6 (sb _)) (go (Z6 (se _)) (go (Z6 (sf _)) (go (Z6 (d:=.lst []) (V3 rfl (Ks (by show(0:Nat)<=1000000;decide)))) (go (f:=Ke _ (Xd 8) nh) ((Yd (ds:=[.int e,.int (-e)]) (Ep (Nu rfl rfl))).trans ((Ye rfl t1).trans ((Ye rfl (t2 _)).trans rfl))) ?_)))))))
  unfold lW
  rw[Ui (Gy es) (by rw[AC];lia) em]
  rfl
def oC {W H:Nat}{p s:Po4}(ho:St W H p)(hs:QT s):wT p s<=Jx/\(Sx p.a p.b s.a s.b (wT p s)).lap<=Jx/\(Sx p.c p.d s.c s.d (wT p s)).lap<=Jx:=by
 have px:=ho.x.fr.pos
 have py:=ho.y.fr.pos
 obtain⟨m0,jP⟩:=Bx s.a
 obtain⟨m2,m3⟩:=Bx s.c
 have ew:wT p s=1*p.b*m1 s.a*p.d*m1 s.c:=rfl
 have tb:(wT p s).natAbs<=10 ^ 54:=by
  rw[ew,DH]
  exact Qb (j:=42) (k:=12) (Qb (j:=27) (k:=15) (Qb (j:=15) (k:=12) ho.bx (Sl hs.x.top)) ho.by') (Sl hs.y.top)
 have eX:s.a≠0->wT p s=p.b*s.a.natAbs*(p.d*m1 s.c):=λh=>by rw[ew,jP h];grind
 have eY:s.c≠0->wT p s=p.d*s.c.natAbs*(p.b*m1 s.a):=λh=>by rw[ew,m3 h];grind
 refine⟨by have:(10:Nat) ^ 54=Jx:=rfl;lia,?_,?_⟩
 .by_cases h:s.a=0
  .rw[cy h];show(0:Int)<=_;exact KJ _
  .rw[fU h px (eX h)]
   show s.b*(p.b*(p.d*m1 s.c))<=_
   have:(s.b*(p.b*(p.d*m1 s.c))).natAbs<=10 ^ (12+(15+(15+12))):=Qb hs.x.bot (Qb ho.bx (Qb ho.by' (Sl hs.y.top)))
   have e:(10:Nat) ^ (12+(15+(15+12)))=Jx:=rfl
   lia
 .by_cases h:s.c=0
  .rw[cy h];show(0:Int)<=_;exact KJ _
  .rw[fU h py (eY h)]
   show s.d*(p.d*(p.b*m1 s.a))<=_
   have:(s.d*(p.d*(p.b*m1 s.a))).natAbs<=10 ^ (12+(15+(15+12))):=Qb hs.y.bot (Qb ho.by' (Qb ho.bx (Sl hs.x.top)))
   have e:(10:Nat) ^ (12+(15+(15+12)))=Jx:=rfl
   lia
def R5 {W H:Nat}(hW:W<=8)(hH:H<=8){ss:List Sd}(hl:ss.length<=400){ps:List Po4}(hp:∀p∈ps,PtOk W H p){q:U7}(e2:∀x y:Int,look q [.inl x,.inl y]=look [] [.inl x,.inl y]++(ps.filter (Wo x y)).map Po4.D){p s:Po4}(ho:St W H p)(hs:QT s){most:Nat}(hm:most<=900):
  ∃d,wD (Qo W H ss) q p.D s.D (.int most)=.ok d/\wk W H ss ps (wT p s) most 81 (Sx p.a p.b s.a s.b (wT p s)) (Sx p.c p.d s.c s.d (wT p s)) []=some d/\WS W H (wT p s) 0 (Sx p.a p.b s.a s.b (wT p s)) (Sx p.c p.d s.c s.d (wT p s)) /\
   (s.a≠0->wT p s=p.b*s.a.natAbs*(p.d*m1 s.c))/\(s.c≠0->wT p s=p.d*s.c.natAbs*(p.b*m1 s.a))/\0<wT p s/\∃wd pt tn,d=.tup [.str wd,pt,.lst tn]/\Gf pt/\(∀x∈tn,Gf x)/\tn.length<=most:=by
 have px:=ho.x.fr.pos
 have py:=ho.y.fr.pos
 obtain⟨m0,jP⟩:=Bx s.a
 obtain⟨m2,m3⟩:=Bx s.c
 have ew:wT p s=1*p.b*m1 s.a*p.d*m1 s.c:=rfl
 have tp:0<wT p s:=by rw[ew,DH];exact AX (AX (AX px m0) py) m2
 have tb:(wT p s).natAbs<=10 ^ 54:=by
  rw[ew,DH]
  exact Qb (j:=42) (k:=12) (Qb (j:=27) (k:=15) (Qb (j:=15) (k:=12) ho.bx (Sl hs.x.top)) ho.by') (Sl hs.y.top)
 have eX:s.a≠0->wT p s=p.b*s.a.natAbs*(p.d*m1 s.c):=λh=>by rw[ew,jP h];grind
 have eY:s.c≠0->wT p s=p.d*s.c.natAbs*(p.b*m1 s.a):=λh=>by rw[ew,m3 h];grind
 have dx:s.a≠0->∃k,0<k/\wT p s=p.b*s.a.natAbs*k:=λh=>⟨p.d*m1 s.c,AX py m2,eX h⟩
 have dy:s.c≠0->∃k,0<k/\wT p s=p.d*s.c.natAbs*k:=λh=>⟨p.b*m1 s.a,AX px m0,eY h⟩
 obtain⟨t54,lx,ly⟩:=oC ho hs
 have ef:=@Zij p s ⟨ho.x.fr.mono (by decide),ho.y.fr.mono (by decide)⟩ hs
 generalize hT:wT p s=T at *
 have tx:=ox (T:=T) ho.x hW tp hs.x.pos dx
 have ty:=ox (T:=T) ho.y hH tp hs.y.pos dy
 have h1:(Sx p.a p.b s.a s.b T).h≠0\/(Sx p.c p.d s.c s.d T).h≠0:=by
  have e1:=@Zon p.a p.b s.a s.b T
  have e2:=@Zon p.c p.d s.c s.d T
  rcases hs.n0 with qq|qq
  .exact .inl λz=>qq (by rw[<-e1,z,CI])
  .exact .inr λz=>qq (by rw[<-e2,z,CI])
 have wi:WS W H T 0 (Sx p.a p.b s.a s.b T) (Sx p.c p.d s.c s.d T):=⟨tx,ty,h1,FU _,tp,.inl rfl⟩
 obtain⟨d,hd⟩:=O6 (ss:=ss) (ps:=ps) (most:=most) 81 40 40 _ _ [] 0 wi (qK ho.x hs.x.pos hs.lx dx) (qK ho.y hs.y.pos hs.ly dy) (by decide)
 refine⟨d,?_,hd,wi,eX,eY,tp,oq hp t54 81 _ _ [] 0 d wi lx ly (λ_ z=>by cases z) (CL _) hd⟩
 refine xK λa a1 a2=>?_
 unfold fW
 have e0:Zu Xr (Zc (Zd 0) (Zc (Zd 1) Zj)) [Io p.D,Io s.D]=.ok (.int T):=Zw (aC rfl (Law.a1 rfl)) ef rfl
 have l1:Zc 0[0]! (Zc 1[0]! (Zc (Zd 2) Zj)) [Io p.D,Io s.D,Jo T]=.ok [nD p.a p.b,nD s.a s.b,.int T]:=aC (Zo rfl rfl (Ym _ _)) (aC (Zo rfl rfl (Ym _ _)) (Law.a1 rfl))
 have l2:Zc 0[1]! (Zc 1[1]! (Zc (Zd 2) Zj)) [Io p.D,Io s.D,Jo T]=.ok [nD p.c p.d,nD s.c s.d,.int T]:=aC (Zo rfl rfl (Yi _ _ _)) (aC (Zo rfl rfl (Yi _ _ _)) (Law.a1 rfl))
 rw[e0,M.bind_ok,l1,M.bind_ok,l2,M.bind_ok,qL (ho.x.fr.mono (by decide)) hs.x tb,qL (ho.y.fr.mono (by decide)) hs.y tb]
 exact lw a a1 a2 q p.D s.D (by lia) hp (xw e2) (by lia) t54 3000 _ _ [] 0 _ wi lx ly (CL _) (O5 81 3000 _ _ _ _ (by decide) hd)
def U0 (t b:Int):Int×Int:=(t/(Int.gcd t b:Nat),b/(Int.gcd t b:Nat))
def oj (t b:Int):Xt t b=nD (U0 t b).1 (U0 t b).2:=rfl
def Us (bx by':Int)(t:Int×Int):Po4:=⟨(U0 t.1 bx).1,(U0 t.1 bx).2,(U0 t.2 by').1,(U0 t.2 by').2⟩
def Zot {t b:Int}(hb:0<b):Xt t b=nD 0 1↔t=0:=by
 obtain⟨p,q,e,q0,m,g,_⟩:=Yb (t:=t) hb
 rw[e]
 constructor
 .intro h
  obtain⟨rfl,rfl⟩:=Kt h
  rw[CI] at m
  lia
 .intro h
  subst h
  rw[CI] at m
  have hp:p=0:=(BV.mp m).resolve_right (by lia)
  subst hp
  rw[rb q0 g (c:=0) (by lia)]
def VZ:Zg->M O:=(Js (DL.tB (Dv (dD 0 1 0 1) (Q0 (Zc (Zd 6) (Zc (Zd 7) Zj))))) (Uv 4 (Q0 (Zc (Zd 6) (Zc (Zd 7) Zj)))) Yp)
def nz (t:Int×Int):Bool:=!(t.1==0&&t.2==0)
def Zio {bx by' tx ty:Int}(ZS:0<bx)(ZR:0<by'):dD 0 1 0 1 (.tup [Xt tx bx,Xt ty by'])=.ok (.bl (nz (tx,ty))):=by
 have k:∀{t b:Int},0<b->(decide ((U0 t b).1=0)&&decide ((U0 t b).2=1))=(t==0):=λ{t b} hb=>by
  have:=@Zot t b hb
  rw[oj] at this
  rw[<-Bool.decide_and,EC,CJ,ET,<-this]
  exact⟨λh=>by rw[h.1,h.2],λh=>Kt h⟩
 show M.ok (D.bl (!(decide ((U0 tx bx).1=0)&&decide ((U0 tx bx).2=1)&&decide ((U0 ty by').1=0)&&decide ((U0 ty by').2=1))))=_
 rw[k ZS,IE,k ZR]
 rfl
theorem lN (o0 o1 o2 o3 o5:Option S){bx by' x:Int}(ZS:0<bx)(ZR:0<by'):∀(ys:List Int) (acc:List (Int×Int)) (v7:Option S),acc.length+ys.length<=1000->∃w7:Option S,
  Xx (Xd 7) VZ (ys.map λy=>Xt y by') [o0,o1,o2,o3,some (.ow (acc.map λt=>(Us bx by' t).D)),o5,Io (Xt x bx),v7]=.ok (.nx [o0,o1,o2,o3,some (.ow ((acc++(ys.map λy=>(x,y)).filter nz).map λt=>(Us bx by' t).D)),o5,Io (Xt x bx),w7])
 |[],acc,v7,_=>⟨v7,by rw[show acc++List.filter nz (([]:List Int).map λy=>(x,y))=acc from BP _];rfl⟩
 |y::ys,acc,v7,hl=>by
  rw[AH] at hl
  have ne:=@Zio bx by' x y ZS ZR
  have c:DL.tB (Dv (dD 0 1 0 1) (Q0 (Zc (Zd 6) (Zc (Zd 7) Zj)))) [o0,o1,o2,o3,some (.ow (acc.map λt=>(Us bx by' t).D)),o5,Io (Xt x bx),Io (Xt y by')]=.ok (nz (x,y)):=by
   refine Qn ?_
   unfold Dv
   rw[Nu (a:=Xt x bx) (b:=Xt y by') rfl rfl,M.bind_ok,ne]
  cases q:nz (x,y) with
  |false=>
   rw[q] at c
   obtain⟨w7,e⟩:=lN o0 o1 o2 o3 o5 ZS ZR ys acc (Io (Xt y by')) (by lia)
   refine⟨w7,?_⟩
   rw[AM,AM,EW (by rw[q];decide)]
   exact(Ye rfl (Z1 c)).trans e
  |true=>
   rw[q] at c
   obtain⟨w7,e⟩:=lN o0 o1 o2 o3 o5 ZS ZR ys (acc++[(x,y)]) (Io (Xt y by')) (by rw[AJ,AZ];lia)
   refine⟨w7,?_⟩
   rw[AM,AM,DU q]
   rw[ED] at e
   refine(Ye (sd2:=[o0,o1,o2,o3,some (.ow ((acc++[(x,y)]).map λt=>(Us bx by' t).D)),o5,Io (Xt x bx),Io (Xt y by')]) rfl (Qj c ?_)).trans e
   rw[CY]
   exact Ce rfl (Nu rfl rfl) (by rw[AC];lia)
theorem qJ (o0 o1 o2 o3:Option S){bx by':Int}(ZS:0<bx)(ZR:0<by'){ys:List Int}(ly:ys.length<=42):∀(xs:List Int) (acc:List (Int×Int)) (v6 v7:Option S),acc.length+xs.length*ys.length<=1000->∃w6 w7:Option S,
  Xx (Xd 6) (Ke (Kl (Zd 5)) (Xd 7) VZ) (xs.map λx=>Xt x bx) [o0,o1,o2,o3,some (.ow (acc.map λt=>(Us bx by' t).D)),Io (.lst (ys.map λy=>Xt y by')),v6,v7]=.ok (.nx [o0,o1,o2,o3,some (.ow ((acc++(xs.flatMap λx=>ys.map λy=>(x,y)).filter nz).map λt=>(Us bx by' t).D)),Io (.lst (ys.map λy=>Xt y by')),w6,w7])
 |[],acc,v6,v7,_=>⟨v6,v7,by rw[List.flatMap_nil,IA,BP];rfl⟩
 |x::xs,acc,v6,v7,hl=>by
  rw[AH,HU,HS] at hl
  obtain⟨a7,e1⟩:=lN o0 o1 o2 o3 (Io (.lst (ys.map λy=>Xt y by'))) (x:=x) ZS ZR ys acc v7 (by lia)
  have lf:=GP nz (ys.map λy=>(x,y))
  rw[AC] at lf
  obtain⟨w6,w7,e2⟩:=qJ o0 o1 o2 o3 ZS ZR ly xs (acc++(ys.map λy=>(x,y)).filter nz) (Io (Xt x bx)) a7 (by rw[AJ];lia)
  refine⟨w6,w7,?_⟩
  rw[ED] at e2
  rw[AM,KW,HD]
  exact(Ye rfl ((Yd (Gy rfl)).trans e1)).trans e2
def rT {W H:Nat}(hW:W<=8)(hH:H<=8){p q:Po4}(hp:PtOk W H p)(hq:PtOk W H q){RX RY:Nat}(hx:RX<=14)(hy:RY<=14):∃xs ys:List Int,RF p.a p.b q.a q.b RX xs/\RF p.c p.d q.c q.d RY ys/\xs.length*ys.length<=900 /\
  Yk [p.D,q.D,.int (RX:Int),.int (RY:Int)]=.ok (.ow (((xs.flatMap λx=>ys.map λy=>(x,y)).filter nz).map λt=>(Us (p.b*q.b) (p.d*q.d) t).D)):=by
 obtain⟨xs,tx,ex⟩:=rW hW hp.x hq.x (R:=RX) (by lia)
 obtain⟨ys,ty,ey⟩:=rW hH hp.y hq.y (R:=RY) (by lia)
 have lx:=tx.few
 have ly:=ty.few
 have lm:xs.length*ys.length<=30*30:=EI (by lia) (by lia)
 refine⟨xs,ys,tx,ty,by lia,?_⟩
 obtain⟨w6,w7,e⟩:=qJ (Io p.D) (Io q.D) (Jo (RX:Int)) (Jo (RY:Int)) (AX hp.x.fr.pos hq.x.fr.pos) (AX hp.y.fr.pos hq.y.fr.pos) (ys:=ys) (by lia) xs [] none none (by simp;lia)
 rw[FO] at e
 exact(fH _ _ _ _ _ _).trans (Z9 (go (Vh 4 _) (go (Z6 (Zw (aC (Zo rfl rfl (Yi _ _ _)) (aC (Zo rfl rfl (Yi _ _ _)) (Law.a1 rfl))) ey rfl)) (go (f:=Ke _ (Xd 6) (Ke (Kl (Zd 5)) (Xd 7) VZ)) ((Yd (Gy (Zw (aC (Zo rfl rfl (Ym _ _)) (aC (Zo rfl rfl (Ym _ _)) (Law.a1 rfl))) ex rfl))).trans e) rfl))))
def oi {pt:D}(h:Gf pt)(q:Po4):D.eq pt q.D=true↔pt=q.D:=by
 obtain⟨a,b,c,e,rfl,_⟩:=h
 have:(.tup [nD a b,nD c e]:D)=Po4.D ⟨a,b,c,e⟩:=rfl
 rw[this,Hy]
 constructor
 .intro h;rw[h]
 .intro h
  unfold Po4.D at h
  injection h with h
  injection h with h1 h
  injection h with h2 _
  obtain⟨rfl,rfl⟩:=Kt h1
  obtain⟨rfl,rfl⟩:=Kt h2
  rfl
def aZ {ps:List Po4}{i:Nat}{p:Po4}(h:ps[i]?=some p):Ys (.lst (ps.map Po4.D)) (.int (i:Int))=.ok p.D:=by
 show(match Nw (ps.map Po4.D) (i:Int) with|some d=>M.ok d|none=>.bad)=_
 rw[Jq (show(ps.map Po4.D)[i]?=some p.D by rw[BE,h];rfl)]
def gh {W H:Nat}{p o:Po4}(hW:W<=8)(hH:H<=8)(ho:PtOk W H p)(oo:PtOk W H o):0<p.b*o.b/\p.b*o.b<=1000000/\0<p.d*o.d/\p.d*o.d<=1000000:=by
 obtain⟨a1,a2,_⟩:=R4 ho.x hW
 obtain⟨a3,a4,_⟩:=R4 oo.x hW
 obtain⟨a5,a6,_⟩:=R4 ho.y hH
 obtain⟨a7,a8,_⟩:=R4 oo.y hH
 have B1:p.b*o.b<=1000*1000:=CW a2 a4 (by lia) (by decide)
 have C1:p.d*o.d<=1000*1000:=CW a6 a8 (by lia) (by decide)
 exact⟨AX a1 a3,B1,AX a5 a7,C1⟩
def Cq {W H:Nat}{ps:List Po4}{c:Po4}(hp:∀p∈ps,PtOk W H p)(oc:PtOk W H c):∀r∈ps++[c],PtOk W H r:=λr hr=>by
 rcases DK.mp hr with z|z
 .exact hp r z
 .rw[CU.mp z];exact oc
def rS {xs ys:List Int}(lm:xs.length*ys.length<=900):((xs.flatMap λx=>ys.map λy=>(x,y)).filter nz).length<=900:=by
 refine BA (GP _ _) ?_
 rw[KA]
 simp only[AC,LX,JF]
 exact lm
def L5 {w:Str}{pt:D}{tn:List D}(h:Gf pt)(q:Po4):∃b:Bool,Vz [.tup [.str w,pt,.lst tn],q.D]=.ok (.im (.bl b))/\(b=true↔w=Str.ofString "end"/\pt=q.D):=by
 have dp:pt.dep<=60:=BA (L3 h) (by decide)
 refine⟨decide (w=Str.ofString "end")&&D.eq pt q.D,(Oq _ _ _ _).trans (Z9 (Z7 (Hv (Zk (Zo rfl rfl (Ym _ _)) rfl (Km (by simp[D.dep]))) (Zk (Zo rfl rfl (Yi _ _ _)) rfl (Km dp))))),?_⟩
 rw[BG,CJ,oi h]
def Cr {bx by':Int}(hx:0<bx)(cH:bx<=1000000)(hy:0<by')(da:by'<=1000000){t:Int×Int}(h1:-(14*bx)<=t.1/\t.1<=14*bx)(h2:-(14*by')<=t.2/\t.2<=14*by')(h:nz t=true):QT (Us bx by' t)/\(Us bx by' t).b<=1000000/\(Us bx by' t).d<=1000000:=by
 have nZ:(10:Nat) ^ 12=1000000000000:=rfl
 have key:∀{x b:Int},0<b->b<=1000000->-(14*b)<=x/\x<=14*b->Fr 12 (U0 x b).1 (U0 x b).2/\Int.gcd (U0 x b).1 (U0 x b).2=1/\((U0 x b).1.natAbs:Int)<=40*(U0 x b).2/\(U0 x b).2<=1000000/\((U0 x b).1=0↔x=0):=λ{x b} b0 b1 hb=>by
  obtain⟨p,q,e,q0,m,g,a1,a2⟩:=Yb (t:=x) b0
  rw[oj] at e
  obtain⟨e1,e2⟩:=Kt e
  rw[e1,e2]
  refine⟨⟨q0,by rw[nZ];lia,by rw[nZ];lia⟩,g,?_,by lia,?_⟩
  .have h1:(p.natAbs:Int)*b=x.natAbs*q:=by
    have:=congrArg Int.natAbs m
    rw[EK,EK] at this
    rw[show b=((b.natAbs:Nat):Int) by lia,show q=((q.natAbs:Nat):Int) by lia]
    exact_mod_cast this
   have h2:(x.natAbs:Int)*q<=14*b*q:=AS (by lia) (AI q0)
   rw[<-h1] at h2
   have h3:(p.natAbs:Int)*b<=(14*q)*b:=by rw[show 14*q*b=14*b*q by grind];exact h2
   have:=FR h3 b0
   lia
  .constructor
   .intro z;rw[z,CI] at m
    rcases BV.mp m.symm with w|w
    .exact w
    .lia
   .intro z;rw[z,CI] at m
    rcases BV.mp m with w|w
    .exact w
    .lia
 obtain⟨f1,g1,l1,b1,z1⟩:=key hx cH h1
 obtain⟨f2,g2,l2,b2,z2⟩:=key hy da h2
 refine⟨⟨f1,f2,g1,g2,?_,l1,l2⟩,b1,b2⟩
 by_cases q:t.1=0
 .refine .inr λz=>?_
  have:t.2=0:=z2.mp z
  unfold nz at h
  rw[q,this] at h
  cases h
 .exact .inl λz=>q (z1.mp z)
def Gg (bx by':Int)(r:(Int×Int)×List D):D:=.tup [Xt r.1.1 bx,Xt r.1.2 by',.lst r.2]
theorem Ib {hall:D}{ppl:List D}{q:U7}{one other most:D}{p o:Po4}(hp:Ys (.lst ppl) one=.ok p.D)(ho:Ys (.lst ppl) other=.ok o.D){bx by':Int}:∀(L:List (Int×Int)) (fo:List D),(∀t∈L,∃w pt tn,wD hall q p.D (Us bx by' t).D most=.ok (.tup [.str w,pt,.lst tn])/\Gf pt)->fo.length+L.length<=1000 ->
  ∃rows:List ((Int×Int)×List D),Wi hall ppl q one other most (L.map λt=>(Us bx by' t).D) fo=.ok (fo++rows.map (Gg bx by'))/\(rows.map (·.1)).Sublist L/\∀t tn,(t,tn)∈rows↔t∈L/\wD hall q p.D (Us bx by' t).D most=.ok (.tup [.str (Str.ofString "end"),o.D,.lst tn])
 |[],fo,_,_=>⟨[],by rw[show fo++([]:List ((Int×Int)×List D)).map (Gg bx by')=fo from BP _];rfl,List.Sublist.refl _,λt tn=>⟨λh=>(by cases h),λh=>(by cases h.1)⟩⟩
 |t::L,fo,hw,hl=>by
  rw[AH] at hl
  obtain⟨w,pt,tn,e,ip⟩:=hw t (.head _)
  obtain⟨b,eb,hb⟩:=L5 (w:=w) (tn:=tn) ip o
  have et:tY (Ma hall ppl one other most none none (Io (Us bx by' t).D) (Io (.tup [.str w,pt,.lst tn])))=.ok b:=Qn (Zw (aC rfl (Law.a1 (Zk rfl rfl ho))) eb rfl)
  have er:fV (Ma hall ppl one other most none none (Io (Us bx by' t).D) (Io (.tup [.str w,pt,.lst tn])))=.ok (Gg bx by' (t,tn)):=Ck (Zo rfl rfl (Ym _ _)) (Zo rfl rfl (Yi _ _ _)) (Zo rfl rfl (lG _ _ _ _))
  have run:Wi hall ppl q one other most ((t::L).map λt=>(Us bx by' t).D) fo=if b=true then(if few fo=true then Wi hall ppl q one other most (L.map λt=>(Us bx by' t).D) (fo++[Gg bx by' (t,tn)]) else .bad) else Wi hall ppl q one other most (L.map λt=>(Us bx by' t).D) fo:=by
   rw[AM]
   conv=>lhs;unfold Wi
   rw[hp,M.bind_ok,e,M.bind_ok,et,M.bind_ok,er,M.bind_ok]
  cases b with
  |false=>
   obtain⟨rows,e1,e2,e3⟩:=Ib hp ho L fo (λt ht=>hw t (.tail _ ht)) (by lia)
   refine⟨rows,by rw[run,AF (by decide)];exact e1,e2.cons _,λt' tn'=>?_⟩
   rw[e3,AW]
   constructor
   .exact λh=>⟨.inr h.1,h.2⟩
   .rintro⟨h|h,h2⟩
    .exfalso
     subst h
     rw[e] at h2
     injection h2 with h2
     injection h2 with h2
     injection h2 with h3 h2
     injection h3 with h3
     injection h2 with h4 _
     have:=hb.mpr ⟨h3,h4⟩
     cases this
    .exact⟨h,h2⟩
  |true=>
   obtain⟨rows,e1,e2,e3⟩:=Ib hp ho L (fo++[Gg bx by' (t,tn)]) (λt ht=>hw t (.tail _ ht)) (by rw[AJ,AZ];lia)
   obtain⟨rfl,rfl⟩:=hb.mp rfl
   refine⟨(t,tn)::rows,?_,e2.cons₂ _,λt' tn'=>?_⟩
   .rw[run,AD rfl,AD (Ks (by lia)),e1,ED]
    rfl
   .rw[AW,e3,AW]
    constructor
    .rintro(h|h)
     .cases h
      exact⟨.inl rfl,e⟩
     .exact⟨.inr h.1,h.2⟩
    .rintro⟨h|h,h2⟩
     .subst h
      rw[e] at h2
      injection h2 with h2
      injection h2 with h2
      injection h2 with _ h2
      injection h2 with _ h2
      injection h2 with h5 _
      injection h5 with h5
      exact .inl (by rw[h5])
     .exact .inr ⟨h,h2⟩
section
variable {W H:Nat}{ss:List Sd}{ps:List Po4}{q:U7}{m:Nat}
structure Ways (W H:Nat) (ss:List Sd) (q:U7) (m:Nat) (p o:Po4) (xs ys:List Int) (rows:List ((Int×Int)×List D)):Prop where
 tx:RF p.a p.b o.a o.b ((m+1)*W) xs
 ty:RF p.c p.d o.c o.d ((m+1)*H) ys
 sub:(rows.map (·.1)).Sublist ((xs.flatMap λx=>ys.map λy=>(x,y)).filter nz)
 mem:∀t tn,(t,tn)∈rows↔t∈(xs.flatMap λx=>ys.map λy=>(x,y)).filter nz/\wD (Qo W H ss) q p.D (Us (p.b*o.b) (p.d*o.d) t).D (.int m)=.ok (.tup [.str (Str.ofString "end"),o.D,.lst tn])
def Ul {n1 m1 n2 m2:Int}{R:Nat}{ts:List Int}(h:RF n1 m1 n2 m2 R ts)(hm:0<m1*m2)(hR:R<=14){t:Int}(ht:t∈ts):-(14*(m1*m2))<=t/\t<=14*(m1*m2):=by
 obtain⟨a,b,_⟩:=(h.mem t).mp ht
 have:=AS (show(R:Int)<=14 by lia) (AI hm)
 lia
def Ic (hW:W<=8)(hH:H<=8)(hl:ss.length<=400)(hp:∀p∈ps,PtOk W H p)(hq:Br [] (ps.map Po4.D)=some q)(e2:∀x y:Int,look q [.inl x,.inl y]=look [] [.inl x,.inl y]++(ps.filter (Wo x y)).map Po4.D)(lp:ps.length<=100){i j:Nat}{p o:Po4}(hi:ps[i]?=some p)(hj:ps[j]?=some o)(hm:m<=100)(hx:(m+1)*W<=14)(hy:(m+1)*H<=14):
  ∃xs ys rows,Ways W H ss q m p o xs ys rows/\F_ways [Qo W H ss,.lst (ps.map Po4.D),.int (i:Int),.int (j:Int),.int (m:Int)]=.ok (.ow (rows.map (Gg (p.b*o.b) (p.d*o.d)))):=by
 have op:=hp p (BZ hi)
 have oo:=hp o (BZ hj)
 obtain⟨xs,ys,tx,ty,lm,es⟩:=rT hW hH op oo hx hy
 obtain⟨B0,B1,C0,C1⟩:=gh hW hH op oo
 have gi:=aZ hi
 have gj:=aZ hj
 have hok:∀t∈(xs.flatMap λx=>ys.map λy=>(x,y)).filter nz,QT (Us (p.b*o.b) (p.d*o.d) t):=λt ht=>by
  obtain⟨h1,h2⟩:=DP.mp ht
  obtain⟨x,jV,h1⟩:=GC.mp h1
  obtain⟨y,jT,rfl⟩:=CH.mp h1
  exact(Cr B0 (by lia) C0 (by lia) (Ul tx B0 hx jV) (Ul ty C0 hy jT) h2).1
 have ll:=rS lm
 obtain⟨rows,r1,r2,r3⟩:=Ib (hall:=Qo W H ss) (q:=q) (most:=.int (m:Int)) gi gj (bx:=p.b*o.b) (by':=p.d*o.d) ((xs.flatMap λx=>ys.map λy=>(x,y)).filter nz) [] (λt ht=>by
  obtain⟨d,e1,_,_,_,_,_,w,pt,tn,rfl,ip,_⟩:=R5 (ss:=ss) (most:=m) hW hH hl hp e2 op.st (hok t ht) (by lia)
  exact⟨w,pt,tn,e1,ip⟩) (by simp;lia)
 rw[FO] at r1
 refine⟨xs,ys,rows,⟨tx,ty,r2,r3⟩,?_⟩
 have ei:iY (Ma (Qo W H ss) (ps.map Po4.D) (.int (i:Int)) (.int (j:Int)) (.int (m:Int)) none none none none)=.ok (((xs.flatMap λx=>ys.map λy=>(x,y)).filter nz).map λt=>(Us (p.b*o.b) (p.d*o.d) t).D):=by
  have t1:∀z:Nat,z<=8->Zt (.int ((m:Int)+1)) (.int (z:Int))=.ok (.int (((m+1)*z:Nat):Int)):=λz hz=>by
   rw[gT (Gx (by lia) (by lia)) (Gx (by lia) (by lia))]
   congr 2
  refine Gy (Zw (aC (Zk rfl rfl gi) (aC (Zk rfl rfl gj) (aC (Zk (Zk rfl rfl rfl) (Zo rfl rfl (Ym _ _)) (t1 W hW)) (Law.a1 (Zk (Zk rfl rfl rfl) (Zo rfl rfl (Yi _ _ _)) (t1 H hH)))))) es rfl)
 simp only[F_ways,hq]
 rw[AD (by rw[AC];lia),ei,M.bind_ok,AD (by rw[AC];lia),r1]
 rfl
end
def Zcd {sq h:Int}(hh:h=1\/h = -1):Yl sq (-h)=Yl sq h-h:=by
 unfold Yl
 rcases hh with rfl|rfl<;>simp<;>lia
def TI.mv1 {z:Nat}{T now:Int}{t:Tk}(h:TI z T now t)(q:t.h≠0):(t.h=1\/t.h = -1)/\0<t.lap:=by
 rcases h.mv with a|a
 .exact absurd a.1 q
 .exact⟨a.1,a.2.1⟩
def Fd {w:Str}{p p':D}{l l':List D} (h:D.tup [.str w,p,.lst l]=.tup [.str (Str.ofString "end"),p',.lst l']):w=Str.ofString "end"/\p=p'/\l=l':=by
 injection h with h
 injection h with h1 h
 injection h1 with h1
 injection h with h2 h
 injection h with h3 h
 injection h3 with h3
 exact⟨h1,h2,h3⟩
def Tk.num (t:Tk)(w:Int):Int:=t.line*t.lap-t.h*(t.due-w)
def oh {t:Tk}{n d:Int}(hd:0<d)(hh:t.h=1\/t.h = -1)(hl:0<t.lap)(hq:n/d=t.sq)(hn:∀k:Int,k*d≠n):(t.due-t.lap)*d<t.tm n d:=by
 have e:=FH n d
 have r0:=BQ n (Int.ne_of_gt hd)
 have r1:=BK n hd
 have hk:=hn (n/d)
 rw[hq] at e hk
 generalize n%d=r at *
 have r2:0<r:=by
  rcases KM r0 with z|z
  .exact z
  .rw[CN] at e;lia
 unfold Tk.tm Tk.line Yl
 rcases hh with hh|hh<;>rw[hh]
 .rw[AD (by decide)]
  have k:t.due*d-1*((t.sq+1)*d-n)*t.lap=(t.due-t.lap)*d+r*t.lap:=by grind
  rw[k]
  have:=AX r2 hl
  lia
 .rw[AF (by decide)]
  have k:t.due*d - -1*(t.sq*d-n)*t.lap=(t.due-t.lap)*d+(d-r)*t.lap:=by grind
  rw[k]
  have:=AX (show 0<d-r by lia) hl
  lia
def og {t:Tk}{n d now:Int}(hd:0<d)(hh:t.h=1\/t.h = -1)(hl:0<t.lap)(h1:t.due<=now+t.lap)(a:now*d<t.tm n d)(b:t.tm n d<t.due*d):n/d=t.sq:=by
 have a':(t.due-t.lap)*d<t.tm n d:=by
  have:=AS (show t.due-t.lap<=now by lia) (AI hd)
  lia
 unfold Tk.tm Tk.line Yl at a' b
 rcases hh with hh|hh<;>rw[hh] at a' b
 .rw[AD (by decide)] at a' b
  have k1:0<((t.sq+1)*d-n)*t.lap:=by lia
  have k2:((t.sq+1)*d-n)*t.lap<d*t.lap:=by rw[HV] at a';rw[CN d t.lap];lia
  have k3:=EX k1 hl
  have k4:=BM k2 (AI hl)
  rw[EY,DH] at k3 k4
  exact LY (KO.mp (JN hd (by rw[EY,DH];lia))) ((FD hd).mpr (by lia))
 .rw[AF (by decide)] at a' b
  have k1:0<(n-t.sq*d)*t.lap:=by grind
  have k2:(n-t.sq*d)*t.lap<d*t.lap:=by rw[HV] at a';rw[CN d t.lap];grind
  have k3:=EX k1 hl
  have k4:=BM k2 (AI hl)
  exact LY (KO.mp (JN hd (by rw[EY,DH];lia))) ((FD hd).mpr (by lia))
structure Cv (p:Po4):Prop where
 b:0<p.b
 d:0<p.d
 x:∀k:Int,k*p.b≠p.a
 y:∀k:Int,k*p.d≠p.c
section
variable {W H:Nat}{T now:Int}{t u:Tk}{p:Po4}{ss:List Sd}{ps:List Po4}{most:Nat}
def P6 (o:Cv p){x y:Int}(e:Yr t u p=some (x,y)):0<y:=by
 unfold Yr at e
 split at e
 .split at e
  .split at e
   .cases e;exact o.b
   .cases e
  .split at e
   .cases e;exact o.b
   .cases e
 .split at e
  .cases e;exact o.d
  .cases e
def rR (o:Cv p){x y:Int}(e:Yr t u p=some (x,y)):(t.h≠0->t.tm p.a p.b*y=x*p.b)/\(u.h≠0->u.tm p.c p.d*y=x*p.d)/\(t.h=0->p.a=t.n/\p.b=t.m)/\(t.h≠0->u.h=0->p.c=u.n/\p.d=u.m):=by
 unfold Yr at e
 by_cases ht:t.h=0
 .rw[AF (λz=>z ht)] at e
  split at e
  .rename_i c
   cases e
   exact⟨λz=>absurd ht z,λ_=>rfl,λ_=>c,λz=>absurd ht z⟩
  .cases e
 .rw[AD ht] at e
  by_cases hu:u.h=0
  .rw[AF (λz=>z hu)] at e
   split at e
   .rename_i c
    cases e
    exact⟨λ_=>rfl,λz=>absurd hu z,λz=>absurd z ht,λ_ _=>c⟩
   .cases e
  .rw[AD hu] at e
   split at e
   .rename_i c
    cases e
    exact⟨λ_=>rfl,λ_=>c.symm,λz=>absurd z ht,λ_ z=>absurd z hu⟩
   .cases e
def WS.sq_iff (h:WS W H T now t u)(o:Cv p){x y:Int}(e:Yr t u p=some (x,y)):(Wo t.sq u.sq p=true/\0<x/\x<T*y)↔(now*y<x/\x<Zr t u T*y):=by
 have y0:=P6 o e
 obtain⟨e1,e2,e3,e4⟩:=rR o e
 obtain⟨n1,n2,n3,n4⟩:=h.nxt
 constructor
 .rintro⟨hq,x0,xT⟩
  obtain⟨s1,s2,s3⟩:=h.soon o.b o.d (λk=>⟨o.x k,o.y k⟩) hq e
  obtain⟨q1,q2⟩:=BS hq
  constructor
  .rcases h.at0 with z|⟨hx,z⟩|⟨hy,z⟩
   .rw[z];lia
   .obtain⟨g1,l1⟩:=h.x.mv1 hx
    have:=oh o.b g1 l1 q1 o.x
    rw[z,show now+t.lap-t.lap=now by lia] at this
    have k:=BU this y0
    rw[e1 hx] at k
    exact BM (by rw[show now*y*p.b=now*p.b*y by grind];exact k) (AI o.b)
   .obtain⟨g1,l1⟩:=h.y.mv1 hy
    have:=oh o.d g1 l1 q2 o.y
    rw[z,show now+u.lap-u.lap=now by lia] at this
    have k:=BU this y0
    rw[e2 hy] at k
    exact BM (by rw[show now*y*p.d=now*p.d*y by grind];exact k) (AI o.d)
  .have d1:x<t.due*y:=by
    by_cases z:t.h=0
    .rcases h.x.mv with a|a
     .rw[a.2.1,EY];lia
     .rcases a.1 with q|q<;>lia
    .exact s2 z
   have d2:x<u.due*y:=by
    by_cases z:u.h=0
    .rcases h.y.mv with a|a
     .rw[a.2.1,EY];lia
     .rcases a.1 with q|q<;>lia
    .exact s3 z
   have:Zr t u T=t.due\/Zr t u T=u.due\/Zr t u T=T:=by unfold Zr;lia
   rcases this with z|z|z<;>rw[z]<;>assumption
 .rintro⟨a,b⟩
  have T0:Zr t u T*y<=T*y:=AS n2 (AI y0)
  have N0:0<=now*y:=CK h.n0 (AI y0)
  refine⟨BD ⟨?_,?_⟩,by lia,by lia⟩
  .by_cases z:t.h=0
   .rcases h.x.mv with q|q
    .rw[q.2.2,(e3 z).1,(e3 z).2]
    .rcases q.1 with r|r<;>lia
   .obtain⟨g1,l1⟩:=h.x.mv1 z
    have dl:t.due<=now+t.lap:=by
     rcases h.x.mv with q|q
     .exact absurd q.1 z
     .exact q.2.2.2
    have b':x<t.due*y:=KN b (AS n3 (AI y0))
    have k1:=BU a o.b
    have k2:=BU b' o.b
    rw[<-e1 z] at k1 k2
    exact og o.b g1 l1 dl (BM (by rw[show now*p.b*y=now*y*p.b by grind];exact k1) (AI y0)) (BM (by rw[show t.due*p.b*y=t.due*y*p.b by grind];exact k2) (AI y0))
  .by_cases z:u.h=0
   .rcases h.y.mv with q|q
    .have tz:t.h≠0:=by rcases h.mv with r|r;exact r;exact absurd z r
     rw[q.2.2,(e4 tz z).1,(e4 tz z).2]
    .rcases q.1 with r|r<;>lia
   .obtain⟨g1,l1⟩:=h.y.mv1 z
    have dl:u.due<=now+u.lap:=by
     rcases h.y.mv with q|q
     .exact absurd q.1 z
     .exact q.2.2.2
    have b':x<u.due*y:=KN b (AS n4 (AI y0))
    have k1:=BU a o.d
    have k2:=BU b' o.d
    rw[<-e2 z] at k1 k2
    exact og o.d g1 l1 dl (BM (by rw[show now*p.d*y=now*y*p.d by grind];exact k1) (AI y0)) (BM (by rw[show u.due*p.d*y=u.due*y*p.d by grind];exact k2) (AI y0))
def VY (t u:Tk)(p:Po4)(a b:Int):Bool:=(Yn (Yr t u p) a b).isSome
def Id {a b:Int}:VY t u p a b=true↔∃x y,Yr t u p=some (x,y)/\a*y<x/\x<b*y:=by
 unfold VY Yn
 cases e:Yr t u p with
 |none=>simp
 |some xy=>
  obtain⟨x,y⟩:=xy
  dsimp only
  split
  .rename_i h
   simp only[KF,true_iff]
   exact⟨x,y,rfl,h⟩
  .rename_i h
   constructor
   .intro z;cases z
   .rintro⟨x',y',z,h'⟩
    cases z
    exact absurd h' h
def WS.ahead1 (h:WS W H T now t u)(o:Cv p):Kk [p] T t u=none↔VY t u p now (Zr t u T)=false:=by
 rw[FV,MD,Id]
 unfold Kk
 constructor
 .rintro hn ⟨x,y,e,ab⟩
  obtain⟨hq,x0,xT⟩:=(h.sq_iff o e).mpr ab
  rw[DU hq,IA,HZ,MI,R1 (Wf e ⟨by lia,xT⟩)] at hn
  cases hn
 .intro hn
  cases hq:Wo t.sq u.sq p with
  |false=>rw[EW (by rw[hq];decide)];rfl
  |true=>
   rw[DU hq,IA,HZ,MI]
   refine Jv ?_
   cases e:Yr t u p with
   |none=>rfl
   |some xy=>
    obtain⟨x,y⟩:=xy
    refine V4 rfl λz=>hn ⟨x,y,e,(h.sq_iff o e).mp ⟨hq,by lia,z.2⟩⟩
theorem Fe {c:Po4->Option (Int×Int)}:∀(l:List Po4) (b:WK),l.foldl (Jg c) b=none->b=none
 |[],_,h=>h
 |q::l,b,h=>by
  have:=Fe l _ h
  cases b with
  |none=>rfl
  |some s=>
   obtain⟨a,x,y⟩:=s
   unfold Jg at this
   split at this
   .cases this
   .dsimp only at this
    split at this<;>cases this
def Bz (a b:List Po4)(h:Kk a T t u=none):Kk (a++b) T t u=Kk b T t u:=by
 unfold Kk at h ⊢
 rw[HD,KU,h]
def Ie (a b:List Po4)(h:Kk (a++b) T t u=none):Kk a T t u=none:=by
 unfold Kk at h ⊢
 rw[HD,KU] at h
 exact Fe _ _ h
theorem rP {W H:Int}{a b:List Po4}{pt:D}{l:List D}:∀(n:Nat) (t u:Tk) (tn:List D),wk W H ss (a++b) T most n t u tn=some (.tup [.str (Str.ofString "end"),pt,.lst l])->wk W H ss a T most n t u tn=some (.tup [.str (Str.ofString "end"),pt,.lst l])
 |0,_,_,_,h=>by cases h
 |n+1,t,u,tn,h=>by
  unfold wk at h ⊢
  cases ha:Kk (a++b) T t u with
  |some x=>
   obtain⟨p,xy⟩:=x
   rw[ha] at h
   injection h with h
   exact absurd (Fd h).1 (by decide)
  |none=>
   rw[ha] at h
   rw[Ie a b ha]
   dsimp only at h ⊢
   cases hw:Jw (MQ W H ss t u (Zr t u T)) (decide (Zr t u T=T)) (decide (tn.length<most)) with
   |some w=>rw[hw] at h;exact h
   |none=>rw[hw] at h;exact rP n _ _ _ h
def L6 {z:Nat}{t:Tk}{n':Int}{th:Th}(ti:TI z T now t)(hm:th.mir=false):(Qu t n' th).h=t.h/\(Qu t n' th).lap=t.lap/\(Qu t n' th).n=t.n/\(Qu t n' th).m=t.m/\(t.h≠0->∀w,(Qu t n' th).num w=t.num w)/\(t.h≠0->∀n d,(Qu t n' th).tm n d=t.tm n d):=by
 unfold Qu
 split
 .rw[hm,AF (by decide)]
  refine⟨rfl,rfl,rfl,rfl,λq w=>?_,λq n d=>?_⟩
  .obtain⟨g,_⟩:=ti.mv1 q
   have el:Yl (t.sq+t.h) t.h=Yl t.sq t.h+t.h:=by unfold Yl;split<;>lia
   unfold Tk.num Tk.line
   dsimp only
   rw[el]
   grind
  .obtain⟨g,_⟩:=ti.mv1 q
   have el:Yl (t.sq+t.h) t.h=Yl t.sq t.h+t.h:=by unfold Yl;split<;>lia
   unfold Tk.tm Tk.line
   dsimp only
   rw[el]
   have hh:t.h*t.h=1:=by rcases g with q|q<;>rw[q]<;>rfl
   have:t.h*((Yl t.sq t.h+t.h)*d-n)*t.lap=t.h*(Yl t.sq t.h*d-n)*t.lap+t.h*t.h*d*t.lap:=by grind
   rw[this,hh]
   grind
 .exact⟨rfl,rfl,rfl,rfl,λ_ _=>rfl,λ_ _ _=>rfl⟩
def rO {z:Nat}{t:Tk}{n':Int}{th:Th}(ti:TI z T now t)(hm:th.mir=false)(w:Int):place (Qu t n' th) w=place t w:=by
 obtain⟨a,b,c,d,e,_⟩:=L6 (n':=n') ti hm
 unfold place
 rw[a,c,d]
 by_cases q:t.h=0
 .rw[AD q,AD q]
 .rw[AF q,AF q,b]
  have:=e q w
  unfold Tk.num at this
  rw[a,b] at this
  rw[this]
def Zcf {n':Int}{th:Th}(h:WS W H T now t u)(hm:th.mir=false):Yr (Qu t n' th) (Qu u n' th) p=Yr t u p:=by
 obtain⟨a,b,c,d,_,f⟩:=L6 (n':=n') h.x hm
 obtain⟨a',b',c',d',_,f'⟩:=L6 (n':=n') h.y hm
 unfold Yr
 rw[a,a',c,d,c',d']
 by_cases q:t.h=0
 .have q':u.h≠0:=by rcases h.mv with r|r;exact absurd q r;exact r
  simp only[q,MD,KP,DM,f' q']
 .by_cases q':u.h=0
  .simp only[q,q',MD,KP,KQ,DW,DM,f q]
  .simp only[q,q',MD,KQ,DW,f q,f' q']
def L7 {z:Nat}{t:Tk}{n':Int}{th:Th}(ti:TI z T now t)(hm:th.mir=true):place (Qu t n' th) n'=place t n':=by
 unfold Qu
 by_cases hd:t.due=n'
 .rw[AD hd,AD hm]
  unfold place
  dsimp only
  by_cases q:t.h=0
  .rw[AD q,AD (by lia)]
  .obtain⟨g,l0⟩:=ti.mv1 q
   rw[AF q,AF (by lia)]
   have el:=Zcd (sq:=t.sq) g
   congr 1
   unfold Tk.line
   dsimp only
   rw[el,hd]
   grind
 .rw[AF hd]
def WS.not_at (h:WS W H T now t u)(o:Cv p){x y:Int}(e:Yr t u p=some (x,y))(hl:Zr t u T<T):x≠Zr t u T*y:=by
 have y0:=P6 o e
 obtain⟨e1,e2,_⟩:=rR o e
 intro z
 have key:∀{t:Tk}{n d:Int},(t.h=1\/t.h = -1)->0<t.lap->0<d->(∀k:Int,k*d≠n)->t.tm n d≠t.due*d:=λ{t n d} g l0 d0 hn q=>by
  unfold Tk.tm at q
  have k1:t.h*(t.line*d-n)*t.lap=0:=by
   generalize t.h*(t.line*d-n)*t.lap=X at q ⊢
   generalize t.due*d=Y at q
   lia
  rcases BV.mp k1 with k|k
  .rcases BV.mp k with k|k
   .rcases g with r|r<;>lia
   .exact hn t.line (by lia)
  .lia
 have:(Zr t u T=t.due/\t.h≠0)\/(Zr t u T=u.due/\u.h≠0):=by
  have hx:t.h=0->t.due=T+1:=λq=>by rcases h.x.mv with a|a;exact a.2.1;rcases a.1 with r|r<;>lia
  have hy:u.h=0->u.due=T+1:=λq=>by rcases h.y.mv with a|a;exact a.2.1;rcases a.1 with r|r<;>lia
  unfold Zr at hl ⊢
  by_cases q1:t.h=0<;>by_cases q2:u.h=0
  .rw[hx q1,hy q2] at hl;lia
  .exact .inr ⟨by have:=hx q1;lia,q2⟩
  .exact .inl ⟨by have:=hy q2;lia,q1⟩
  .rcases Int.le_total t.due u.due with r|r
   .exact .inl ⟨by lia,q1⟩
   .exact .inr ⟨by lia,q2⟩
 rcases this with⟨q,hq⟩|⟨q,hq⟩<;>rw[q] at z
 .obtain⟨g,l0⟩:=h.x.mv1 hq
  have:=e1 hq
  rw[z] at this
  exact key g l0 o.b o.x (CD (show y≠0 by lia) (by rw[this,DG,CN y,<-DG]))
 .obtain⟨g,l0⟩:=h.y.mv1 hq
  have:=e2 hq
  rw[z] at this
  exact key g l0 o.d o.y (CD (show y≠0 by lia) (by rw[this,DG,CN y,<-DG]))
end
abbrev YZ:=Tk×Tk×Int×Int
def sA (s:YZ):D:=Xb s.1 s.2.1 s.2.2.1
def sB (s:YZ):D:=Xb s.1 s.2.1 s.2.2.2
def YN (p:Po4)(s:YZ):Bool:=VY s.1 s.2.1 p s.2.2.1 s.2.2.2
def WJ (z:Nat)(a b:Int):Prop:=0<b/\0<=a/\a<=(z:Int)*b
def ka (W H:Nat)(d:D):Prop:=∃a b c e,d=.tup [nD a b,nD c e]/\WJ W a b/\WJ H c e
def oa {z:Nat}{T now w:Int}{t:Tk}(ti:TI z T now t)(h1:now<=w)(h2:w<=t.due):∃a b,place t w=nD a b/\WJ z a b:=by
 unfold place
 by_cases h:t.h=0
 .rw[AD h]
  have q0:=ti.pn.p0
  have q1:=ti.pn.p1
  exact⟨_,_,rfl,ti.pn.fr.pos,by lia,by lia⟩
 .rw[AF h]
  obtain⟨g,l0⟩:=ti.mv1 h
  have dl:t.due<=now+t.lap:=by
   rcases ti.mv with q|q
   .exact absurd q.1 h
   .exact q.2.2.2
  have s0:=ti.s0
  have s1:=ti.s1
  have n0:0<=t.line*t.lap-t.h*(t.due-w)/\t.line*t.lap-t.h*(t.due-w)<=(z:Int)*t.lap:=by
   unfold Tk.line Yl
   have k0:=CK s0 (AI l0)
   have k1:(t.sq+1)*t.lap<=(z:Int)*t.lap:=AS (by lia) (AI l0)
   rw[EY,DH] at k1
   rcases g with g|g<;>rw[g]
   .rw[AD (by decide),EY,DH,DH];lia
   .rw[AF (by decide),Int.neg_mul,DH];lia
  obtain⟨p,q,e,q0,m,_⟩:=Yb (t:=t.line*t.lap-t.h*(t.due-w)) (b:=t.lap) l0
  refine⟨p,q,e,q0,?_,?_⟩
  .have:=CK n0.1 (AI q0)
   rw[<-m] at this
   rcases FC p 0 with r|r
   .have:=FS r l0;lia
   .exact r
  .have:=AS n0.2 (AI q0)
   rw[<-m] at this
   exact FR (by rw[show(z:Int)*q*t.lap=z*t.lap*q by grind];exact this) l0
def WS.inH {W H:Nat}{T now w:Int}{t u:Tk}(h:WS W H T now t u)(h1:now<=w)(h2:w<=Zr t u T):ka W H (Xb t u w):=by
 have nx:=h.nxt
 obtain⟨a,b,e1,i1⟩:=oa h.x h1 (by lia)
 obtain⟨c,d,e2,i2⟩:=oa h.y h1 (by lia)
 refine⟨a,b,c,d,?_,i1,i2⟩
 unfold Xb
 rw[e1,e2]
structure UD (W H:Nat) (T:Int) (s:YZ):Prop where
 ws:∃now,WS W H T now s.1 s.2.1
 lt:s.2.2.1<s.2.2.2
 a0:0<=s.2.2.1
 bT:s.2.2.2<=T
 pA:Gf (sA s)
 pB:Gf (sB s)
 iA:ka W H (sA s)
 iB:ka W H (sB s)
section
variable {W H:Nat}{T now:Int}{t u:Tk}{ss:List Sd}{ps:List Po4}{most:Nat}
def Zfq {p:Po4}(o:Cv p){a b c:Int}(hx:∀x y,Yr t u p=some (x,y)->x≠b*y)(ab:a<=b)(bc:b<=c):VY t u p a c=false↔VY t u p a b=false/\VY t u p b c=false:=by
 simp only[FV,MD,Id]
 constructor
 .intro h
  refine⟨fun⟨x,y,e,p1,p2⟩=>h ⟨x,y,e,p1,?_⟩,fun⟨x,y,e,p1,p2⟩=>h ⟨x,y,e,?_,p2⟩⟩
  .have:=AS bc (AI (P6 o e));lia
  .have:=AS ab (AI (P6 o e));lia
 .rintro⟨h1,h2⟩ ⟨x,y,e,p1,p2⟩
  have:=hx x y e
  rcases Int.lt_or_gt_of_ne this with z|z
  .exact h1 ⟨x,y,e,p1,z⟩
  .exact h2 ⟨x,y,e,z,p2⟩
def qH (wi:WS W H T now t u)(lx:t.lap<=Jx)(ly:u.lap<=Jx)(t1:T<=Jx){w:Int}(w0:0<=w)(w1:w<=T):Gf (Xb t u w):=by
 obtain⟨p,q,e1,f1,g1⟩:=Pz wi.x lx wi.n0 wi.n1 t1 w0 w1
 obtain⟨p',q',e2,f2,g2⟩:=Pz wi.y ly wi.n0 wi.n1 t1 w0 w1
 refine⟨p,q,p',q',?_,f1,g1,f2,g2⟩
 unfold Xb
 rw[e1,e2]
theorem oB (t1:T<=Jx){pt:D}{l:List D}:∀(n:Nat) (t u:Tk) (tn:List D) (now:Int),WS W H T now t u->t.lap<=Jx->u.lap<=Jx->wk W H ss ps T most n t u tn=some (.tup [.str (Str.ofString "end"),pt,.lst l]) ->
  ∃(b:Int) (rest:List YZ) (tl:List D),l=tn++tl/\rest.map sA=tl/\Xb t u b::rest.map sB=tl++[pt]/\(∀s∈(t,u,now,b)::rest,UD W H T s)/\Zr t u T<=b /\
   ∀p,Cv p->(wk W H ss (ps++[p]) T most n t u tn=some (.tup [.str (Str.ofString "end"),pt,.lst l])↔VY t u p now b=false/\∀s∈rest,YN p s=false)
 |0,_,_,_,_,_,_,_,h=>by cases h
 |n+1,t,u,tn,now,wi,lx,ly,h=>by
  have nx:=wi.nxt
  have n0:=wi.n0
  unfold wk at h
  cases ha:Kk ps T t u with
  |some x=>
   obtain⟨p,xy⟩:=x
   rw[ha] at h
   injection h with h
   exact absurd (Fd h).1 (by decide)
  |none=>
   rw[ha] at h
   dsimp only at h
   have pA:=qH wi lx ly t1 n0 (AI wi.n1)
   have pB:=qH wi lx ly t1 (show 0<=Zr t u T by lia) nx.2.1
   have iA:=wi.inH (FU _) (AI nx.1)
   have iB:=wi.inH (AI nx.1) (FU _)
   have one:∀p,Cv p->wk W H ss (ps++[p]) T most (n+1) t u tn=some (.tup [.str (Str.ofString "end"),pt,.lst l])->VY t u p now (Zr t u T)=false:=λp o hh=>by
    unfold wk at hh
    rw[Bz ps [p] ha] at hh
    cases hq:Kk [p] T t u with
    |none=>exact(wi.ahead1 o).mp hq
    |some x=>
     obtain⟨p',xy⟩:=x
     rw[hq] at hh
     injection hh with hh
     exact absurd (Fd hh).1 (by decide)
   have two:∀p,Cv p->VY t u p now (Zr t u T)=false->wk W H ss (ps++[p]) T most (n+1) t u tn=match Jw (MQ W H ss t u (Zr t u T)) (decide (Zr t u T=T)) (decide (tn.length<most)) with
     |some w=>some (.tup [.str w,Xb t u (Zr t u T),.lst tn])
     |none=>wk W H ss (ps++[p]) T most n (Qu t (Zr t u T) (MQ W H ss t u (Zr t u T))) (Qu u (Zr t u T) (MQ W H ss t u (Zr t u T))) (if(MQ W H ss t u (Zr t u T)).mir=true then tn++[Xb t u (Zr t u T)] else tn):=λp o uO=>by
    conv=>lhs;unfold wk
    rw[Bz ps [p] ha,(wi.ahead1 o).mpr uO]
    try rfl
   cases hw:Jw (MQ W H ss t u (Zr t u T)) (decide (Zr t u T=T)) (decide (tn.length<most)) with
   |some w=>
    rw[hw] at h two
    injection h with h
    obtain⟨rfl,rfl,rfl⟩:=Fd h
    refine⟨Zr t u T,[],[],(BP _).symm,rfl,rfl,λs hs=>?_,FU _,λp o=>?_⟩
    .rw[CU.mp hs]
     exact⟨⟨now,wi⟩,nx.1,n0,nx.2.1,pA,pB,iA,iB⟩
    .exact⟨λhh=>⟨one p o hh,λ_ hs=>by cases hs⟩,λhh=>two p o hh.1⟩
   |none=>
    rw[hw] at h two
    dsimp only at h two
    have nT:Zr t u T<T:=by have:=HB (Gu hw).1;lia
    have rn:=wi.step hw
    obtain⟨b,rest,tl,i1,i2,i3,i4,i6,i5⟩:=oB t1 n _ _ _ _ rn (by rw[K2];exact lx) (by rw[K2];exact ly) h
    cases hm:(MQ W H ss t u (Zr t u T)).mir with
    |true=>
     rw[hm,AD rfl,ED] at i1
     refine⟨Zr t u T,(Qu t (Zr t u T) (MQ W H ss t u (Zr t u T)),Qu u (Zr t u T) (MQ W H ss t u (Zr t u T)),Zr t u T,b)::rest,Xb t u (Zr t u T)::tl,i1,?_,?_,?_,FU _,λp o=>?_⟩
     .rw[AM,i2]
      congr 1
      show Xb _ _ _=_
      unfold Xb
      dsimp only
      rw[L7 wi.x hm,L7 wi.y hm]
     .rw[AM,GF]
      exact congrArg _ i3
     .intro s hs
      rcases AW.mp hs with rfl|hs
      .exact⟨⟨now,wi⟩,nx.1,n0,nx.2.1,pA,pB,iA,iB⟩
      .exact i4 s hs
     .constructor
      .intro hh
       have q:=one p o hh
       rw[two p o q] at hh
       obtain⟨j1,j2⟩:=(i5 p o).mp hh
       refine⟨q,λs hs=>?_⟩
       rcases AW.mp hs with rfl|hs
       .exact j1
       .exact j2 s hs
      .rintro⟨q,hs⟩
       rw[two p o q]
       exact(i5 p o).mpr ⟨hs _ (.head _),λs hs'=>hs s (.tail _ hs')⟩
    |false=>
     rw[hm,AF (by decide)] at i1
     have ok0:=i4 _ (.head _)
     have mY:Zr t u T<b:=ok0.lt
     have WH:∀w,Xb (Qu t (Zr t u T) (MQ W H ss t u (Zr t u T))) (Qu u (Zr t u T) (MQ W H ss t u (Zr t u T))) w=Xb t u w:=λw=>by
      unfold Xb
      rw[rO wi.x hm,rO wi.y hm]
     have nQ:∀p a c,VY (Qu t (Zr t u T) (MQ W H ss t u (Zr t u T))) (Qu u (Zr t u T) (MQ W H ss t u (Zr t u T))) p a c=VY t u p a c:=λp a c=>by
      unfold VY
      rw[Zcf wi hm]
     rw[WH] at i3
     refine⟨b,rest,tl,i1,i2,i3,?_,AI mY,λp o=>?_⟩
     .intro s hs
      rcases AW.mp hs with rfl|hs
      .refine⟨⟨now,wi⟩,by show now<b;lia,n0,ok0.bT,pA,?_,iA,?_⟩
       .have:=ok0.pB
        unfold sB at this
        rw[WH] at this
        exact this
       .have:=ok0.iB
        unfold sB at this
        rw[WH] at this
        exact this
      .exact i4 s (.tail _ hs)
     .have sp:=Zfq (t:=t) (u:=u) o (a:=now) (b:=Zr t u T) (c:=b) (λx y e=>wi.not_at o e nT) (AI nx.1) (AI mY)
      rw[sp]
      constructor
      .intro hh
       have q:=one p o hh
       rw[two p o q] at hh
       obtain⟨j1,j2⟩:=(i5 p o).mp hh
       rw[nQ] at j1
       exact⟨⟨q,j1⟩,j2⟩
      .rintro⟨⟨q,j1⟩,j2⟩
       rw[two p o q]
       exact(i5 p o).mpr ⟨by rw[nQ];exact j1,j2⟩
end
def R6 {a b c d g:Int}{k:Nat}(h1:Fr k a b)(h2:Fr k c d)(hk:k<=400)(hg:g=1\/g = -1):Jr [nD a b,nD c d,.int g]=.ok (.im (Xt (a*d+g*c*b) (b*d))):=by
 have k9:k<=900:=by lia
 have sa:=Qk h1.top k9
 have sb:=Qk h1.bot k9
 have sc:=Qk h2.top k9
 have sd:=Qk h2.bot k9
 have sg:sm g=true:=by rcases hg with q|q<;>rw[q]<;>exact Gx (by decide) (by decide)
 have gc:(g*c).natAbs<=10 ^ k:=by
  have:=h2.top
  rcases hg with q|q<;>rw[q]
  .rw[DH];exact this
  .rw[Int.neg_mul,DH,Int.natAbs_neg];exact this
 have sG:=Qk gc k9
 have x1:(a*d).natAbs<=10 ^ (k+k):=Qb h1.top h2.bot
 have x2:(g*c*b).natAbs<=10 ^ (k+k):=Qb gc h1.bot
 have x3:(b*d).natAbs<=10 ^ (k+k):=Qb h1.bot h2.bot
 have e1:(10:Nat) ^ (k+k+1)=10*10 ^ (k+k):=by rw[Nat.pow_succ,JC]
 have fl:=lV (k:=k+k+1) (t:=a*d+g*c*b) (b:=b*d) ⟨AX h1.pos h2.pos,by rw[e1];generalize (10:Nat) ^ (k+k)=Z at *;lia,by rw[e1];generalize (10:Nat) ^ (k+k)=Z at *;lia⟩ (by lia)
 exact(WL _ _ _ _ _).trans (Z9 (Z7 (Zw (aC (Zk (Zk (Zo rfl rfl (Ym _ _)) (Zo rfl rfl (Yi _ _ _)) (gT sa sd)) (Zk (Zk rfl (Zo rfl rfl (Ym _ _)) (gT sg sc)) (Zo rfl rfl (Yi _ _ _)) (gT sG sb)) rfl) (Law.a1 (Zk (Zo rfl rfl (Yi _ _ _)) (Zo rfl rfl (Yi _ _ _)) (gT sb sd)))) fl rfl)))
def Cs {a b c d:Int}{k:Nat}(h1:Fr k a b)(h2:Fr k c d)(hk:k<=400):Xs [nD a b,nD c d]=.ok (.im (.bl (decide (a*d<c*b)))):=by
 have k9:k<=900:=by lia
 exact(Oq _ _ _ _).trans (Z9 (Z7 (Zk (Zk (Zo rfl rfl (Ym _ _)) (Zo rfl rfl (Yi _ _ _)) (gT (Qk h1.top k9) (Qk h2.bot k9))) (Zk (Zo rfl rfl (Ym _ _)) (Zo rfl rfl (Yi _ _ _)) (gT (Qk h2.top k9) (Qk h1.bot k9))) rfl)))
noncomputable def fD:Zg->M O:=(Zz (Rh 8 9 (Zc (Zn Ys (Zd 0) (Zd 7)) (Zc (Zn Ys (Zd 1) (Zd 7)) Zj)))
   (Zz (Js (DL.tB (Zu Xs (Zc (Zd 9) (Zc (Zd 8) Zj)))) (Rh 8 9 (Zc (Zd 9) (Zc (Zd 8) Zj))) Yp)
   (Js (DL.tB (Zn Gv (Zd 8) (Zd 9))) (Qs (Re (Zu Xs (Zc (Zd 8) (Zc (Zn Ys (Zd 2) (Zd 7)) Zj))) (Zu Xs (Zc (Zn Ys (Zd 2) (Zd 7)) (Zc (Zd 9) Zj))))) Yp)))
def cZ (a b c d n e:Int):Bool:=if c*b<a*d then decide (c*e<n*d)&&decide (n*b<a*e) else decide (a*e<n*b)&&decide (n*d<c*e)
def rN (o3 o4 o5 o6:Option S){dA dB dP:List D}(k:Nat){a b c d n e:Int}(eA:Nw dA (k:Int)=some (nD a b))(eB:Nw dB (k:Int)=some (nD c d))(eP:Nw dP (k:Int)=some (nD n e))(fA:Fr 93 a b)(fB:Fr 93 c d)(fP:Fr 93 n e)(v8 v9:Option S):
  ((a=c/\b=d)->∃w8 w9:Option S,fD [Io (.tup dA),Io (.tup dB),Io (.tup dP),o3,o4,o5,o6,Jo (k:Int),v8,v9]=.ok (.nx [Io (.tup dA),Io (.tup dB),Io (.tup dP),o3,o4,o5,o6,Jo (k:Int),w8,w9])) /\
  (¬(a=c/\b=d)->fD [Io (.tup dA),Io (.tup dB),Io (.tup dP),o3,o4,o5,o6,Jo (k:Int),v8,v9]=.ok (.rt (.im (.bl (cZ a b c d n e))))):=by
 have p1:Rh 8 9 (Zc (Zn Ys (Zd 0) (Zd 7)) (Zc (Zn Ys (Zd 1) (Zd 7)) Zj)) [Io (.tup dA),Io (.tup dB),Io (.tup dP),o3,o4,o5,o6,Jo (k:Int),v8,v9]=.ok (.nx [Io (.tup dA),Io (.tup dB),Io (.tup dP),o3,o4,o5,o6,Jo (k:Int),Io (nD a b),Io (nD c d)]):=by
  unfold Rh
  rw[aC (Zo rfl rfl eA) (Law.a1 (Zo rfl rfl eB))]
  rfl
 have c1:DL.tB (Zu Xs (Zc (Zd 9) (Zc (Zd 8) Zj))) [Io (.tup dA),Io (.tup dB),Io (.tup dP),o3,o4,o5,o6,Jo (k:Int),Io (nD a b),Io (nD c d)]=.ok (decide (c*b<a*d)):=Qn (Zw (aC rfl (Law.a1 rfl)) (Cs fB fA (by decide)) rfl)
 have c2:∀x y z w:Int,DL.tB (Zn Gv (Zd 8) (Zd 9)) [Io (.tup dA),Io (.tup dB),Io (.tup dP),o3,o4,o5,o6,Jo (k:Int),Io (nD x y),Io (nD z w)]=.ok (!decide (x=z/\y=w)):=λx y z w=>Qn (Zk (x:=nD x y) (y:=nD z w) rfl rfl (by rw[Uz (Cg _ _),Et]))
 have fin:∀x y z w:Int,Fr 93 x y->Fr 93 z w->(Qs (Re (Zu Xs (Zc (Zd 8) (Zc (Zn Ys (Zd 2) (Zd 7)) Zj))) (Zu Xs (Zc (Zn Ys (Zd 2) (Zd 7)) (Zc (Zd 9) Zj))))) [Io (.tup dA),Io (.tup dB),Io (.tup dP),o3,o4,o5,o6,Jo (k:Int),Io (nD x y),Io (nD z w)]=.ok (.rt (.im (.bl (decide (x*e<n*y)&&decide (n*w<z*e))))):=λx y z w f1 f2=>
  Z7 (Hv (Zw (aC rfl (Law.a1 (Zo rfl rfl eP))) (Cs f1 fP (by decide)) rfl) (Zw (aC (Zo rfl rfl eP) (Law.a1 rfl)) (Cs fP f2 (by decide)) rfl))
 unfold cZ
 by_cases q:c*b<a*d
 .rw[BD q] at c1
  have p2:Rh 8 9 (Zc (Zd 9) (Zc (Zd 8) Zj)) [Io (.tup dA),Io (.tup dB),Io (.tup dP),o3,o4,o5,o6,Jo (k:Int),Io (nD a b),Io (nD c d)]=.ok (.nx [Io (.tup dA),Io (.tup dB),Io (.tup dP),o3,o4,o5,o6,Jo (k:Int),Io (nD c d),Io (nD a b)]):=rfl
  rw[AD q]
  refine⟨λz=>?_,λz=>?_⟩
  .rw[z.1,z.2] at q;lia
  .exact go p1 (go (Qj c1 p2) (Qj (by rw[c2,BI (λr=>z ⟨r.1.symm,r.2.symm⟩)];rfl) (fin _ _ _ _ fB fA)))
 .rw[BI q] at c1
  rw[AF q]
  refine⟨λz=>⟨_,_,go p1 (go (Z1 c1) (Z1 (by rw[c2,BD z];rfl)))⟩,λz=>?_⟩
  exact go p1 (go (Z1 c1) (Qj (by rw[c2,BI z];rfl) (fin _ _ _ _ fA fB)))
def kz (a1 a2 a3 a4 b1 b2 b3 b4 n1 d1 n2 d2 p1 q1 p2 q2 p3 q3 p4 q4:Int):Bool:=decide (p1*p4*q2*q3=p2*p3*q1*q4)&&(if a1=b1/\a2=b2 then(if a3=b3/\a4=b4 then false else cZ a3 a4 b3 b4 n2 d2) else cZ a1 a2 b1 b2 n1 d1)
def Tc {g:D->Zg->M Zg}{f:Zg->M O}{d:D}{r:List D}{sd sd1:Zg}{s:S}(h1:g d sd=.ok sd1)(h2:f sd1=.ok (.rt s)):Xx g f (d::r) sd=.ok (.rt s):=by
 simp only[Xx,h1,h2,M.bind_ok]
def Zip {a1 a2 a3 a4 b1 b2 b3 b4 n1 d1 n2 d2:Int}(fA:Fr 93 a1 a2)(fA':Fr 93 a3 a4)(fB:Fr 93 b1 b2)(fB':Fr 93 b3 b4)(fP:Fr 93 n1 d1)(fP':Fr 93 n2 d2):∃p1 q1 p2 q2 p3 q3 p4 q4:Int,0<q1/\0<q2/\0<q3/\0<q4/\p1*(b2*a2)=(b1*a2-a1*b2)*q1/\p2*(b4*a4)=(b3*a4-a3*b4)*q2/\p3*(d1*a2)=(n1*a2-a1*d1)*q3/\p4*(d2*a4)=(n2*a4-a3*d2)*q4 /\
  J3 [.tup [nD a1 a2,nD a3 a4],.tup [nD b1 b2,nD b3 b4],.tup [nD n1 d1,nD n2 d2]]=.ok (.im (.bl (kz a1 a2 a3 a4 b1 b2 b3 b4 n1 d1 n2 d2 p1 q1 p2 q2 p3 q3 p4 q4))):=by
 have s1:=R6 fB fA (by decide) (.inr rfl)
 have s2:=R6 fB' fA' (by decide) (.inr rfl)
 have s3:=R6 fP fA (by decide) (.inr rfl)
 have s4:=R6 fP' fA' (by decide) (.inr rfl)
 have bd:∀{a b c d:Int},Fr 93 a b->Fr 93 c d->(a*d + -1*c*b).natAbs<=10 ^ 187/\(b*d).natAbs<=10 ^ 187:=λ{a b c d} f g=>by
  have x1:(a*d).natAbs<=10 ^ (93+93):=Qb f.top g.bot
  have x2:(c*b).natAbs<=10 ^ (93+93):=Qb g.top f.bot
  have x3:(b*d).natAbs<=10 ^ (93+93):=Qb f.bot g.bot
  have e:(10:Nat) ^ 187=10*10 ^ (93+93):=rfl
  rw[e]
  generalize (10:Nat) ^ (93+93)=Z at *
  rw[DG]
  generalize a*d=u at *
  generalize c*b=v at *
  lia
 obtain⟨p1,q1,e1,z1,m1,_,l1,k1⟩:=Yb (t:=b1*a2 + -1*a1*b2) (b:=b2*a2) (AX fB.pos fA.pos)
 obtain⟨p2,q2,e2,z2,m2,_,l2,k2⟩:=Yb (t:=b3*a4 + -1*a3*b4) (b:=b4*a4) (AX fB'.pos fA'.pos)
 obtain⟨p3,q3,e3,z3,m3,_,l3,k3⟩:=Yb (t:=n1*a2 + -1*a1*d1) (b:=d1*a2) (AX fP.pos fA.pos)
 obtain⟨p4,q4,e4,z4,m4,_,l4,k4⟩:=Yb (t:=n2*a4 + -1*a3*d2) (b:=d2*a4) (AX fP'.pos fA'.pos)
 rw[e1] at s1
 rw[e2] at s2
 rw[e3] at s3
 rw[e4] at s4
 have B1:=bd fB fA
 have B2:=bd fB' fA'
 have B3:=bd fP fA
 have B4:=bd fP' fA'
 have sp:∀{p q t b:Int},0<q->t.natAbs<=10 ^ 187/\b.natAbs<=10 ^ 187->p.natAbs<=t.natAbs->q<=b->p.natAbs<=10 ^ 187/\q.natAbs<=10 ^ 187:=λ{p q t b} h0 h1 h2 h3=>⟨BA h2 h1.1,BA (by lia) h1.2⟩
 obtain⟨u1,v1⟩:=sp z1 B1 l1 k1
 obtain⟨u2,v2⟩:=sp z2 B2 l2 k2
 obtain⟨u3,v3⟩:=sp z3 B3 l3 k3
 obtain⟨u4,v4⟩:=sp z4 B4 l4 k4
 have fix:∀{x y z w:Int},x*y + -1*z*w=x*y-z*w:=λ{x y z w}=>by grind
 rw[fix] at m1 m2 m3 m4
 refine⟨p1,q1,p2,q2,p3,q3,p4,q4,z1,z2,z3,z4,m1,m2,m3,m4,?_⟩
 have S1:=Qk u1 (show 187<=900 by decide)
 have S2:=Qk u2 (show 187<=900 by decide)
 have S3:=Qk u3 (show 187<=900 by decide)
 have S4:=Qk u4 (show 187<=900 by decide)
 have Q1:=Qk v1 (show 187<=900 by decide)
 have Q2:=Qk v2 (show 187<=900 by decide)
 have Q3:=Qk v3 (show 187<=900 by decide)
 have Q4:=Qk v4 (show 187<=900 by decide)
 have P14:=Qk (Qb (j:=187) (k:=187) u1 u4) (show 187+187<=900 by decide)
 have l6:=Qk (Qb (j:=187+187) (k:=187) (Qb (j:=187) (k:=187) u1 u4) v2) (show 187+187+187<=900 by decide)
 have P23:=Qk (Qb (j:=187) (k:=187) u2 u3) (show 187+187<=900 by decide)
 have l5:=Qk (Qb (j:=187+187) (k:=187) (Qb (j:=187) (k:=187) u2 u3) v1) (show 187+187+187<=900 by decide)
 have rg:∀sd:Zg,Yc (Zc ↑2 Zj) sd=.ok [.int 0,.int 1]:=λsd=>aH (n:=2) (Law.a1 rfl) (by decide)
 have UC:∀{f:Zg->M D}{i j:Nat}{sd:Zg}{x y:D},f sd=.ok (.lst [x,y])->Sq f (Wh 2 (Q8 (Xd i) (Q8 (Xd j) Ww))) sd=.ok (.nx ((sd.set i (Io x)).set j (Io y))):=λ{f i j sd x y} h=>by
  unfold Sq
  rw[h]
  rfl
 have ex:∀(r:List (Option S)),Um (Kx (Yc (Zc ↑2 Zj)) 1 [1,0] (Xd 0) (Zu Jr (Zc (Zn Ys (Zd 1) (Zd 0)) (Zc (Zn Ys (Zd 2) (Zd 0)) (Zc (Dv Pf ↑1) Zj))))) (Io (.tup [nD a1 a2,nD a3 a4])::Io (.tup [nD b1 b2,nD b3 b4])::r)=.ok (.lst [nD p1 q1,nD p2 q2]):=λr=>
  Gc (Ui (rg _) (by simp) (oG rfl (Zw (aC (Zo rfl rfl (Ym _ _)) (aC (Zo rfl rfl (Ym _ _)) (Law.a1 (d:=.int (-1)) rfl))) s1 rfl) rfl (Zw (aC (Zo rfl rfl (Yi _ _ _)) (aC (Zo rfl rfl (Yi _ _ _)) (Law.a1 (d:=.int (-1)) rfl))) s2 rfl)))
 have ey:∀(o1:Option S) (r:List (Option S)),Um (Kx (Yc (Zc ↑2 Zj)) 1 [2,0] (Xd 0) (Zu Jr (Zc (Zn Ys (Zd 1) (Zd 0)) (Zc (Zn Ys (Zd 2) (Zd 0)) (Zc (Dv Pf ↑1) Zj))))) (Io (.tup [nD a1 a2,nD a3 a4])::o1::Io (.tup [nD n1 d1,nD n2 d2])::r)=.ok (.lst [nD p3 q3,nD p4 q4]):=λo1 r=>
  Gc (Ui (rg _) (by simp) (oG rfl (Zw (aC (Zo rfl rfl (Ym _ _)) (aC (Zo rfl rfl (Ym _ _)) (Law.a1 (d:=.int (-1)) rfl))) s3 rfl) rfl (Zw (aC (Zo rfl rfl (Yi _ _ _)) (aC (Zo rfl rfl (Yi _ _ _)) (Law.a1 (d:=.int (-1)) rfl))) s4 rfl)))
 have ct:DL.tB (Zn Gv (Zn Zt (Zn Zt (Zn Zt 3[0]! 6[0]!) 4[1]!) 5[1]!) (Zn Zt (Zn Zt (Zn Zt 4[0]! 5[0]!) 3[1]!) 6[1]!)) [Io (.tup [nD a1 a2,nD a3 a4]),Io (.tup [nD b1 b2,nD b3 b4]),Io (.tup [nD n1 d1,nD n2 d2]),Io (nD p1 q1),Io (nD p2 q2),Io (nD p3 q3),Io (nD p4 q4),none,none,none]=.ok (!decide (p1*p4*q2*q3=p2*p3*q1*q4)):=by
  refine Qn (Zk (Zk (Zk (Zk (Zo rfl rfl (Ym _ _)) (Zo rfl rfl (Ym _ _)) (gT S1 S4)) (Zo rfl rfl (Yi _ _ _)) (gT P14 Q2)) (Zo rfl rfl (Yi _ _ _)) (gT l6 Q3)) (Zk (Zk (Zk (Zo rfl rfl (Ym _ _)) (Zo rfl rfl (Ym _ _)) (gT S2 S3)) (Zo rfl rfl (Yi _ _ _)) (gT P23 Q1)) (Zo rfl rfl (Yi _ _ _)) (gT l5 Q4)) ?_)
  rw[Uz (by simp[D.dep])]
  congr 2
 unfold kz
 cases hc:decide (p1*p4*q2*q3=p2*p3*q1*q4) with
 |false=>
  rw[hc] at ct
  exact(WL _ _ _ _ _).trans (Z9 (go (UC (ex _)) (go (UC (ey _ _)) (Ya (Qj ct (Z7 rfl))))))
 |true=>
  rw[hc] at ct
  rw[Bool.true_and]
  have T0:=rN (Io (nD p1 q1)) (Io (nD p2 q2)) (Io (nD p3 q3)) (Io (nD p4 q4)) (dA:=[nD a1 a2,nD a3 a4]) (dB:=[nD b1 b2,nD b3 b4]) (dP:=[nD n1 d1,nD n2 d2]) 0 rfl rfl rfl fA fB fP none none
  by_cases g1:a1=b1/\a2=b2
  .rw[AD g1]
   obtain⟨w8,w9,r0⟩:=T0.1 g1
   have T1:=rN (Io (nD p1 q1)) (Io (nD p2 q2)) (Io (nD p3 q3)) (Io (nD p4 q4)) (dA:=[nD a1 a2,nD a3 a4]) (dB:=[nD b1 b2,nD b3 b4]) (dP:=[nD n1 d1,nD n2 d2]) 1 rfl rfl rfl fA' fB' fP' w8 w9
   by_cases g2:a3=b3/\a4=b4
   .rw[AD g2]
    obtain⟨x8,x9,r1⟩:=T1.1 g2
    exact(WL _ _ _ _ _).trans (Z9 (go (UC (ex _)) (go (UC (ey _ _)) (go (Z1 ct) (go (f:=Ke _ (Xd 7) fD) ((Yd (rg _)).trans ((Ye rfl r0).trans ((Ye rfl r1).trans rfl))) (Z7 rfl))))))
   .rw[AF g2]
    exact(WL _ _ _ _ _).trans (Z9 (go (UC (ex _)) (go (UC (ey _ _)) (go (Z1 ct) (Ya (f:=Ke _ (Xd 7) fD) ((Yd (rg _)).trans ((Ye rfl r0).trans (Tc rfl (T1.2 g2)))))))))
  .rw[AF g1]
   exact(WL _ _ _ _ _).trans (Z9 (go (UC (ex _)) (go (UC (ey _ _)) (go (Z1 ct) (Ya (f:=Ke _ (Xd 7) fD) ((Yd (rg _)).trans (Tc rfl (T0.2 g1))))))))
def Zcg {L M h g X Y q1 q2 q3 q4 p1 p2 p3 p4 d d' Z:Int}(L0:0<L)(M0:0<M)(h0:h≠0)(g0:g≠0)(z0:Z≠0)(a1:0<q1)(a2:0<q2)(a3:0<q3)(a4:0<q4)(b1:0<d)(b2:0<d')(e1:p1*L=h*Z*q1)(e2:p2*M=g*Z*q2)(e3:p3*(d*L)=h*X*q3)(e4:p4*(d'*M)=g*Y*q4):p1*p4*q2*q3=p2*p3*q1*q4↔Y*d=X*d':=by
 have K0:L*M*d*d'≠0:=DA (DA (DA (by lia) (by lia)) (by lia)) (by lia)
 have N0:h*g*Z*q1*q2*q3*q4≠0:=DA (DA (DA (DA (DA (DA h0 g0) z0) (by lia)) (by lia)) (by lia)) (by lia)
 have l:p1*p4*q2*q3*(L*M*d*d')=h*g*Z*q1*q2*q3*q4*(Y*d):=by
  have:p1*p4*q2*q3*(L*M*d*d')=(p1*L)*(p4*(d'*M))*(q2*q3*d):=by grind
  rw[this,e1,e4]
  grind
 have r:p2*p3*q1*q4*(L*M*d*d')=h*g*Z*q1*q2*q3*q4*(X*d'):=by
  have:p2*p3*q1*q4*(L*M*d*d')=(p2*M)*(p3*(d*L))*(q1*q4*d'):=by grind
  rw[this,e2,e3]
  grind
 constructor
 .intro e
  rw[e,r] at l
  exact(EN N0 l).symm
 .intro e
  rw[e] at l
  exact CD K0 (l.trans r.symm)
section
variable {z:Nat}{T now:Int}{t:Tk}
def qC (ti:TI z T now t)(h:t.h≠0){w a b:Int}(e:place t w=nD a b):0<b/\a*t.lap=t.num w*b:=by
 obtain⟨g,l0⟩:=ti.mv1 h
 unfold place at e
 rw[AF h] at e
 obtain⟨p,q,ep,q0,m,_⟩:=Yb (t:=t.line*t.lap-t.h*(t.due-w)) (b:=t.lap) l0
 rw[ep] at e
 obtain⟨rfl,rfl⟩:=Kt e
 exact⟨q0,m⟩
def oZ (ti:TI z T now t)(h:t.h≠0)(n d w:Int):n*t.lap-d*t.num w=t.h*(t.tm n d-d*w):=by
 obtain⟨g,l0⟩:=ti.mv1 h
 have hh:t.h*t.h=1:=by rcases g with q|q<;>rw[q]<;>rfl
 unfold Tk.num Tk.tm
 have:t.h*(t.due*d-t.h*(t.line*d-n)*t.lap-d*w)=t.h*t.due*d-t.h*t.h*((t.line*d-n)*t.lap)-t.h*d*w:=by grind
 rw[this,hh]
 grind
def zi (t:Tk)(w0 w1:Int):t.num w1-t.num w0=t.h*(w1-w0):=by
 unfold Tk.num
 grind
def lM (ti:TI z T now t)(h:t.h≠0){w0 w1 a b c d n e p1 q1 p3 q3:Int}(lt:w0<w1)(eA:place t w0=nD a b)(eB:place t w1=nD c d)(he:0<e)(jF:0<q1)(sX:0<q3)(m1:p1*(d*b)=(c*b-a*d)*q1)(m3:p3*(e*b)=(n*b-a*e)*q3):
  p1*t.lap=t.h*(w1-w0)*q1/\p3*(e*t.lap)=t.h*(t.tm n e-e*w0)*q3/\¬(a=c/\b=d)/\(cZ a b c d n e=true↔w0*e<t.tm n e/\t.tm n e<w1*e):=by
 obtain⟨g,l0⟩:=ti.mv1 h
 obtain⟨b0,ea⟩:=qC ti h eA
 obtain⟨d0,eb⟩:=qC ti h eB
 have df:=zi t w0 w1
 have k0:=oZ ti h n e w0
 have k1:=oZ ti h n e w1
 have db:0<d*b:=AX d0 b0
 have e1:(c*b-a*d)*t.lap=d*b*(t.h*(w1-w0)):=by
  rw[<-df,show(c*b-a*d)*t.lap=(c*t.lap)*b-(a*t.lap)*d by grind,ea,eb]
  grind
 have e3:(n*b-a*e)*t.lap=b*(t.h*(t.tm n e-e*w0)):=by
  rw[<-k0,show(n*b-a*e)*t.lap=n*t.lap*b-(a*t.lap)*e by grind,ea]
  grind
 have e4:(n*d-c*e)*t.lap=d*(t.h*(t.tm n e-e*w1)):=by
  rw[<-k1,show(n*d-c*e)*t.lap=n*t.lap*d-(c*t.lap)*e by grind,eb]
  grind
 refine⟨?_,?_,?_,?_⟩
 .refine EN (show d*b≠0 by lia) ?_
  have:d*b*(p1*t.lap)=p1*(d*b)*t.lap:=by grind
  rw[this,m1,show(c*b-a*d)*q1*t.lap=(c*b-a*d)*t.lap*q1 by grind,e1]
  grind
 .refine EN (show b≠0 by lia) ?_
  have:b*(p3*(e*t.lap))=p3*(e*b)*t.lap:=by grind
  rw[this,m3,show(n*b-a*e)*q3*t.lap=(n*b-a*e)*t.lap*q3 by grind,e3]
  grind
 .rintro⟨rfl,rfl⟩
  rw[JI,CI] at e1
  rcases BV.mp e1.symm with q|q
  .lia
  .rcases BV.mp q with q|q
   .exact h q
   .lia
 .have pos:∀{x y w:Int},0<w->x*t.lap=w*y->(0<x↔0<y)/\(x<0↔y<0):=λ{x y w} w0 ee=>by
   constructor
   .constructor
    .intro q
     have:=AX q l0
     rw[ee] at this
     exact IL this w0
    .intro q
     have:=AX w0 q
     rw[<-ee] at this
     exact EX this l0
   .constructor
    .intro q
     have:=FS q l0
     rw[ee] at this
     rcases FC y 0 with r|r
     .exact r
     .have:=CK (AI w0) r;lia
    .intro q
     have:=IG w0 q
     rw[<-ee] at this
     rcases FC x 0 with r|r
     .exact r
     .have:=CK r (AI l0);lia
  have P1:=pos db e1
  have P3:=pos b0 e3
  have P4:=pos d0 e4
  generalize t.tm n e=X at *
  rw[CN w0 e,CN w1 e]
  generalize e*w0=Y0 at *
  generalize e*w1=Y1 at *
  unfold cZ
  generalize hcb:c*b=cb at *
  generalize had:a*d=ad at *
  generalize n*b=nb at *
  generalize a*e=ae at *
  generalize n*d=nd at *
  generalize c*e=ce at *
  rcases g with g|g<;>rw[g] at P1 P3 P4
  .rw[AF (by lia),BG,CJ,CJ]
   lia
  .rw[AD (by lia),BG,CJ,CJ]
   lia
def oY (h:t.h=0){w0 w1 a b c d n e p1 q1 p3 q3:Int}(eA:place t w0=nD a b)(eB:place t w1=nD c d)(b0:0<b)(he:0<e)(gA:Int.gcd a b=1)(gP:Int.gcd n e=1)(jF:0<q1)(sX:0<q3)(m1:p1*(d*b)=(c*b-a*d)*q1)(m3:p3*(e*b)=(n*b-a*e)*q3):
  p1=0/\(a=c/\b=d)/\(p3=0↔n=t.n/\e=t.m):=by
 unfold place at eA eB
 rw[AD h] at eA eB
 obtain⟨x1,x2⟩:=Kt eA
 obtain⟨y1,y2⟩:=Kt eB
 have ac:a=c:=x1.symm.trans y1
 have bd:b=d:=x2.symm.trans y2
 subst ac bd
 rw[x1,x2]
 refine⟨?_,⟨rfl,rfl⟩,?_⟩
 .rw[JI,CI] at m1
  rcases BV.mp m1 with q|q
  .exact q
  .have:=AX b0 b0;lia
 .constructor
  .intro q
   rw[q,CI] at m3
   rcases BV.mp m3.symm with r|r
   .have:Xt n e=Xt a b:=R0 he b0 (by lia)
    rw[Ly he gP,Ly b0 gA] at this
    exact Kt this
   .lia
  .rintro⟨rfl,rfl⟩
   rw[JI,CI] at m3
   rcases BV.mp m3 with q|q
   .exact q
   .have:=AX he he;lia
end
section
variable {W H:Nat}{T:Int}
def xn {s:YZ}(ok:UD W H T s){p:Po4}(o:Cv p)(gx:Int.gcd p.a p.b=1)(gy:Int.gcd p.c p.d=1)(fx:Fr 93 p.a p.b)(fy:Fr 93 p.c p.d):J3 [sA s,sB s,p.D]=.ok (.im (.bl (YN p s))):=by
 obtain⟨t,u,w0,w1⟩:=s
 obtain⟨now,ws⟩:=ok.ws
 have lt:w0<w1:=ok.lt
 obtain⟨a1,a2,a3,a4,eA,fA,gA,fA',uz⟩:=ok.pA
 obtain⟨b1,b2,b3,b4,eB,fB,gB,fB',gB'⟩:=ok.pB
 dsimp only at ws
 have SH:∀{x y z w:D},(.tup [x,y]:D)=.tup [z,w]->x=z/\y=w:=λ{x y z w} h=>by
  injection h with h
  injection h with h1 h
  injection h with h2 _
  exact⟨h1,h2⟩
 obtain⟨pa,jH⟩:=SH (show(D.tup [place t w0,place u w0])=_ from eA)
 obtain⟨pb,jG⟩:=SH (show(D.tup [place t w1,place u w1])=_ from eB)
 obtain⟨p1,q1,p2,q2,p3,q3,p4,q4,z1,z2,z3,z4,m1,m2,m3,m4,run⟩:=Zip fA fA' fB fB' fx fy
 rw[eA,eB]
 refine Eq.trans run ?_
 congr 3
 rw[EC]
 unfold YN
 rw[Id]
 dsimp only
 unfold kz
 rw[BG,CJ]
 by_cases ht:t.h=0
 .have hu:u.h≠0:=by rcases ws.mv with r|r;exact absurd ht r;exact r
  obtain⟨s1,s2,s3⟩:=oY ht pa pb fA.pos o.b gA gx z1 z3 m1 m3
  obtain⟨c1,c2,c3,c4⟩:=lM ws.y hu lt jH jG o.d z2 z4 m2 m4
  have sv:p2≠0:=λq=>by
   rw[q,CI] at c1
   rcases BV.mp c1.symm with r|r
   .rcases BV.mp r with r|r
    .exact hu r
    .lia
   .lia
  rw[AD s2,AF c3,c4,s1,CI,CI,CI]
  have cr:(0=p2*p3*q1*q4)↔(p.a=t.n/\p.b=t.m):=by
   rw[<-s3]
   constructor
   .intro q
    rcases BV.mp q.symm with r|r
    .rcases BV.mp r with r|r
     .rcases BV.mp r with r|r
      .exact absurd r sv
      .exact r
     .lia
    .lia
   .intro q;rw[q];simp
  rw[cr]
  unfold Yr
  rw[AF (λq=>q ht)]
  constructor
  .rintro⟨k,l1,l2⟩
   exact⟨_,_,AD k,l1,l2⟩
  .rintro⟨x,y,k,l1,l2⟩
   split at k
   .rename_i k'
    cases k
    exact⟨k',l1,l2⟩
   .cases k
 .obtain⟨c1,c2,c3,c4⟩:=lM ws.x ht lt pa pb o.b z1 z3 m1 m3
  rw[AF c3,c4]
  by_cases hu:u.h=0
  .obtain⟨s1,s2,s3⟩:=oY hu jH jG fA'.pos o.d uz gy z2 z4 m2 m4
   have tG:p1≠0:=λq=>by
    rw[q,CI] at c1
    rcases BV.mp c1.symm with r|r
    .rcases BV.mp r with r|r
     .exact ht r
     .lia
    .lia
   have cr:(p1*p4*q2*q3=p2*p3*q1*q4)↔(p.c=u.n/\p.d=u.m):=by
    rw[<-s3,s1]
    constructor
    .intro q
     rw[CI,CI,CI] at q
     rcases BV.mp q with r|r
     .rcases BV.mp r with r|r
      .rcases BV.mp r with r|r
       .exact absurd r tG
       .exact r
      .lia
     .lia
    .intro q;rw[q];simp
   rw[cr]
   unfold Yr
   rw[AD ht,AF (λq=>q hu)]
   constructor
   .rintro⟨k,l1,l2⟩
    exact⟨_,_,AD k,l1,l2⟩
   .rintro⟨x,y,k,l1,l2⟩
    split at k
    .rename_i k'
     cases k
     exact⟨k',l1,l2⟩
    .cases k
  .obtain⟨d1,d2,d3,d4⟩:=lM ws.y hu lt jH jG o.d z2 z4 m2 m4
   have cr:=Zcg (ws.x.mv1 ht).2 (ws.y.mv1 hu).2 ht hu (show w1-w0≠0 by lia) z1 z2 z3 z4 o.b o.d c1 d1 c2 d2
   have vP:(u.tm p.c p.d-p.d*w0)*p.b=(t.tm p.a p.b-p.b*w0)*p.d↔t.tm p.a p.b*p.d=u.tm p.c p.d*p.b:=by
    rw[HV,HV,show p.d*w0*p.b=p.b*w0*p.d by grind]
    generalize u.tm p.c p.d*p.b=X
    generalize t.tm p.a p.b*p.d=Y
    generalize p.b*w0*p.d=Z
    lia
   rw[cr,vP]
   unfold Yr
   rw[AD ht,AD hu]
   constructor
   .rintro⟨k,l1,l2⟩
    exact⟨_,_,AD k,l1,l2⟩
   .rintro⟨x,y,k,l1,l2⟩
    split at k
    .rename_i k'
     cases k
     exact⟨k',l1,l2⟩
    .cases k
end
abbrev YY:=(Int×Int)×List D
def aY (a b:Int×Int):Bool:=decide (a.1<b.1)||(decide (a.1=b.1)&&decide (a.2<b.2))
def ltT_iff {a b:Int×Int}:aY a b=true↔a.1<b.1\/(a.1=b.1/\a.2<b.2):=by
 unfold aY
 rw[ES,BG,CJ,CJ,CJ]
abbrev kZ (L:List YY):Prop:=L.Pairwise λa b=>aY a.1 b.1=true
theorem qB:∀{A B:List YY},kZ A->kZ B->(∀x,x∈A↔x∈B)->A=B
 |[],[],_,_,_=>rfl
 |[],b::B,_,_,h=>by have:=(h b).mpr (.head _);cases this
 |a::A,[],_,_,h=>by have:=(h a).mp (.head _);cases this
 |a::A,b::B,hA,hB,h=>by
  obtain⟨a1,a2⟩:=DE.mp hA
  obtain⟨b1,b2⟩:=DE.mp hB
  have irr:∀x y:YY,aY x.1 y.1=true->aY y.1 x.1=true->False:=λx y p q=>by rw[ltT_iff] at p q;lia
  have e:a=b:=by
   rcases AW.mp ((h a).mp (.head _)) with z|z
   .exact z
   .rcases AW.mp ((h b).mpr (.head _)) with w|w
    .exact w.symm
    .exact(irr a b (a1 b w) (b1 a z)).elim
  subst e
  have na:∀{C:List YY},(∀y∈C,aY a.1 y.1=true)->a ∉ C:=λhC z=>irr a a (hC a z) (hC a z)
  refine congrArg _ (qB a2 b2 λx=>?_)
  constructor
  .intro z
   rcases AW.mp ((h x).mp (.tail _ z)) with w|w
   .rw[w] at z;exact(na a1 z).elim
   .exact w
  .intro z
   rcases AW.mp ((h x).mpr (.tail _ z)) with w|w
   .rw[w] at z;exact(na b1 z).elim
   .exact w
section
variable {W H:Nat}{ss:List Sd}{ps:List Po4}{p o:Po4}{m:Nat}{q:U7}{xs ys xs' ys':List Int}{rows rows':List YY}
def mem_prs {xs ys:List Int}{t:Int×Int}:t∈(xs.flatMap λx=>ys.map λy=>(x,y)).filter nz↔t.1∈xs/\t.2∈ys/\nz t=true:=by
 rw[DP,GC]
 constructor
 .rintro⟨⟨x,hx,h⟩,hz⟩
  obtain⟨y,hy,rfl⟩:=CH.mp h
  exact⟨hx,hy,hz⟩
 .rintro⟨hx,hy,hz⟩
  exact⟨⟨t.1,hx,CH.mpr ⟨t.2,hy,rfl⟩⟩,hz⟩
def zh {xs ys:List Int}(hx:xs.Pairwise (· < ·))(hy:ys.Pairwise (· < ·)):((xs.flatMap λx=>ys.map λy=>(x,y)).filter nz).Pairwise λa b=>aY a b=true:=by
 refine JU _ ?_
 induction xs with
 |nil=>exact List.Pairwise.nil
 |cons x xs ih=>
  obtain⟨h1,h2⟩:=DE.mp hx
  rw[KW]
  refine List.pairwise_append.mpr ⟨HK.mpr (List.Pairwise.imp (S:=λa b=>aY (x,a) (x,b)=true) (λh=>ltT_iff.mpr (.inr ⟨rfl,h⟩)) hy),ih h2,λa ha b hb=>?_⟩
  obtain⟨y,_,rfl⟩:=CH.mp ha
  obtain⟨x2,tw,hb⟩:=GC.mp hb
  obtain⟨y2,_,rfl⟩:=CH.mp hb
  exact ltT_iff.mpr (.inl (h1 x2 tw))
def Ways.srt (w:Ways W H ss q m p o xs ys rows):kZ rows:=HK.mp ((zh w.tx.lt w.ty.lt).sublist w.sub)
theorem Ways.few (w:Ways W H ss q m p o xs ys rows)(hx:(m+1)*W<=14)(hy:(m+1)*H<=14):rows.length<=900:=by
 have h:=w.sub.length_le
 have l1:=w.tx.few
 have l2:=w.ty.few
 have lm:xs.length*ys.length<=30*30:=EI (by lia) (by lia)
 have:((xs.flatMap λx=>ys.map λy=>(x,y)).filter nz).length<=900:=by
  refine BA (GP _ _) ?_
  rw[KA]
  simp only[AC,LX,JF]
  exact lm
 rw[AC] at h
 lia
end
def xm (c:Int):∃W H m:Nat,1<=W/\W<=3/\1<=H/\H<=3/\m<=3/\(m+1)*W<=14/\(m+1)*H<=14/\Ga [.int c]=.ok (.im (.tup [.int (W:Int),.int (H:Int),.int (m:Int)])):=by
 have k0:=BQ c (show(10:Int)≠0 by decide)
 have k1:=BK c (show(0:Int)<10 by decide)
 have run:∀d,Ys (.lst [.tup [.int 1,.int 1,.int 2],.tup [.int 2,.int 1,.int 1],.tup [.int 1,.int 2,.int 1],.tup [.int 2,.int 2,.int 1],.tup [.int 1,.int 2,.int 2],.tup [.int 2,.int 1,.int 2],.tup [.int 3,.int 1,.int 1],.tup [.int 3,.int 2,.int 0],.tup [.int 3,.int 3,.int 0],.tup [.int 1,.int 3,.int 1]]) (.int (c%10))=.ok d->Ga [.int c]=.ok (.im d):=λd h=>
  (gq _ _ _).trans (Z9 (go (Z6 rfl) (go (Z6 (Zk rfl rfl rfl)) (Z7 (Zk rfl (Zk rfl rfl (gM (by decide))) h)))))
 generalize c%10=k at *
 have:k=0\/k=1\/k=2\/k=3\/k=4\/k=5\/k=6\/k=7\/k=8\/k=9:=by lia
 rcases this with rfl|rfl|rfl|rfl|rfl|rfl|rfl|rfl|rfl|rfl
 .exact⟨1,1,2,by decide,by decide,by decide,by decide,by decide,by decide,by decide,run _ rfl⟩
 .exact⟨2,1,1,by decide,by decide,by decide,by decide,by decide,by decide,by decide,run _ rfl⟩
 .exact⟨1,2,1,by decide,by decide,by decide,by decide,by decide,by decide,by decide,run _ rfl⟩
 .exact⟨2,2,1,by decide,by decide,by decide,by decide,by decide,by decide,by decide,run _ rfl⟩
 .exact⟨1,2,2,by decide,by decide,by decide,by decide,by decide,by decide,by decide,run _ rfl⟩
 .exact⟨2,1,2,by decide,by decide,by decide,by decide,by decide,by decide,by decide,run _ rfl⟩
 .exact⟨3,1,1,by decide,by decide,by decide,by decide,by decide,by decide,by decide,run _ rfl⟩
 .exact⟨3,2,0,by decide,by decide,by decide,by decide,by decide,by decide,by decide,run _ rfl⟩
 .exact⟨3,3,0,by decide,by decide,by decide,by decide,by decide,by decide,by decide,run _ rfl⟩
 .exact⟨1,3,1,by decide,by decide,by decide,by decide,by decide,by decide,by decide,run _ rfl⟩
def oA {f:Zg->M D}{i j k:Nat}{sd:Zg}{a b c:D}(h:f sd=.ok (.tup [a,b,c])):Sq f (Wh 3 (Q8 (Xd i) (Q8 (Xd j) (Q8 (Xd k) Ww)))) sd=.ok (.nx (((sd.set i (Io a)).set j (Io b)).set k (Io c))):=by
 unfold Sq
 rw[h]
 rfl
def PtOk.off {W H:Nat}{p:Po4}(h:PtOk W H p):Cv p:=⟨h.x.fr.pos,h.y.fr.pos,h.x.nw,h.y.nw⟩
section
variable {W H:Nat}{ss:List Sd}{ps:List Po4}{p s o:Po4}{m:Nat}{q:U7}
def n9 (hW:W<=8)(hH:H<=8)(hl:ss.length<=400)(hp:∀p∈ps,PtOk W H p)(e2:∀x y:Int,look q [.inl x,.inl y]=look [] [.inl x,.inl y]++(ps.filter (Wo x y)).map Po4.D)(ho:PtOk W H p)(hs:QT s)(hm:m<=900){tn:List D}
  (h:wD (Qo W H ss) q p.D s.D (.int m)=.ok (.tup [.str (Str.ofString "end"),o.D,.lst tn])):
  ∃segs:List YZ,segs.map sA=p.D::tn/\segs.map sB=tn++[o.D]/\(∀g∈segs,UD W H (wT p s) g)/\tn.length<=m/\(∀x∈tn,Gf x) /\
   ∀(c:Po4) (q':U7),PtOk W H c->(∀x y:Int,look q' [.inl x,.inl y]=look [] [.inl x,.inl y]++((ps++[c]).filter (Wo x y)).map Po4.D)->(wD (Qo W H ss) q' p.D s.D (.int m)=.ok (.tup [.str (Str.ofString "end"),o.D,.lst tn])↔∀g∈segs,YN c g=false):=by
 obtain⟨dA,fA,kA,rj,vL,vK,tA,w,pt,tn',qA,v1,v2,v3⟩:=R5 (ss:=ss) hW hH hl hp e2 ho.st hs hm
 rw[h] at fA
 injection fA with fA
 subst fA
 obtain⟨rfl,rfl,rfl⟩:=Fd qA.symm
 obtain⟨t1,lx,ly⟩:=oC ho.st hs
 obtain⟨b,rest,tl,i1,i2,i3,i4,_,i5⟩:=oB t1 81 _ _ [] 0 rj lx ly kA
 rw[FO] at i1
 subst i1
 have WH:Xb (Sx p.a p.b s.a s.b (wT p s)) (Sx p.c p.d s.c s.d (wT p s)) 0=p.D:=by
  unfold Xb
  rw[E6 ho.x.pb hs.x.pos λz=>⟨_,AX ho.y.fr.pos (Bx s.c).1,vL z⟩,E6 ho.y.pb hs.y.pos λz=>⟨_,AX ho.x.fr.pos (Bx s.a).1,vK z⟩]
  rfl
 refine⟨(Sx p.a p.b s.a s.b (wT p s),Sx p.c p.d s.c s.d (wT p s),0,b)::rest,by rw[AM,i2];exact congrArg (·::tn') WH,i3,i4,v3,v2,λc q' oc UJ=>?_⟩
 have VU:=Cq hp oc
 obtain⟨d',cU,jS,_⟩:=R5 (ss:=ss) (p:=p) (s:=s) (most:=m) hW hH hl VU UJ ho.st hs hm
 have:=i5 c oc.off
 rw[cU]
 rw[jS] at this
 rw[List.forall_mem_cons]
 constructor
 .intro z
  injection z with z
  rw[z] at this
  exact this.mp rfl
 .intro z
  have:=this.mpr z
  injection this with this
  rw[this]
def xD {c:Po4}{q':U7}(hW:W<=8)(hH:H<=8)(hl:ss.length<=400)(hp:∀p∈ps,PtOk W H p)(e2:∀x y:Int,look q [.inl x,.inl y]=look [] [.inl x,.inl y]++(ps.filter (Wo x y)).map Po4.D)(ho:PtOk W H p)(hs:QT s)(hm:m<=900){tn:List D}(oc:PtOk W H c)(UJ:∀x y:Int,look q' [.inl x,.inl y]=look [] [.inl x,.inl y]++((ps++[c]).filter (Wo x y)).map Po4.D)
  (h:wD (Qo W H ss) q' p.D s.D (.int m)=.ok (.tup [.str (Str.ofString "end"),o.D,.lst tn])):wD (Qo W H ss) q p.D s.D (.int m)=.ok (.tup [.str (Str.ofString "end"),o.D,.lst tn]):=by
 have VU:=Cq hp oc
 obtain⟨d',cU,jS,_⟩:=R5 (ss:=ss) (p:=p) (s:=s) (most:=m) hW hH hl VU UJ ho.st hs hm
 obtain⟨d,fd,kd,_⟩:=R5 (ss:=ss) (p:=p) (s:=s) (most:=m) hW hH hl hp e2 ho.st hs hm
 rw[h] at cU
 injection cU with cU
 subst cU
 have:=rP 81 _ _ _ jS
 rw[this] at kd
 injection kd with kd
 rw[fd,kd]
end
theorem pz:∀{A B:List Int},A.Pairwise (· < ·)->B.Pairwise (· < ·)->(∀x,x∈A↔x∈B)->A=B
 |[],[],_,_,_=>rfl
 |[],b::B,_,_,h=>by have:=(h b).mpr (.head _);cases this
 |a::A,[],_,_,h=>by have:=(h a).mp (.head _);cases this
 |a::A,b::B,hA,hB,h=>by
  obtain⟨a1,a2⟩:=DE.mp hA
  obtain⟨b1,b2⟩:=DE.mp hB
  have e:a=b:=by
   rcases AW.mp ((h a).mp (.head _)) with z|z
   .exact z
   .rcases AW.mp ((h b).mpr (.head _)) with w|w
    .exact w.symm
    .have:=a1 b w
     have:=b1 a z
     lia
  subst e
  refine congrArg _ (pz a2 b2 λx=>?_)
  constructor
  .intro z
   rcases AW.mp ((h x).mp (.tail _ z)) with w|w
   .have:=a1 x z;lia
   .exact w
  .intro z
   rcases AW.mp ((h x).mpr (.tail _ z)) with w|w
   .have:=b1 x z;lia
   .exact w
def Td {n1 m1 n2 m2:Int}{R:Nat}{xs xs':List Int}(h:RF n1 m1 n2 m2 R xs)(h':RF n1 m1 n2 m2 R xs'):xs'=xs:=pz h'.lt h.lt λx=>by rw[h'.mem,h.mem]
section
variable {W H:Nat}{ss:List Sd}{ps:List Po4}{p o c:Po4}{m:Nat}{q q':U7}{xs ys xs' ys':List Int}{rows rows':List YY}
def Zch (w:Ways W H ss q m p o xs ys rows)(w':Ways W H ss q' m p o xs' ys' rows'){thr:YY->Bool} (hr:∀r∈rows,(thr r=false↔wD (Qo W H ss) q' p.D (Us (p.b*o.b) (p.d*o.d) r.1).D (.int m)=.ok (.tup [.str (Str.ofString "end"),o.D,.lst r.2])))
  (less:∀t∈(xs.flatMap λx=>ys.map λy=>(x,y)).filter nz,∀tn,wD (Qo W H ss) q' p.D (Us (p.b*o.b) (p.d*o.d) t).D (.int m)=.ok (.tup [.str (Str.ofString "end"),o.D,.lst tn])->wD (Qo W H ss) q p.D (Us (p.b*o.b) (p.d*o.d) t).D (.int m)=.ok (.tup [.str (Str.ofString "end"),o.D,.lst tn])):rows'=rows.filter λr=>!thr r:=by
 have ex:=Td w.tx w'.tx
 have ey:=Td w.ty w'.ty
 subst ex ey
 refine qB w'.srt (JU _ w.srt) λr=>?_
 rw[DP]
 constructor
 .intro h
  obtain⟨h1,h2⟩:=(w'.mem r.1 r.2).mp h
  have hm:r∈rows:=(w.mem r.1 r.2).mpr ⟨h1,less _ h1 _ h2⟩
  exact⟨hm,by rw[(hr r hm).mpr h2];rfl⟩
 .rintro⟨h1,h2⟩
  obtain⟨k1,_⟩:=(w.mem r.1 r.2).mp h1
  have:thr r=false:=by cases z:thr r with|false=>rfl|true=>rw[z] at h2;cases h2
  exact(w'.mem r.1 r.2).mpr ⟨k1,(hr r h1).mp this⟩
end
section
variable {W H:Nat}{T:Int}{p o c:Po4}{ppl tn:List D}{i j:Nat}{segs:List YZ}
def Fg (h1:segs.map sA=p.D::tn)(h2:segs.map sB=tn++[o.D]){k:Nat}{g:YZ}(hg:segs[k]?=some g):(p.D::tn++[o.D])[k]?=some (sA g)/\(p.D::tn++[o.D])[k+1]?=some (sB g):=by
 have hk:k<segs.length:=(AE.mp hg).1
 have ln:=congrArg List.length h1
 rw[AC,AH] at ln
 constructor
 .rw[BC (by rw[AH];lia),<-h1,BE,hg]
  rfl
 .rw[GF,GE,<-h2,BE,hg]
  rfl
def Zci (gi:Ys (.lst ppl) (.int (i:Int))=.ok p.D)(gj:Ys (.lst ppl) (.int (j:Int))=.ok o.D)(h1:segs.map sA=p.D::tn)(h2:segs.map sB=tn++[o.D])(ok:∀g∈segs,UD W H T g)(oc:PtOk W H c)(lt:tn.length<=900){r0 r1:D}:X6 [.lst ppl,.int (i:Int),.int (j:Int),.tup [r0,r1,.lst tn],c.D]=.ok (.im (.bl (segs.any (YN c)))):=by
 have ln:=congrArg List.length h1
 rw[AC,AH] at ln
 let fn:Nat->Bool:=λk=>match segs[k]? with|some g=>YN c g|none=>false
 have e5:Zn Z8 (Zn Z8 (Jk (Zc (Zn Ys (Zd 0) (Zd 1)) Zj)) 3[2]!) (Jk (Zc (Zn Ys (Zd 0) (Zd 2)) Zj)) [Io (.lst ppl),Jo (i:Int),Jo (j:Int),Io (.tup [r0,r1,.lst tn]),Io c.D,none]=.ok (.lst (p.D::tn++[o.D])):=
  Zk (Zk (x:=.lst [p.D]) (y:=.lst tn) (V3 (Law.a1 (Zk rfl rfl gi)) rfl) (Zo rfl rfl rfl) (Gb (by rw[AZ];lia))) (y:=.lst [o.D]) (V3 (Law.a1 (Zk rfl rfl gj)) rfl) (Gb (by rw[AJ,AZ,AZ];lia))
 have em:Wk (Xd 0) (Zu J3 (Zc (Zn Ys (Zd 2) (Zd 0)) (Zc (Zn Ys (Zd 2) (Zn Z8 (Zd 0) ↑1)) (Zc (Zd 1) Zj)))) (Ut 1 [4,5] [Io (.lst ppl),Jo (i:Int),Jo (j:Int),Io (.tup [r0,r1,.lst tn]),Io c.D,Io (.lst (p.D::tn++[o.D]))]) ((List.range (tn.length+1)).map fun(k:Nat)=>D.int (k:Int))=.ok ((List.range (tn.length+1)).map λk=>D.bl (fn k)):=by
  refine dE (fun(k:Nat)=>D.int (k:Int)) (λk=>D.bl (fn k)) _ λk hk=>?_
  have hk:=FA.mp hk
  obtain⟨g,hg⟩:∃g,segs[k]?=some g:=⟨segs[k],AU (by lia)⟩
  obtain⟨s1,s2⟩:=Fg h1 h2 hg
  have fl:=xn (ok g (BZ hg)) oc.off oc.x.g oc.y.g (oc.x.fr.mono (by decide)) (oc.y.fr.mono (by decide))
  have eD:fn k=YN c g:=by show(match segs[k]? with|some g=>YN c g|none=>false)=_;rw[hg]
  rw[eD]
  exact⟨_,rfl,Zw (aC (Jf (i:=(k:Int)) rfl rfl (Jq s1)) (aC (Jf (i:=((k+1:Nat):Int)) rfl (Zk (x:=.int (k:Int)) (y:=.int 1) rfl rfl rfl) (Jq s2)) (Law.a1 rfl))) fl rfl⟩
 have el:Yc (Zc (Zn DL.Vl (K6 Wj (Zc (Zd 5) Zj)) ↑1) Zj) [Io (.lst ppl),Jo (i:Int),Jo (j:Int),Io (.tup [r0,r1,.lst tn]),Io c.D,Io (.lst (p.D::tn++[o.D]))]=.ok ((List.range (tn.length+1)).map fun(k:Nat)=>D.int (k:Int)):=by
  refine aH (n:=tn.length+1) (Law.a1 (Zk (x:=.int ((tn.length+2:Nat):Int)) (y:=.int 1) (J9 (Law.a1 rfl) ?_) rfl ?_)) (by lia)
  .rw[Rz]
   congr 2
   rw[AJ,AH,AZ]
  .show M.ok (D.int (((tn.length+2:Nat):Int)-1))=_
   congr 2
   lia
 refine(show V5 5 1 _ [.lst ppl,.int (i:Int),.int (j:Int),.tup [r0,r1,.lst tn],c.D]=Wx (_) from rfl).trans (Z9 (go (Z6 e5) (Z7 (J9 (Law.a1 (Gc (Ui el (by rw[AC,BY];lia) em))) ?_))))
 show(match X9 ((List.range (tn.length+1)).map λk=>D.bl (fn k)) with|some bs=>M.ok (D.bl (bs.any id))|none=>.bad)=_
 rw[R3]
 dsimp only
 congr 2
 have:(List.range (tn.length+1)).map fn=segs.map (YN c):=by
  refine List.ext_getElem (by rw[AC,BY,AC,ln]) λk h1 h2=>?_
  rw[LO,LO,List.getElem_range]
  show(match segs[k]? with|some g=>YN c g|none=>false)=_
  rw[AC] at h2
  rw[AU h2]
 rw[this,JG]
 rfl
end
abbrev Ct:=(Int×Int)×(Str×D)
def Sy (bx by':Int)(r:Ct):D:=.tup [Xt r.1.1 bx,Xt r.1.2 by',.str r.2.1,r.2.2]
def iE (hall:D)(q:U7)(p o:Po4)(most:D)(bx by':Int)(r:Ct):Prop:=∃w tn,wD hall q p.D (Us bx by' r.1).D most=.ok (.tup [.str w,r.2.2,.lst tn])/\Gf r.2.2/\((w=Str.ofString "end"/\r.2.2=o.D)->r.2.1=Str.ofString "seen")/\(¬(w=Str.ofString "end"/\r.2.2=o.D)->r.2.1=w)
theorem rM {hall:D}{ppl:List D}{q:U7}{one other most reach:D}{p o:Po4}(hp:Ys (.lst ppl) one=.ok p.D)(ho:Ys (.lst ppl) other=.ok o.D){bx by':Int}:∀(L:List (Int×Int)) (fo:List D),(∀t∈L,∃w pt tn,wD hall q p.D (Us bx by' t).D most=.ok (.tup [.str w,pt,.lst tn])/\Gf pt)->fo.length+L.length<=1000 ->
  ∃rows:List Ct,Gw hall ppl q one other most reach (L.map λt=>(Us bx by' t).D) fo=.ok (fo++rows.map (Sy bx by'))/\rows.map (·.1)=L/\∀r∈rows,iE hall q p o most bx by' r
 |[],fo,_,_=>⟨[],by rw[show fo++([]:List Ct).map (Sy bx by')=fo from BP _];rfl,rfl,λ_ h=>by cases h⟩
 |t::L,fo,hw,hl=>by
  rw[AH] at hl
  obtain⟨w,pt,tn,e,ip⟩:=hw t (.head _)
  obtain⟨b,eb,hb⟩:=L5 (w:=w) (tn:=tn) ip o
  obtain⟨wd,ew,uA⟩:∃wd:Str,Ei (Mb hall ppl one other most reach none none (Io (Us bx by' t).D) (Io (.tup [.str w,pt,.lst tn])) none)=.ok (.str wd)/\((w=Str.ofString "end"/\pt=o.D)->wd=Str.ofString "seen")/\(¬(w=Str.ofString "end"/\pt=o.D)->wd=w):=by
   have et:DL.tB (Zu Vz (Zc (Zd 9) (Zc (Zn Ys (Zd 1) (Zd 3)) Zj))) (Mb hall ppl one other most reach none none (Io (Us bx by' t).D) (Io (.tup [.str w,pt,.lst tn])) none)=.ok b:=Qn (Zw (aC rfl (Law.a1 (Zk rfl rfl ho))) eb rfl)
   unfold Ei Cu
   rw[et,M.bind_ok]
   cases b with
   |true=>exact⟨Str.ofString "seen", by rw[AD rfl];rfl,λ_=>rfl,λz=>absurd (hb.mp rfl) z⟩
   |false=>exact⟨w,by rw[AF (by decide)];exact Zo rfl rfl (Ym _ _),λz=>absurd (hb.mpr z) (by decide),λ_=>rfl⟩
  have er:c7 (Mb hall ppl one other most reach none none (Io (Us bx by' t).D) (Io (.tup [.str w,pt,.lst tn])) (Io (.str wd)))=.ok (Sy bx by' (t,wd,pt)):=by
   unfold c7 Q0
   rw[aC (d:=Xt t.1 bx) (Zo rfl rfl (Ym _ _)) (aC (d:=Xt t.2 by') (Zo rfl rfl (Yi _ _ _)) (aC (d:=.str wd) rfl (Law.a1 (d:=pt) (Zo rfl rfl (Yi _ _ _)))))]
   rfl
  have run:Gw hall ppl q one other most reach ((t::L).map λt=>(Us bx by' t).D) fo=if few fo=true then Gw hall ppl q one other most reach (L.map λt=>(Us bx by' t).D) (fo++[Sy bx by' (t,wd,pt)]) else .bad:=by
   rw[AM]
   conv=>lhs;unfold Gw
   rw[hp,M.bind_ok,e,M.bind_ok,ew,M.bind_ok,er,M.bind_ok]
  obtain⟨rows,e1,e2,e3⟩:=rM hp ho L (fo++[Sy bx by' (t,wd,pt)]) (λt ht=>hw t (.tail _ ht)) (by rw[AJ,AZ];lia)
  refine⟨(t,wd,pt)::rows,?_,by rw[AM,e2],λr hr=>?_⟩
  .rw[run,AD (Ks (by lia)),e1,ED]
   rfl
  .rcases AW.mp hr with rfl|hr
   .exact⟨w,tn,e,ip,uA⟩
   .exact e3 r hr
section
variable {W H:Nat}{ss:List Sd}{ps:List Po4}{q:U7}{m:Nat}
def L8 (hW:W<=8)(hH:H<=8)(hl:ss.length<=400)(hp:∀p∈ps,PtOk W H p)(hq:Br [] (ps.map Po4.D)=some q)(e2:∀x y:Int,look q [.inl x,.inl y]=look [] [.inl x,.inl y]++(ps.filter (Wo x y)).map Po4.D)(lp:ps.length<=100){i j:Nat}{p o:Po4}(hi:ps[i]?=some p)(hj:ps[j]?=some o)(hm:m<=100){R:Nat}(hR:R<=14):
  ∃(xs ys:List Int) (rows:List Ct),RF p.a p.b o.a o.b R xs/\RF p.c p.d o.c o.d R ys/\xs.length*ys.length<=900/\rows.map (·.1)=(xs.flatMap λx=>ys.map λy=>(x,y)).filter nz/\(∀r∈rows,iE (Qo W H ss) q p o (.int (m:Int)) (p.b*o.b) (p.d*o.d) r)/\rows.length<=900/\F_images [Qo W H ss,.lst (ps.map Po4.D),.int (i:Int),.int (j:Int),.int (m:Int),.int (R:Int)]=.ok (.ow (rows.map (Sy (p.b*o.b) (p.d*o.d)))):=by
 have op:=hp p (BZ hi)
 have oo:=hp o (BZ hj)
 obtain⟨xs,ys,tx,ty,lm,es⟩:=rT hW hH op oo hR hR
 obtain⟨B0,B1,C0,C1⟩:=gh hW hH op oo
 have gi:=aZ hi
 have gj:=aZ hj
 have hok:∀t∈(xs.flatMap λx=>ys.map λy=>(x,y)).filter nz,QT (Us (p.b*o.b) (p.d*o.d) t):=λt ht=>by
  obtain⟨h1,h2⟩:=DP.mp ht
  obtain⟨x,jV,h1⟩:=GC.mp h1
  obtain⟨y,jT,rfl⟩:=CH.mp h1
  exact(Cr B0 (by lia) C0 (by lia) (Ul tx B0 hR jV) (Ul ty C0 hR jT) h2).1
 have ll:=rS lm
 obtain⟨rows,r1,r2,r3⟩:=rM (hall:=Qo W H ss) (q:=q) (most:=.int (m:Int)) (reach:=.int (R:Int)) gi gj (bx:=p.b*o.b) (by':=p.d*o.d) ((xs.flatMap λx=>ys.map λy=>(x,y)).filter nz) [] (λt ht=>by
  obtain⟨d,e1,_,_,_,_,_,w,pt,tn,rfl,ip,_⟩:=R5 (ss:=ss) (most:=m) hW hH hl hp e2 op.st (hok t ht) (by lia)
  exact⟨w,pt,tn,e1,ip⟩) (by simp;lia)
 rw[FO] at r1
 refine⟨xs,ys,rows,tx,ty,lm,r2,r3,by rw[<-r2,AC] at ll;exact ll,?_⟩
 have ei:iI (Mb (Qo W H ss) (ps.map Po4.D) (.int (i:Int)) (.int (j:Int)) (.int (m:Int)) (.int (R:Int)) none none none none none)=.ok (((xs.flatMap λx=>ys.map λy=>(x,y)).filter nz).map λt=>(Us (p.b*o.b) (p.d*o.d) t).D):=
  Gy (Zw (aC (Zk rfl rfl gi) (aC (Zk rfl rfl gj) (aC rfl (Law.a1 rfl)))) es rfl)
 simp only[F_images,hq]
 rw[AD (by rw[AC];lia),ei,M.bind_ok,AD (by rw[AC];lia),r1]
 rfl
end
section
variable {W H:Nat}{ss:List Sd}{ps:List Po4}{q:U7}{m:Nat}
abbrev s6 (W H:Nat)(ss:List Sd)(ps:List Po4)(i j m:Nat)(x:D)(r:List (Option S)):Zg:=Io (Qo W H ss)::Io (.lst (ps.map Po4.D))::Jo (i:Int)::Jo (j:Int)::Jo (m:Int)::Io x::r
def xl (hW:W<=8)(hH:H<=8)(hl:ss.length<=400)(hp:∀p∈ps,PtOk W H p)(e2:∀x y:Int,look q [.inl x,.inl y]=look [] [.inl x,.inl y]++(ps.filter (Wo x y)).map Po4.D)(hq:Br [] (ps.map Po4.D)=some q)(lp:ps.length<=100){i j:Nat}{p o:Po4}(hi:ps[i]?=some p)(hj:ps[j]?=some o)(hm:m<=100){r:Ct}(hs:QT (Us (p.b*o.b) (p.d*o.d) r.1))(hr:iE (Qo W H ss) q p o (.int (m:Int)) (p.b*o.b) (p.d*o.d) r):Uy [Qo W H ss,.lst (ps.map Po4.D),.int (i:Int),.int (j:Int),.int (m:Int),Sy (p.b*o.b) (p.d*o.d) r]=.ok (.im (.bl true)):=by
 have op:=hp p (BZ hi)
 obtain⟨t,wd,pt⟩:=r
 obtain⟨w,tn,e,ip,h1,h2⟩:=hr
 dsimp only at e ip h1 h2 hs
 have fd:F_walk [Qo W H ss,.lst (ps.map Po4.D),p.D,(Us (p.b*o.b) (p.d*o.d) t).D,.int (m:Int)]=.ok (.im (.tup [.str w,pt,.lst tn])):=Zbn hq (by rw[AC];lia) λa a1 a2=>lS e a a1 a2
 have gi:=aZ hi
 have gj:=aZ hj
 have iq:=ip
 obtain⟨a,b,c,dd,rfl,f1,g1,f2,g2⟩:=ip
 have t1:(DL.tO (DL.tN (DL.tB (cC "tuple" (Zd 5)))) (DL.tB (Zn Gv (K6 Wj (Zc (Zd 5) Zj)) ↑4))) (s6 W H ss ps i j m (Sy (p.b*o.b) (p.d*o.d) (t,wd,.tup [nD a b,nD c dd])) [none,none,none])=.ok false:=
  Os (dG rfl) (Qn (Zk (x:=.int 4) (J9 (Law.a1 rfl) rfl) rfl (by rw[Uz (by simp[D.dep])];rfl)))
 have t3:(DL.tA (DL.tB (Zn Kp (Zd 6) ↑"end")) (DL.tB (Zn Kp (Zd 7) (Zn Ys (Zd 1) (Zd 3))))) (s6 W H ss ps i j m (Sy (p.b*o.b) (p.d*o.d) (t,wd,.tup [nD a b,nD c dd])) [Io (.str w),Io (.tup [nD a b,nD c dd]),Io (.lst tn)])=.ok (decide (w=Str.ofString "end")&&D.eq (.tup [nD a b,nD c dd]) o.D):=
  iQ (Qn (Zk (x:=.str w) rfl rfl (Km (by simp[D.dep])))) (Qn (Zk (x:=.tup [nD a b,nD c dd]) rfl (Zk rfl rfl gj) (Km (by simp[nD,D.dep,D.deps]))))
 have iff:(decide (w=Str.ofString "end")&&D.eq (.tup [nD a b,nD c dd]) o.D)=true↔(w=Str.ofString "end"/\(.tup [nD a b,nD c dd]:D)=o.D):=by rw[BG,CJ,oi iq]
 have fin:∀v6:Str,v6=wd->Zn Kp (Bb (Zd 5) (Xv ↑2) K5) (Q0 (Zc (Zd 6) (Zc (Zd 7) Zj))) (s6 W H ss ps i j m (Sy (p.b*o.b) (p.d*o.d) (t,wd,.tup [nD a b,nD c dd])) [Io (.str v6),Io (.tup [nD a b,nD c dd]),Io (.lst tn)])=.ok (.bl true):=λv6 h=>by
  subst h
  refine Zk (x:=.tup [.str v6,.tup [nD a b,nD c dd]]) (y:=.tup [.str v6,.tup [nD a b,nD c dd]]) rfl (Nu rfl rfl) ?_
  rw[Km (by simp[nD,D.dep,D.deps]),D.eq_refl]
 have ws:Bb (Zd 5) K5 (Xv ↑2) (s6 W H ss ps i j m (Sy (p.b*o.b) (p.d*o.d) (t,wd,.tup [nD a b,nD c dd])) [none,none,none])=.ok (Us (p.b*o.b) (p.d*o.d) t).D:=rfl
 have h6:∀{f:Zg->M O}{a0 a1 a2 a3 a4 a5:D},V5 6 3 f [a0,a1,a2,a3,a4,a5]=Wx (f [Io a0,Io a1,Io a2,Io a3,Io a4,Io a5,none,none,none]):=rfl
 refine h6.trans (Z9 (go (Z1 t1) (go (oA (Zw (aC rfl (aC rfl (aC (Zk rfl rfl gi) (aC ws (Law.a1 rfl))))) fd rfl)) ?_)))
 cases hb:(decide (w=Str.ofString "end")&&D.eq (.tup [nD a b,nD c dd]) o.D) with
 |true=>
  rw[hb] at t3
  exact go (Qj t3 rfl) (Z7 (fin _ (h1 (iff.mp hb)).symm))
 |false=>
  rw[hb] at t3
  exact go (Z1 t3) (Z7 (fin _ (h2 (λz=>by rw[iff.mpr z] at hb;cases hb)).symm))
end
def pq {bx by':Int}(rows:List Ct):Wk (Xd 0) (Bb (Zd 0) K5 (Xv ↑2)) (Ut 1 [] ([]:Zg)) (rows.map (Sy bx by'))=.ok ((rows.map (·.1)).map λt=>(Us bx by' t).D):=by
 rw[List.map_map]
 exact dE (Sy bx by') ((λt=>(Us bx by' t).D)∘λx=>x.1) rows λr hr=>⟨_,rfl,rfl⟩
def pj {hall:D}{q:U7}{p o:Po4}{most:D}{bx by':Int}{rows:List Ct}(h:∀r∈rows,iE hall q p o most bx by' r):D.deps (rows.map (Sy bx by'))<=20:=Vi λd hd=>by
 obtain⟨r,hr,rfl⟩:=CH.mp hd
 obtain⟨_,_,_,ip,_⟩:=h r hr
 have:=L3 ip
 unfold Sy
 simp only[Xt,nD,D.dep,D.deps]
 lia
section
variable {W H:Nat}{ss:List Sd}{ps:List Po4}{m:Nat}
abbrev s7 (W H:Nat)(ss:List Sd)(ps:List Po4)(c:Po4)(i j m:Nat)(a b:List D):Zg:=[Io (Qo W H ss),Io (.lst (ps.map Po4.D)),Io c.D,Jo (i:Int),Jo (j:Int),Jo (m:Int),Io (.lst a),Io (.lst b)]
def Zcj (hW:W<=8)(hH:H<=8)(hl:ss.length<=400)(hp:∀p∈ps,PtOk W H p)(lp:ps.length<=60){i j:Nat}{p o c:Po4}(hi:ps[i]?=some p)(hj:ps[j]?=some o)(hm:m<=100)(oc:PtOk W H c):
  Jc [Qo W H ss,.lst (ps.map Po4.D),c.D,.int (i:Int),.int (j:Int),.int (m:Int)]=.ok (.im (.bl true)):=by
 have VU:=Cq hp oc
 have uW:(ps++[c]).length<=61:=by rw[AJ,AZ];lia
 have op:=hp p (BZ hi)
 have oo:=hp o (BZ hj)
 have gQ:(ps++[c])[i]?=some p:=by rw[BC (AE.mp hi).1];exact hi
 have gO:(ps++[c])[j]?=some o:=by rw[BC (AE.mp hj).1];exact hj
 obtain⟨q,hq,e2⟩:=fS ps [] λr hr=>(hp r hr).ok
 obtain⟨q',VN,UJ⟩:=fS (ps++[c]) [] λr hr=>(VU r hr).ok
 obtain⟨xs,ys,rows,tx,ty,lm,hL,jd,tU,fI⟩:=L8 (ss:=ss) (m:=m) (R:=1) hW hH hl hp hq e2 (by lia) hi hj hm (by decide)
 obtain⟨xs',ys',rows',sC,r9,lm',mz,aR,mZ,vA⟩:=L8 (ss:=ss) (m:=m) (R:=1) hW hH hl VU VN UJ (by lia) gQ gO hm (by decide)
 have ex:=Td tx sC
 have ey:=Td ty r9
 subst ex ey
 obtain⟨B0,B1,C0,C1⟩:=gh hW hH op oo
 have sok:∀r∈rows',QT (Us (p.b*o.b) (p.d*o.d) r.1):=λr hr=>by
  have ht:r.1∈(xs'.flatMap λx=>ys'.map λy=>(x,y)).filter nz:=by rw[<-mz];exact CH.mpr ⟨r,hr,rfl⟩
  obtain⟨x1,x2,x3⟩:=mem_prs.mp ht
  exact(Cr B0 (by lia) C0 (by lia) (Ul tx B0 (by decide) x1) (Ul ty C0 (by decide) x2) x3).1
 have d1:=pj jd
 have d2:=pj aR
 have seen:=fun(r:Ct) (hr:r∈rows')=>xl (ss:=ss) (m:=m) hW hH hl VU UJ VN (by lia) gQ gO (by lia) (sok r hr) (aR r hr)
 have sj:ps.map Po4.D++[c.D]=(ps++[c]).map Po4.D:=by rw[CY];rfl
 have gW:Z8 (.lst (ps.map Po4.D)) (.lst [c.D])=.ok (.lst ((ps++[c]).map Po4.D)):=by rw[Gb (by rw[AC,AZ];lia),sj]
 generalize ZS:p.b*o.b=bx at *
 generalize ZR:p.d*o.d=by' at *
 have s1:=pq (bx:=bx) (by':=by') rows
 have s2:=pq (bx:=bx) (by':=by') rows'
 rw[hL] at s1
 rw[mz] at s2
 generalize hZ:((xs'.flatMap λx=>ys'.map λy=>(x,y)).filter nz).map (λt=>(Us bx by' t).D)=Z at *
 have dz:D.dep (.lst Z)<=60:=by
  have:D.deps Z<=20:=by
   rw[<-hZ]
   exact Vi λd hd=>by
    obtain⟨r,hr,rfl⟩:=CH.mp hd
    simp[Po4.D,nD,D.dep,D.deps]
  simp only[D.dep]
  lia
 have c1:(DL.tO (DL.tN (DL.tB (cC "list" (Zd 7)))) (DL.tB (Zn Gv (Um (Kx (Kl (Zd 7)) 1 [] (Xd 0) (Bb (Zd 0) K5 (Xv ↑2)))) (Um (Kx (Kl (Zd 6)) 1 [] (Xd 0) (Bb (Zd 0) K5 (Xv ↑2))))))) (s7 W H ss ps c i j m (rows.map (Sy bx by')) (rows'.map (Sy bx by')))=.ok false:=by
  refine Os (dG rfl) (Qn (Zk (x:=.lst Z) (y:=.lst Z) (Gc (Ui (Gy rfl) (by rw[AC];lia) s2)) (Gc (Ui (Gy rfl) (by rw[AC];lia) s1)) ?_))
  rw[Uz dz,D.eq_refl]
  rfl
 have vQ:Wk (Xd 0) (Zu Uy (Zc (Zd 1) (Zc (Zn Z8 (Zd 5) (Jk (Zc (Zd 6) Zj))) (Zc (Zd 2) (Zc (Zd 3) (Zc (Zd 4) (Zc (Zd 0) Zj))))))) (Ut 1 [0,3,4,5,1,2] (s7 W H ss ps c i j m (rows.map (Sy bx by')) (rows'.map (Sy bx by')))) (rows'.map (Sy bx by'))=.ok (rows'.map λ_=>.bl true):=
  dE (Sy bx by') (λ_=>.bl true) rows' λr hr=>⟨_,rfl,Zw (aC rfl (aC (Zk (y:=.lst [c.D]) rfl (V3 (Law.a1 rfl) rfl) gW) (aC rfl (aC rfl (aC rfl (Law.a1 rfl)))))) (seen r hr) rfl⟩
 have c2:(DL.tN (DL.tB (K6 ig (Zc (Um (Kx (Kl (Zd 7)) 1 [0,3,4,5,1,2] (Xd 0) (Zu Uy (Zc (Zd 1) (Zc (Zn Z8 (Zd 5) (Jk (Zc (Zd 6) Zj))) (Zc (Zd 2) (Zc (Zd 3) (Zc (Zd 4) (Zc (Zd 0) Zj))))))))) Zj)))) (s7 W H ss ps c i j m (rows.map (Sy bx by')) (rows'.map (Sy bx by')))=.ok false:=by
  refine dG (Qn (J9 (Law.a1 (d:=.lst (rows'.map λ_=>.bl true)) (Gc (Ui (Gy rfl) (by rw[AC];lia) vQ))) ?_))
  show(match X9 (rows'.map λ_=>D.bl true) with|some bs=>M.ok (D.bl (bs.all id))|none=>.bad)=_
  rw[Lw]
  dsimp only
  rw[JH]
  simp
 have h6:∀{f:Zg->M O}{a0 a1 a2 a3 a4 a5:D},V5 6 2 f [a0,a1,a2,a3,a4,a5]=Wx (f [Io a0,Io a1,Io a2,Io a3,Io a4,Io a5,none,none]):=rfl
 refine h6.trans (Z9 ?_)
 refine go (Z6 (Zw (aC rfl (aC rfl (aC rfl (aC rfl (aC rfl (Law.a1 (d:=.int ((1:Nat):Int)) rfl)))))) fI rfl)) ?_
 refine go (Z6 (Zw (aC rfl (aC (Zk (y:=.lst [c.D]) rfl (V3 (Law.a1 rfl) rfl) gW) (aC rfl (aC rfl (aC rfl (Law.a1 (d:=.int ((1:Nat):Int)) rfl)))))) vA rfl)) ?_
 refine go (Z1 c1) (go (Z1 c2) (Z7 (Zk (x:=.lst (rows.map (Sy bx by'))) (y:=.lst (rows.map (Sy bx by'))) (Zw (aC rfl (aC rfl (aC rfl (aC rfl (aC rfl (Law.a1 (d:=.int ((1:Nat):Int)) rfl)))))) fI rfl) rfl ?_)))
 rw[Km (by simp only[D.dep];lia),D.eq_refl]
end
def xj {z:Nat}{a1 a2 b1 b2 g0 g1 l0 l1 c0 c1 bt pr:Int}(A:WJ z a1 a2)(B:WJ z b1 b2)(hg:0<g1)(hl:0<l1)(hc:0<c1)(m1:g0*(b2*a2)=(b1*a2 + -1*a1*b2)*g1)(m2:l0*(g1*bt)=g0*pr*l1)(m3:c0*(a2*l1)=(a1*l1+1*l0*a2)*c1)(p0:0<pr)(p1:pr<bt):WJ z c0 c1:=by
 obtain⟨kX,kY,vU⟩:=A
 obtain⟨kW,vT,vS⟩:=B
 have key:c0*(bt*(a2*b2))=c1*((bt-pr)*(a1*b2)+pr*(b1*a2)):=by
  refine CD (show l1*g1≠0 by have:=AX hl hg;lia) ?_
  have s1:c0*(bt*(a2*b2))*(l1*g1)=c0*(a2*l1)*(g1*bt*b2):=by grind
  have s2:(a1*l1+1*l0*a2)*c1*(g1*bt*b2)=c1*(a1*l1*(g1*bt*b2)+l0*(g1*bt)*(a2*b2)):=by grind
  have s3:g0*pr*l1*(a2*b2)=pr*l1*(g0*(b2*a2)):=by grind
  rw[s1,m3,s2,m2,s3,m1]
  grind
 have q1:0<=(bt-pr)*(a1*b2):=CK (by lia) (CK kY (AI kW))
 have q2:0<=pr*(b1*a2):=CK (by lia) (CK vT (AI kX))
 have ab:0<a2*b2:=AX kX kW
 have k0:0<bt*(a2*b2):=AX (by lia) ab
 have u1:(bt-pr)*(a1*b2)<=(bt-pr)*((z:Int)*(a2*b2)):=DI (by
  have:=AS vU (AI kW)
  rw[DG] at this;exact this) (by lia)
 have u2:pr*(b1*a2)<=pr*((z:Int)*(a2*b2)):=DI (by
  have:=AS vS (AI kX)
  rw[show(z:Int)*b2*a2=z*(a2*b2) by grind] at this;exact this) (by lia)
 have u3:(bt-pr)*(a1*b2)+pr*(b1*a2)<=(z:Int)*(bt*(a2*b2)):=by
  have:(bt-pr)*((z:Int)*(a2*b2))+pr*((z:Int)*(a2*b2))=(z:Int)*(bt*(a2*b2)):=by grind
  lia
 have n0:0<=(bt-pr)*(a1*b2)+pr*(b1*a2):=Int.add_nonneg q1 q2
 generalize (bt-pr)*(a1*b2)+pr*(b1*a2)=N at *
 refine⟨hc,?_,?_⟩
 .have:=CK (AI hc) n0
  rw[<-key] at this
  rcases FC c0 0 with r|r
  .have:=FS r k0;lia
  .exact r
 .have:=DI u3 (AI hc)
  rw[<-key] at this
  exact FR (by rw[show(z:Int)*c1*(bt*(a2*b2))=c1*(z*(bt*(a2*b2))) by grind];exact this) k0
noncomputable def ng:Zg->M O:=(Zz (Qa 11 (Zu Jr (Zc (Zn Ys (Zn Ys (Zd 5) (Zn Z8 (Zd 6) ↑1)) (Zd 10)) (Zc (Zn Ys (Zn Ys (Zd 5) (Zd 6)) (Zd 10)) (Zc (Dv Pf ↑1) Zj)))))
   (Uv 9 (Zu Jr (Zc (Zn Ys (Zn Ys (Zd 5) (Zd 6)) (Zd 10)) (Zc (Zu Xa (Zc (Zn Zt 11[0]! (Zd 8)) (Zc (Zn Zt 11[1]! (Zd 7)) Zj))) (Zc ↑1 Zj))))))
def rL (o0 o1 o2 o3 o4:Option S){z:Nat}{L dA dB:List D}(k x:Nat){a1 a2 b1 b2 bt pr:Int}(eA:Nw L (k:Int)=some (.tup dA))(eB:Nw L ((k+1:Nat):Int)=some (.tup dB))(xA:Nw dA (x:Int)=some (nD a1 a2))(xB:Nw dB (x:Int)=some (nD b1 b2))(fA:Fr 93 a1 a2)(fB:Fr 93 b1 b2)(iA:WJ z a1 a2)(iB:WJ z b1 b2)(p0:0<pr)(p1:pr<bt)(b7:bt<=7)(acc:List D)(la:acc.length<=10)(v11:Option S):
  ∃c0 c1:Int,Int.gcd c0 c1=1/\WJ z c0 c1/\∃YR:Option S,ng [o0,o1,o2,o3,o4,Io (.lst L),Jo (k:Int),Jo bt,Jo pr,some (.ow acc),Jo (x:Int),v11]=.ok (.nx [o0,o1,o2,o3,o4,Io (.lst L),Jo (k:Int),Jo bt,Jo pr,some (.ow (acc++[nD c0 c1])),Jo (x:Int),YR]):=by
 have s1:=R6 fB fA (by decide) (.inr rfl)
 have x1:(b1*a2).natAbs<=10 ^ (93+93):=Qb fB.top fA.bot
 have x2:(a1*b2).natAbs<=10 ^ (93+93):=Qb fA.top fB.bot
 have x3:(b2*a2).natAbs<=10 ^ (93+93):=Qb fB.bot fA.bot
 have kN:(10:Nat) ^ 187=10*10 ^ (93+93):=rfl
 have bd:(b1*a2 + -1*a1*b2).natAbs<=10 ^ 187/\(b2*a2).natAbs<=10 ^ 187:=by
  rw[kN]
  generalize (10:Nat) ^ (93+93)=Z at *
  rw[DG]
  generalize b1*a2=u at *
  generalize a1*b2=v at *
  lia
 obtain⟨g0,g1,eg,hg,m1,_,lg,kg⟩:=Yb (t:=b1*a2 + -1*a1*b2) (b:=b2*a2) (AX fB.pos fA.pos)
 rw[eg] at s1
 have G0:g0.natAbs<=10 ^ 187:=BA lg bd.1
 have G1:g1.natAbs<=10 ^ 187:=BA (by lia) bd.2
 have ez:(10:Nat) ^ 188=10*10 ^ 187:=rfl
 have gp:(g0*pr).natAbs<=10 ^ 188:=by
  rw[ez,EK,JC]
  exact EI (by lia) G0
 have gb:(g1*bt).natAbs<=10 ^ 188:=by
  rw[ez,EK,JC]
  exact EI (by lia) G1
 have nE:0<g1*bt:=AX hg (by lia)
 have s2:=lV (k:=188) (t:=g0*pr) (b:=g1*bt) ⟨nE,gp,gb⟩ (by decide)
 obtain⟨l0,l1,el,hl,m2,_,ll,kl⟩:=Yb (t:=g0*pr) (b:=g1*bt) nE
 rw[el] at s2
 have s3:=R6 (k:=188) (fA.mono (by decide)) (show Fr 188 l0 l1 from⟨hl,BA ll gp,BA (by lia) gb⟩) (by decide) (.inl rfl)
 obtain⟨c0,c1,ec,hc,m3,gc,_⟩:=Yb (t:=a1*l1+1*l0*a2) (b:=a2*l1) (AX fA.pos hl)
 rw[ec] at s3
 refine⟨c0,c1,gc,xj iA iB hg hl hc m1 m2 m3 p0 p1,Io (nD g0 g1),?_⟩
 have k1:∀r:List (Option S),Zn Z8 (Zd 6) ↑1 (o0::o1::o2::o3::o4::Io (.lst L)::Jo (k:Int)::r)=.ok (.int ((k+1:Nat):Int)):=λr=>Zk (x:=.int (k:Int)) (y:=.int 1) rfl rfl rfl
 exact go (Z6 (Zw (aC (Zo (Jf rfl (k1 _) eB) rfl xB) (aC (Zo (Jf rfl rfl eA) rfl xA) (Law.a1 (d:=.int (-1)) rfl))) s1 rfl))
  (Ce rfl (Zw (aC (Zo (Jf rfl rfl eA) rfl xA) (aC (Zw (aC (Zk (Zo rfl rfl (Ym _ _)) rfl (gT (Qk G0 (by decide)) (Gx (by lia) (by lia)))) (Law.a1 (Zk (Zo rfl rfl (Yi _ _ _)) rfl (gT (Qk G1 (by decide)) (Gx (by lia) (by lia)))))) s2 rfl) (Law.a1 rfl))) s3 rfl) (by lia))
structure Spot (W H:Nat) (c:Po4):Prop where
 gx:Int.gcd c.a c.b=1
 gy:Int.gcd c.c c.d=1
 ix:WJ W c.a c.b
 iy:WJ H c.c c.d
def Fh {z:Nat}{a b:Int}(g:Int.gcd a b=1)(i:WJ z a b)(z8:z<=8)(b1:b≠1)(b2:b<=1000):PIn z a b:=by
 obtain⟨b0,a0,az⟩:=i
 have nw:∀k:Int,k*b≠a:=λk e=>b1 (rb b0 g (c:=k) e.symm)
 have n0:=nw 0
 have nz':=nw z
 have e4:(10:Nat) ^ 4=10000:=rfl
 have wb:(z:Int)*b<=8*1000:=CW (by lia) b2 (by lia) (by decide)
 exact⟨⟨b0,by rw[e4];lia,by rw[e4];lia⟩,by lia,by lia,g,nw,b2⟩
def Spot.ok {W H:Nat}{c:Po4}(h:Spot W H c)(hW:W<=8)(hH:H<=8)(b1:c.b≠1)(b2:c.b<=1000)(d1:c.d≠1)(d2:c.d<=1000):PtOk W H c:=⟨Fh h.gx h.ix hW b1 b2,Fh h.gy h.iy hH d1 d2⟩
def PtOk.spot {W H:Nat}{c:Po4}(h:PtOk W H c):Spot W H c:=by
 have a:=h.x.p0
 have b:=h.x.p1
 have d:=h.y.p0
 have e:=h.y.p1
 exact⟨h.x.g,h.y.g,⟨h.x.fr.pos,by lia,by lia⟩,⟨h.y.fr.pos,by lia,by lia⟩⟩
section
variable {W H:Nat}{T:Int}{p o:Po4}{ppl tn:List D}{i j:Nat}{segs:List YZ}
def Zfy (gi:Ys (.lst ppl) (.int (i:Int))=.ok p.D)(gj:Ys (.lst ppl) (.int (j:Int))=.ok o.D)(h1:segs.map sA=p.D::tn)(h2:segs.map sB=tn++[o.D])(ok:∀g∈segs,UD W H T g)(lt:tn.length<=900){r0 r1:D}(N:Int):∃c:Po4,Spot W H c/\V2 [.lst ppl,.int (i:Int),.int (j:Int),.tup [r0,r1,.lst tn],.int N]=.ok (.im c.D):=by
 have ln:=congrArg List.length h1
 rw[AC,AH] at ln
 obtain⟨k,ek,hk⟩:=P0 N (m:=tn.length+1) (by lia)
 obtain⟨g,hg⟩:∃g,segs[k]?=some g:=⟨segs[k],AU (by lia)⟩
 obtain⟨s1,s2⟩:=Fg h1 h2 hg
 have okg:=ok g (BZ hg)
 obtain⟨a1,a2,a3,a4,eA,fA,_,fA',_⟩:=okg.pA
 obtain⟨b1,b2,b3,b4,eB,fB,_,fB',_⟩:=okg.pB
 obtain⟨a1',a2',a3',a4',nX,iA,tu⟩:=okg.iA
 obtain⟨b1',b2',b3',b4',nW,iB,tq⟩:=okg.iB
 have SH:∀{x y z w:D},(.tup [x,y]:D)=.tup [z,w]->x=z/\y=w:=λ{x y z w} h=>by
  injection h with h
  injection h with h1 h
  injection h with h2 _
  exact⟨h1,h2⟩
 rw[eA] at nX s1
 rw[eB] at nW s2
 obtain⟨u1,u2⟩:=SH nX
 obtain⟨u3,u4⟩:=SH nW
 obtain⟨rfl,rfl⟩:=Kt u1
 obtain⟨rfl,rfl⟩:=Kt u2
 obtain⟨rfl,rfl⟩:=Kt u3
 obtain⟨rfl,rfl⟩:=Kt u4
 have dW:=BQ (N/8) (show(6:Int)≠0 by decide)
 have gF:=BK (N/8) (show(0:Int)<6 by decide)
 generalize ur:2+N/8%6=bt at *
 have r3:=BQ (N/64) (show bt-1≠0 by lia)
 have r4:=BK (N/64) (show 0<bt-1 by lia)
 generalize uM:1+N/64%(bt-1)=pr at *
 have e5:Zn Z8 (Zn Z8 (Jk (Zc (Zn Ys (Zd 0) (Zd 1)) Zj)) 3[2]!) (Jk (Zc (Zn Ys (Zd 0) (Zd 2)) Zj)) [Io (.lst ppl),Jo (i:Int),Jo (j:Int),Io (.tup [r0,r1,.lst tn]),Jo N,none,none,none,none,none,none,none]=.ok (.lst (p.D::tn++[o.D])):=
  Zk (Zk (x:=.lst [p.D]) (y:=.lst tn) (V3 (Law.a1 (Zk rfl rfl gi)) rfl) (Zo rfl rfl rfl) (Gb (by rw[AZ];lia))) (y:=.lst [o.D]) (V3 (Law.a1 (Zk rfl rfl gj)) rfl) (Gb (by rw[AJ,AZ,AZ];lia))
 have e6:Zn Q7 (Zd 4) (Zn DL.Vl (K6 Wj (Zc (Zd 5) Zj)) ↑1) [Io (.lst ppl),Jo (i:Int),Jo (j:Int),Io (.tup [r0,r1,.lst tn]),Jo N,Io (.lst (p.D::tn++[o.D])),none,none,none,none,none,none]=.ok (.int (k:Int)):=by
  refine Zk (x:=.int N) (y:=.int ((tn.length+1:Nat):Int)) rfl (Zk (x:=.int ((tn.length+2:Nat):Int)) (y:=.int 1) (J9 (Law.a1 rfl) ?_) rfl ?_) ?_
  .rw[Rz]
   congr 2
   rw[AJ,AH,AZ]
  .show M.ok (D.int (((tn.length+2:Nat):Int)-1))=_
   congr 2
   lia
  .rw[gM (by lia),ek]
 generalize hL:p.D::tn++[o.D]=L at *
 have e7:Zn Z8 ↑2 (Zn Q7 (Zn Yz (Zd 4) ↑8) ↑6) [Io (.lst ppl),Jo (i:Int),Jo (j:Int),Io (.tup [r0,r1,.lst tn]),Jo N,Io (.lst L),Jo (k:Int),none,none,none,none,none]=.ok (.int bt):=Zk rfl (Zk (Zk rfl rfl (Eo (by decide) (Gx (by decide) (by decide)))) rfl (gM (by decide))) (by rw[<-ur];rfl)
 have e8:Zn Z8 ↑1 (Zn Q7 (Zn Yz (Zd 4) ↑64) (Zn DL.Vl (Zd 7) ↑1)) [Io (.lst ppl),Jo (i:Int),Jo (j:Int),Io (.tup [r0,r1,.lst tn]),Jo N,Io (.lst L),Jo (k:Int),Jo bt,none,none,none,none]=.ok (.int pr):=Zk rfl (Zk (Zk rfl rfl (Eo (by decide) (Gx (by decide) (by decide)))) (Zk (x:=.int bt) (y:=.int 1) rfl rfl rfl) (gM (by lia))) (by rw[<-uM];rfl)
 obtain⟨c0,c1,gc,ic,YR,t0⟩:=rL (Io (.lst ppl)) (Jo (i:Int)) (Jo (j:Int)) (Io (.tup [r0,r1,.lst tn])) (Jo N) k 0 (Jq s1) (Jq s2) rfl rfl fA fB iA iB (by lia:0<pr) (by lia:pr<bt) (by lia) [] (by simp) none
 obtain⟨d0,d1,gd,tj,rq,t1⟩:=rL (Io (.lst ppl)) (Jo (i:Int)) (Jo (j:Int)) (Io (.tup [r0,r1,.lst tn])) (Jo N) k 1 (Jq s1) (Jq s2) rfl rfl fA' fB' tu tq (by lia:0<pr) (by lia:pr<bt) (by lia) [nD c0 c1] (by simp) YR
 refine⟨⟨c0,c1,d0,d1⟩,⟨gc,gd,ic,tj⟩,?_⟩
 have h5:∀{f:Zg->M O}{a0 a1 a2 a3 a4:D},V5 5 7 f [a0,a1,a2,a3,a4]=Wx (f [Io a0,Io a1,Io a2,Io a3,Io a4,none,none,none,none,none,none,none]):=rfl
 refine h5.trans (Z9 (go (Z6 e5) (go (Z6 e6) (go (Z6 e7) (go (Z6 e8) (go (Vh 9 _) (go (f:=Ke _ (Xd 10) ng) ((Yd (aH (n:=2) (Law.a1 rfl) (by decide))).trans ((Ye rfl t0).trans ((Ye rfl t1).trans rfl))) (Ta (Z7 (Nu (Jf rfl rfl (Ym _ _)) (Jf rfl rfl (Yi _ _ _))))))))))))
end
def xC (ps:List Po4)(c:Po4):∃b:Bool,Jp [.lst (ps.map Po4.D),c.D]=.ok (.im (.bl b))/\(b=true->c.b≠1/\c.b<=1000/\c.d≠1/\c.d<=1000):=by
 have tt:∀(a b:Int),DL.tO (DL.tB (Zn Kp 2[1]! ↑1)) (DL.tB (Zn N6 2[1]! ↑1000)) [Io (.lst (ps.map Po4.D)),Io c.D,Io (nD a b)]=.ok ((b==1)||decide (1000<b)):=λa b=>lF (Qn (Zk (x:=.int b) (Zo rfl rfl (Yi _ _ _)) rfl (Ju _ _))) (Qn (Zk (x:=.int b) (Zo rfl rfl (Yi _ _ _)) rfl rfl))
 have dp:D.deps (ps.map Po4.D)<=60:=by
  have:D.deps (ps.map Po4.D)<=5:=Vi λd hd=>by
   obtain⟨q,_,rfl⟩:=CH.mp hd
   simp[Po4.D,nD,D.dep,D.deps]
  lia
 have t1:=tt c.a c.b
 have t2:=tt c.c c.d
 have lp:Kl (Zd 1) [Io (.lst (ps.map Po4.D)),Io c.D,none]=.ok [nD c.a c.b,nD c.c c.d]:=Ep rfl
 by_cases g1:c.b≠1/\c.b<=1000
 .rw[show((c.b==1)||decide (1000<c.b))=false by simp[g1.1];lia] at t1
  by_cases g2:c.d≠1/\c.d<=1000
  .rw[show((c.d==1)||decide (1000<c.d))=false by simp[g2.1];lia] at t2
   exact⟨!Ds c.D (ps.map Po4.D),(Oq _ _ _ _).trans (Z9 (go ((Yd lp).trans ((Ye rfl (Z1 t1)).trans ((Ye rfl (Z1 t2)).trans rfl))) (Z7 (Zk (x:=c.D) (y:=.lst (ps.map Po4.D)) rfl rfl (AD dp))))),λ_=>⟨g1.1,g1.2,g2.1,g2.2⟩⟩
  .rw[show((c.d==1)||decide (1000<c.d))=true by
    by_cases q:c.d=1
    .simp[q]
    .simp[q];lia] at t2
   exact⟨false,(Oq _ _ _ _).trans (Z9 (Ya ((Yd lp).trans ((Ye rfl (Z1 t1)).trans (Tc rfl (Qj t2 (Z7 rfl))))))),λz=>by cases z⟩
 .rw[show((c.b==1)||decide (1000<c.b))=true by
   by_cases q:c.b=1
   .simp[q]
   .simp[q];lia] at t1
  exact⟨false,(Oq _ _ _ _).trans (Z9 (Ya ((Yd lp).trans (Tc rfl (Qj t1 (Z7 rfl)))))),λz=>by cases z⟩
section
variable {W H:Nat}{ss:List Sd}{ps:List Po4}{p o:Po4}{m:Nat}{q:U7}{xs ys:List Int}{rows:List YY}
def Ways.sok (hW:W<=8)(hH:H<=8)(ho:PtOk W H p)(oo:PtOk W H o)(hx:(m+1)*W<=14)(hy:(m+1)*H<=14)(w:Ways W H ss q m p o xs ys rows){t:Int×Int}(ht:t∈(xs.flatMap λx=>ys.map λy=>(x,y)).filter nz):QT (Us (p.b*o.b) (p.d*o.d) t):=by
 obtain⟨B0,B1,C0,C1⟩:=gh hW hH ho oo
 obtain⟨mx,my,hz⟩:=mem_prs.mp ht
 exact(Cr B0 (by lia) C0 (by lia) (Ul w.tx B0 hx mx) (Ul w.ty C0 hy my) hz).1
theorem Ways.dep (hW:W<=8)(hH:H<=8)(hl:ss.length<=400)(hp:∀p∈ps,PtOk W H p)(e2:∀x y:Int,look q [.inl x,.inl y]=look [] [.inl x,.inl y]++(ps.filter (Wo x y)).map Po4.D)(ho:PtOk W H p)(oo:PtOk W H o)(hm:m<=900)(hx:(m+1)*W<=14)(hy:(m+1)*H<=14)(w:Ways W H ss q m p o xs ys rows){bx by':Int}:D.dep (.lst (rows.map (Gg bx by')))<=60:=by
 have:D.deps (rows.map (Gg bx by'))<=20:=Vi λd hd=>by
  obtain⟨r,hr,rfl⟩:=CH.mp hd
  obtain⟨h1,h2⟩:=(w.mem r.1 r.2).mp hr
  obtain⟨_,_,_,_,_,v,_⟩:=n9 hW hH hl hp e2 ho (w.sok hW hH ho oo hx hy h1) hm h2
  have k:D.deps r.2<=10:=Vi λx hx=>L3 (v x hx)
  unfold Gg
  simp only[Xt,nD,D.dep,D.deps]
  lia
 simp only[D.dep]
 lia
end
abbrev bw (N:List D)(W H m:Nat)(ss:List Sd)(ps:List Po4)(i j:Nat)(RW:List D)(u0 u1:Int)(c:Po4)(r:List (Option S)):Zg:=Io (.lst N)::Jo (W:Int)::Jo (H:Int)::Jo (m:Int)::Io (Qo W H ss)::Io (.lst (ps.map Po4.D))::Jo (i:Int)::Jo (j:Int)::Io (.lst RW)::Io (.lst [.int u0,.int u1])::Io c.D::r
def law_true (ns:List Int)(UI:ns.length<=63):Bu [.lst (ns.map D.int)]=.ok (.im (.bl true)):=by
 obtain⟨W,H,m,w0,w1,h0,h1,m3,hx,hy,es⟩:=xm (cz ns 0)
 have hW:W<=8:=by lia
 have hH:H<=8:=by lia
 obtain⟨ss,aw,eh⟩:=xq (cz ns 1) w1 h1
 obtain⟨n,en,hn⟩:=P0 (cz ns 3) (m:=3) (by decide)
 obtain⟨ps,hp,nd,lp,ma,ep⟩:=Es (cz ns 2) (n:=1+n) (by lia) (by lia) w0 hW h0 hH
 obtain⟨i,ei,hi⟩:=P0 (cz ns 4) (m:=ps.length) ma
 obtain⟨j,ej,hj⟩:=P0 (cz ns 4/8) (m:=ps.length) ma
 have gi:ps[i]?=some ps[i]:=AU hi
 have gj:ps[j]?=some ps[j]:=AU hj
 generalize ps[i]=p at gi
 generalize ps[j]=o at gj
 have op:=hp p (BZ gi)
 have oo:=hp o (BZ gj)
 obtain⟨q,hq,e2⟩:=fS ps [] λr hr=>(hp r hr).ok
 obtain⟨xs,ys,rows,wA,fA⟩:=Ic (ss:=ss) (m:=m) hW hH aw hp hq e2 (by lia) gi gj (by lia) hx hy
 obtain⟨nb,uQ,_,vF⟩:=Rx (cz ns 5) 2 (by decide)
 obtain⟨u0,u1,rfl⟩:∃u0 u1,nb=[u0,u1]:=by
  match nb,uQ with
  |[a,b],_=>exact⟨a,b,rfl⟩
 obtain⟨mR,dn,_,lq,tV,eq1⟩:=Es (cz ns 6) (n:=1) (by decide) (by decide) w0 hW h0 hH
 obtain⟨c0,rfl⟩:∃c0,mR=[c0]:=by
  match mR,lq,tV with
  |[a],_,_=>exact⟨a,rfl⟩
  |[],_,h=>simp at h
  |_::_::_,h,_=>simp at h
 have nB:=aZ gi
 have nA:=aZ gj
 have dU:=wA.dep (bx:=p.b*o.b) (by':=p.d*o.d) hW hH aw hp e2 op oo (by lia) hx hy
 have lA:=wA.few hx hy
 have seg:=fun(r:YY) (hr:r∈rows)=>n9 hW hH aw hp e2 op (wA.sok hW hH op oo hx hy ((wA.mem r.1 r.2).mp hr).1) (by lia) ((wA.mem r.1 r.2).mp hr).2
 have f0:=Nv ns 0 UI
 have f1:=Nv ns 1 UI
 have f2:=Nv ns 2 UI
 have f3:=Nv ns 3 UI
 have f4:=Nv ns 4 UI
 have f5:=Nv ns 5 UI
 have f6:=Nv ns 6 UI
 have cn:((1+n:Nat):Int)=1+(n:Int):=by lia
 rw[cn] at ep
 generalize hN:ns.map D.int=N at *
 generalize hR:rows.map (Gg (p.b*o.b) (p.d*o.d))=RW at *
 have cl:∀(k:Nat) (r:List (Option S)),Y6 [.lst N,.int (k:Int)]=.ok (.im (.int (cz ns k)))->Zu Y6 (Zc (Zd 0) (Zc (eC (.int (k:Int))) Zj)) (Io (.lst N)::r)=.ok (.int (cz ns k)):=λk r h=>Zw (aC rfl (Law.a1 rfl)) h rfl
 have pn:∀r:List (Option S),Zn Z8 ↑1 (Zn Q7 (Zu Y6 (Zc (Zd 0) (Zc ↑3 Zj))) ↑3) (Io (.lst N)::r)=.ok (.int (1+(n:Int))):=λr=>Zk rfl (Zk (cl 3 r f3) rfl (gM (by decide))) (by rw[show cz ns 3%3=(n:Int) from en];rfl)
 have ln:∀(o1 o2 o3 o4:Option S) (r:List (Option S)),K6 Wj (Zc (Zd 5) Zj) (Io (.lst N)::o1::o2::o3::o4::Io (.lst (ps.map Po4.D))::r)=.ok (.int (ps.length:Int)):=λo1 o2 o3 o4 r=>J9 (Law.a1 rfl) (by rw[Rz,AC])
 obtain⟨c,hc,ec⟩:∃c:Po4,Spot W H c/\(Js (DL.tA (DL.tB (Zn Gv (Zd 8) (Jk Zj))) (DL.tB (Zn N6 (Zn Q7 9[1]! ↑3) ↑0))) (Qa 10 (Zu V2 (Zc (Zd 5) (Zc (Zd 6) (Zc (Zd 7) (Zc (Zn Ys (Zd 8) (Zn Q7 9[0]! (K6 Wj (Zc (Zd 8) Zj)))) (Zc (Zn Z8 (Zn Yz 9[0]! ↑7) 9[1]!) Zj))))))) Yp) (bw N W H m ss ps i j RW u0 u1 c0 [none])=.ok (.nx (bw N W H m ss ps i j RW u0 u1 c [none])):=by
  have t1:DL.tB (Zn Gv (Zd 8) (Jk Zj)) (bw N W H m ss ps i j RW u0 u1 c0 [none])=.ok (!D.eq (.lst RW) (.lst [])):=Qn (Zk (x:=.lst RW) (y:=.lst []) rfl (V3 rfl rfl) (Uz dU))
  have t2:DL.tB (Zn N6 (Zn Q7 9[1]! ↑3) ↑0) (bw N W H m ss ps i j RW u0 u1 c0 [none])=.ok (decide (0<u1%3)):=Qn (Zk (Zk (Jf rfl rfl (Yi _ _ _)) rfl (gM (by decide))) rfl rfl)
  have tt:=iQ t1 t2
  cases hb:(!D.eq (.lst RW) (.lst [])&&decide (0<u1%3)) with
  |false=>
   rw[hb] at tt
   exact⟨c0,(dn c0 (.head _)).spot,Z1 tt⟩
  |true=>
   rw[hb] at tt
   have l0:1<=rows.length:=by
    rcases Nat.eq_zero_or_pos rows.length with z|z
    .rw[IV.mp z] at hR
     rw[<-hR] at hb
     simp[D.eq,D.eqs] at hb
    .exact z
   obtain⟨k,ek,hk⟩:=P0 u0 (m:=rows.length) l0
   have hr:rows[k]?=some rows[k]:=AU hk
   generalize rows[k]=r at hr
   obtain⟨segs,s1,s2,s3,s4,_⟩:=seg r (BZ hr)
   obtain⟨c,hc,ec⟩:=Zfy nB nA s1 s2 s3 (by lia) (r0:=Xt r.1.1 (p.b*o.b)) (r1:=Xt r.1.2 (p.d*o.d)) (u0/7+u1)
   refine⟨c,hc,Qj tt (Z6 (Zw (aC rfl (aC rfl (aC rfl (aC (Jf (i:=(k:Int)) rfl (Zk (Jf rfl rfl (Ym _ _)) (y:=.int (rows.length:Int)) (J9 (Law.a1 rfl) (by rw[Rz,<-hR,AC])) (by rw[gM (by lia),ek])) (Jq (show RW[k]?=some (Gg (p.b*o.b) (p.d*o.d) r) by rw[<-hR,BE,hr];rfl))) (Law.a1 (d:=.int (u0/7+u1)) (Zk (Zk (Jf rfl rfl (Ym _ _)) rfl (Eo (by decide) (Gx (by decide) (by decide)))) (Jf rfl rfl (Yi _ _ _)) rfl)))))) ec rfl))⟩
 obtain⟨b,em,hb⟩:=xC ps c
 have tm:∀r:List (Option S),DL.tN (DL.tB (Zu Jp (Zc (Zd 5) (Zc (Zd 10) Zj)))) (bw N W H m ss ps i j RW u0 u1 c r)=.ok (!b):=λr=>iS (Qn (Zw (aC rfl (Law.a1 rfl)) em rfl))
 refine(gq _ _ _).trans (Z9 ?_)
 refine go (oA (Zw (Law.a1 (cl 0 _ f0)) es rfl)) ?_
 refine go (Z6 (Zw (aC (cl 1 _ f1) (aC rfl (Law.a1 rfl))) eh rfl)) ?_
 refine go (Z6 (Zw (aC (cl 2 _ f2) (aC (pn _) (aC rfl (Law.a1 rfl)))) ep rfl)) ?_
 refine go (Z6 (d:=.int (i:Int)) (Zk (cl 4 _ f4) (ln _ _ _ _ _) (by rw[gM (by lia),ei]))) ?_
 refine go (Z6 (d:=.int (j:Int)) (Zk (Zk (cl 4 _ f4) rfl (Eo (by decide) (Gx (by decide) (by decide)))) (ln _ _ _ _ _) (by rw[gM (by lia),ej]))) ?_
 refine go (Z6 (Zw (aC rfl (aC rfl (aC rfl (aC rfl (Law.a1 rfl))))) fA rfl)) ?_
 refine go (Z6 (Zw (aC (cl 5 _ f5) (Law.a1 (d:=.int ((2:Nat):Int)) rfl)) vF rfl)) ?_
 refine go (Z6 (d:=c0.D) (Jf (ds:=[c0.D]) (Zw (aC (cl 6 _ f6) (aC (d:=.int ((1:Nat):Int)) rfl (aC rfl (Law.a1 rfl)))) eq1 rfl) rfl (Ym _ _))) ?_
 refine go ec ?_
 cases b with
 |false=>exact Ya (Qj (tm _) (Z7 rfl))
 |true=>
  obtain⟨b1,b2,b3,b4⟩:=hb rfl
  have oc:=hc.ok hW hH b1 b2 b3 b4
  refine go (Z1 (tm _)) ?_
  have VU:=Cq hp oc
  have uW:(ps++[c]).length<=64:=by rw[AJ,AZ];lia
  have gQ:(ps++[c])[i]?=some p:=by rw[BC hi];exact gi
  have gO:(ps++[c])[j]?=some o:=by rw[BC hj];exact gj
  obtain⟨q',VN,UJ⟩:=fS (ps++[c]) [] λr hr=>(VU r hr).ok
  obtain⟨xs',ys',rows',wB,fB⟩:=Ic (ss:=ss) (m:=m) hW hH aw VU VN UJ (by lia) gQ gO (by lia) hx hy
  have dS:=wB.dep (bx:=p.b*o.b) (by':=p.d*o.d) hW hH aw VU UJ op oo (by lia) hx hy
  obtain⟨thr,de⟩:=Classical.axiomOfChoice (r:=fun(r:YY) (b:Bool)=>r∈rows->(X6 [.lst (ps.map Po4.D),.int (i:Int),.int (j:Int),Gg (p.b*o.b) (p.d*o.d) r,c.D]=.ok (.im (.bl b))/\(b=false↔wD (Qo W H ss) q' p.D (Us (p.b*o.b) (p.d*o.d) r.1).D (.int m)=.ok (.tup [.str (Str.ofString "end"),o.D,.lst r.2])))) (λr=>by
   by_cases hr:r∈rows
   .obtain⟨segs,s1,s2,s3,s4,_,s5⟩:=seg r hr
    refine⟨segs.any (YN c),λ_=>⟨Zci nB nA s1 s2 s3 oc (by lia),?_⟩⟩
    rw[s5 c q' oc UJ,KY]
    simp only[Bool.not_eq_true]
   .exact⟨true,λz=>absurd z hr⟩)
  have eR:=Zch wA wB (thr:=thr) (λr hr=>(de r hr).2) λt ht tn h=>xD hW hH aw hp e2 op (wA.sok hW hH op oo hx hy ht) (by lia) oc UJ h
  have ef:Ni (Xd 0) (DL.tN (DL.tB (Zu X6 (Zc (Zd 1) (Zc (Zd 2) (Zc (Zd 3) (Zc (Zd 0) (Zc (Zd 4) Zj)))))))) (Zd 0) (Ut 1 [5,6,7,10] (bw N W H m ss ps i j RW u0 u1 c [none])) (rows.map (Gg (p.b*o.b) (p.d*o.d)))=.ok (rows'.map (Gg (p.b*o.b) (p.d*o.d))):=by
   rw[eR]
   exact oF (Gg (p.b*o.b) (p.d*o.d)) (Gg (p.b*o.b) (p.d*o.d)) (λr=>!thr r) rows λr hr=>⟨_,rfl,iS (Qn (Zw (aC rfl (aC rfl (aC rfl (aC rfl (Law.a1 rfl))))) (de r hr).1 rfl)),rfl⟩
  rw[hR] at ef
  generalize hR':rows'.map (Gg (p.b*o.b) (p.d*o.d))=lz at *
  have vO:Um (Gn (Kl (Zd 8)) 1 [5,6,7,10] (Xd 0) (DL.tN (DL.tB (Zu X6 (Zc (Zd 1) (Zc (Zd 2) (Zc (Zd 3) (Zc (Zd 0) (Zc (Zd 4) Zj)))))))) (Zd 0)) (bw N W H m ss ps i j RW u0 u1 c [none])=.ok (.lst lz):=by
   refine Gc ?_
   unfold Gn
   rw[Gy (ds:=RW) rfl,M.bind_ok,Ks (by rw[<-hR,AC];lia),AD rfl]
   exact ef
  have gW:Z8 (.lst (ps.map Po4.D)) (.lst [c.D])=.ok (.lst ((ps++[c]).map Po4.D)):=by rw[Gb (by rw[AC,AZ];lia),CY];rfl
  refine go (Z6 vO) ?_
  refine go (Z1 (Os (Qn (Zk (x:=.lst lz) (y:=.lst lz) (Zw (aC rfl (aC (Zk (y:=.lst [c.D]) rfl (V3 (Law.a1 rfl) rfl) gW) (aC rfl (aC rfl (Law.a1 rfl))))) fB rfl) rfl ?_)) (Qn (Zk (x:=.lst RW) (y:=.lst RW) (Zw (aC rfl (aC rfl (aC rfl (aC rfl (Law.a1 rfl))))) fA rfl) rfl ?_)))) ?_
  .rw[Uz dS,D.eq_refl];rfl
  .rw[Uz dU,D.eq_refl];rfl
  .exact Z7 (Zw (aC rfl (aC rfl (aC rfl (aC rfl (aC rfl (Law.a1 rfl)))))) (Zcj hW hH aw hp (by lia) gi gj (by lia) oc) rfl)
end Law
namespace PySem.W.Fast
def tw18058600653509606094:=0
def tw16104528519803012065:=0
def tw17304101633781297331:=0
def tw16624317522982934777:=0
def tw11194100457372250101:=0
def tw8343453458308793057:=0
def tw11648660052454788631:=0
def tw685433018182970842:=0
def tw4352065961061342080:=0
def tw18097264803505251368:=0
def tw756830442102396744:=0
def tw8723700938382016271:=0
def tw3551723780099977245:=0
def tw12354350418869014245:=0
def tw6651293231125308705:=0
def tw12445340071037720867:=0
def tw5090431199104911119:=0
def tw17963990361544719892:=0
def tw17583018451336166513:=0
def tw6604248679752398563:=0
def tw6409658090586144467:=0
def tw5927678853058500788:=0
def tw9106120598482762265:=0
def tw7755061910681676977:=0
def tw9793848891050441147:=0
def tw7717523403596789830:=0
def tw7748163082777657637:=0
def tw18240272142502712113:=0
def tw7017723810456638581:=0
def tw11497555527963483989:=0
def tw6133018441506713091:=0
def tw3380597545362945891:=0
def tw13636149174773674730:=0
def tw8449616871845915144:=0
def tw1443522998980377483:=0
def tw12564071953247163522:=0
def tw14462864434934920946:=0
def tw12259316095943445466:=0
def tw3737537757834265922:=0
def tw13360845062538788594:=0
def tw6805032966173752542:=0
def tw12473306496404031898:=0
def tw3617070936089989782:=0
def tw6493606489569089301:=0
def tw1543557103917504948:=0
def tw1508894363770521915:=0
def tw13347736862092022199:=0
def tw17350575625443753621:=0
def tw17699814109828379008:=0
def tw10547783737501395018:=0
def tw5755089761921246125:=0
def tw18378062513668193450:=0
def tw7103030918636605425:=0
def tw4279983850172993249:=0
def tw8727678115977175710:=0
def tw4460772433398286074:=0
def tw17369364598629312158:=0
def tw7530181540261473155:=0
def tw14362705517766750570:=0
def tw15737638105751326916:=0
def tw14425236039114768042:=0
def tw9486588192036191685:=0
def tw17635008337943886932:=0
def tw9770881235342835971:=0
def tw15979250116448984642:=0
def tw1158416146868651907:=0
def tw9492453462899929144:=0
def tw1656196528734641779:=0
def tw18195268398242865557:=0
def tw5214332224453421225:=0
def tw18136959248746749712:=0
def tw17923220521359115119:=0
def tw8711485421196059055:=0
def tw9047654572877483699:=0
def tw15158556889063042808:=0
def tw951899158919720292:=0
def tw1297205607963749978:=0
def tw5730706769596334322:=0
def tw12829005051325075281:=0
def tw7201281650824118928:=0
end PySem.W.Fast
open PySem PySem.W PyProof.Rows
-- LAST
set_option maxRecDepth 100000 in
set_option maxHeartbeats 0 in
theorem PySem.Challenge.cw_selfsight_k27_whole_one_person_more_holds : PySem.Challenge.rw_selfsight_k27_whole_one_person_more.Holds := by
  w_on; o_law; k_head; (case hw => w_witness2)
  k_fill
  refine Law.walk (l := PySem.Challenge.rw_selfsight_k27_whole_one_person_more) rfl rfl Law.law_true (fun w h Y => PySem.W.kIn_of Y) ?F
  case F =>
    intro w mg fa h KX G hmg
    refine' Law.all_mk KX G hmg ?t0 ?t1 ?t2 ?t3 ?t4 ?t5 ?t6 ?t7 ?t8 ?t9 ?t10 ?t11 ?t12 ?t13 ?t14 ?t15 ?t16 ?t17 ?t18 ?t19 ?t20 ?t21 ?t22 ?t23 ?t24 ?t25 ?t26 ?t27 ?t28 ?t29 ?t30 ?t31 ?t32 ?t33 ?t34 ?t35 ?t36 ?t37 ?t38 ?t39 ?t40 ?t41 ?t42 ?t43 ?t44 ?t45 ?t46 ?t47 ?t48 ?t49 ?t50 ?t51 ?t52 ?t53 ?t54 ?t55 ?t56 ?t57 ?t58 ?t59 ?t60 ?t61 ?t62 ?t63 ?t64 ?t65 ?t66 ?t67 ?t68 ?t69 ?t70 ?t71 ?t72 ?t73 ?t74 ?t75 ?t76 ?t77 ?t78 ?t79 ?t80 ?t81 ?t82 ?t83 ?t84 ?t85 ?t86 ?t87
    case t0 | t1 | t2 | t3 | t4 | t5 | t6 | t7 | t8 | t9 | t10 | t11 | t12 | t13 | t14 | t15 | t16 | t17 | t18 | t19 | t20 | t21 | t22 | t23 | t24 | t25 | t26 | t27 | t28 | t29 | t30 | t31 | t32 | t33 | t34 | t35 | t36 | t37 | t38 | t39 | t40 => refine' DL.dm_mk KX G ?a ?l ?c ?k; (case a | l | c | k => k_is)
    case t41 | t42 => k_is
    case t43 | t44 | t45 | t46 | t47 | t48 | t49 | t50 | t51 => refine' DL.mm_mk ?a ?n ?l ?c ?k; (case a | n | l | c | k => k_is)
    case t52 | t53 | t54 | t55 | t56 | t57 | t58 | t59 | t60 | t61 | t62 | t63 | t64 | t65 | t66 | t67 | t68 | t69 | t70 | t71 | t72 | t73 | t74 | t75 | t76 | t77 | t78 | t79 | t80 | t81 | t82 | t83 | t84 | t85 | t86 => k_is
    case t87 => kernel_rfl

