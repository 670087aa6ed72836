import PyProof.Rows.All
import Wide.All
import OpenK.AllK
import Wide.FinOn
import Lean
import PyProof.EqAt
import PyProof.EqKinds
import PyProof.TupleCall
import PyProof.NeKinds
import PyProof.NsDelKeeps
import PyProof.ExcArgs
import PyProof.ExcAttrAll.ValueError
import PyProof.Rows.SortRunsK
import PyProof.CompUse
import PyProof.AutoSeq1
import PyProof.Rows.Range3
import PyProof.ListRange
import PyProof.TupleOfSeq
import PyProof.CollectIter
import KE.KRevIter
import PyProof.DictFindH
import PyProof.Walk
import PyProof.DictWalks
import PySem.Challenge.RW_selfsight_k41_whole_rings_walked
set_option maxHeartbeats 4000000
set_option linter.all false
set_option maxRecDepth 100000
set_option Elab.async false
def AA:=@PySem.wpAny_bind
def AB:=@PySem.Heap.get?_push_of_some
def AC:=@if_pos
def AD:=@if_neg
def AE:=@PySem.wpAny_pure
def AF:=@List.getElem?_set_ne
def AG:=@List.getElem?_eq_some_iff
def AH:=@PySem.Heap.get?_push_size
def AI:=@Nat.ne_of_lt
def AJ:=@PySem.Heap.lt_size
def AK:=@List.getElem?_set_self
def AL:=@List.size_toArray
def AM:=@Nat.lt_of_lt_of_le
def AN:=@Int.mul_le_mul_of_nonneg_right
def AO:=@Nat.le_refl
def AQ:=@List.mem_cons_of_mem
def AR:=@decide_eq_false
def AS:=@decide_eq_true
def AU:=@Int.mul_pos
def AV:=@Nat.le_trans
def AW:=@List.length_cons
def AX:=@List.mem_cons_self
def AY:=@Bool.false_ne_true
def AZ:=@List.mem_cons
def BA:=@List.map_cons
def BB:=@Int.lt_of_mul_lt_mul_right
def BC:=@Bool.and_eq_true
def BD:=@Option.some.inj
def BE:=@List.length_append
def BF:=@List.getD_eq_getElem?_getD
def BG:=@Int.emod_lt_of_pos
def BH:=@List.getElem?_eq_none_iff
def BI:=@Int.natAbs_mul
def BJ:=@List.append_nil
def BK:=@of_decide_eq_true
def BL:=@Int.mul_lt_mul_left
def BM:=@List.length_map
def BN:=@List.getElem?_append_left
def BO:=@Nat.le_of_ble_eq_true
def BP:=@List.getElem?_map
def BQ:=@Int.mul_lt_mul_of_pos_right
def BR:=@PySem.W.mg_none_of
def BS:=@Int.emod_nonneg
def BU:=@Nat.mul_le_mul
def BV:=@PySem.wpAny_field
def BW:=@Int.le_of_lt
def BX:=@List.find?_cons
def BY:=@PySem.wpAny_holding
def BZ:=@List.getElem?_append_right
def CA:=@List.length_set
def CB:=@PySem.wpAny_mono
def CC:=@List.getElem?_eq_getElem
def CD:=@PySem.Heap.get?_update_other
def CG:=@List.mem_append_right
def CH:=@PySem.sizeLine_eq
def CI:=@Nat.zero_le
def CJ:=@PySem.wpAny_setField_rec
def CK:=@beq_eq_false_iff_ne
def CL:=@Int.mul_one
def CM:=@PySem.PassesOwn.never
def CN:=@List.getElem?_replicate
def CO:=@beq_iff_eq
def CP:=@List.any_cons
def CQ:=@Ne.symm
def CS:=@Bool.false_eq_true
def CT:=@Int.one_mul
def CU:=@PySem.Heap.size_push
def CV:=@Int.mul_assoc
def CW:=@PySem.wpAny_callSpecial?_slot
def CY:=@Option.map_eq_some_iff
def CZ:=@Int.eq_of_mul_eq_mul_right
def DA:=@List.mem_append
def DB:=@List.drop_eq_getElem_cons
def DC:=@PySem.wpAny_newObj_type
def DD:=@List.length_singleton
def DE:=@List.length_replicate
def DF:=@Int.natAbs_dvd_natAbs
def DG:=@List.mem_singleton
def DH:=@Nat.ne_of_gt
def DI:=@PySem.wpAny_call_entry
def DJ:=@Int.mul_eq_zero
def DK:=@PySem.wpAny_truthy_bool
def DM:=@Int.add_mul
def DN:=@PySem.Paired.length
def DO:=@PyProof.Rows.slot_tupleiter_next
def DP:=@PySem.mem_of_lookup
def DQ:=@if_false
def DR:=@Nat.le_succ
def DS:=@Int.mul_zero
def DT:=@PySem.wpAny_seqItems
def DU:=@Bool.or_eq_true
def DV:=@List.all_cons
def DW:=@decide_eq_true_eq
def DX:=@PyProof.Rows.callWith_type1
def DY:=@Nat.lt_succ_of_lt
def DZ:=@PySem.wpAny_Call_Name_kw
def Do:=@PySem.tupleKind_room_in1
def EA:=@PySem.wpAny_passesOwn
def EB:=@if_true
def EC:=@Nat.lt_succ_self
def ED:=@List.lookup_cons
def EF:=@PySem.Heap.get?_update_self
def EG:=@PySem.wpAny_pyIter_list
def EH:=@PySem.wpAny_loadPart_at
def EI:=@Int.lt_of_mul_lt_mul_left
def EJ:=@Int.eq_of_mul_eq_mul_left
def EK:=@Array.length_toList
def EL:=@Nat.lt_irrefl
def EM:=@PySem.W.kia_one
def EN:=@List.mem_filter
def EO:=@PySem.W.callWith_K
def ER:=@Int.natAbs_natCast
def ES:=@List.getElem?_cons_succ
def ET:=@PySem.Heap.SameBut.update
def EU:=@List.mem_map
def EV:=@Int.mul_comm
def EW:=@Int.gcd_dvd_right
def EX:=@PySem.wpAny_execs_nil
def EY:=@PyProof.Rows.slot_tuple_getitem
def EZ:=@PySem.Calls.spliced_cons
def FA:=@Int.mul_ediv_add_emod
def FC:=@PySem.codeAny_mono
def FD:=@Int.mul_add
def FE:=@List.nodup_cons
def FF:=@List.length_nil
def FG:=@PySem.F.slot_enumerate_next
def FH:=@List.map_nil
def FJ:=@Int.zero_mul
def FK:=@PySem.wpAny_standAt
def FM:=@Int.mul_neg_of_pos_of_neg
def FN:=@PySem.W.mg_of
def FO:=@Option.isSome_iff_exists
def FP:=@Nat.le_of_dvd
def FQ:=@Int.pos_of_mul_pos_right
def FR:=@PySem.wpAny_rule
def FS:=@beq_self_eq_true
def FT:=@PySem.Obj.data_mapFields
def FU:=@Nat.le_of_not_lt
def FV:=@Nat.le_add_right
def FW:=@Nat.add_sub_cancel_left
def FX:=@List.length_take
def FY:=@Int.pos_of_mul_pos_left
def FZ:=@Int.gcd_dvd_left
def GC:=@Option.map_eq_none_iff
def GD:=@Nat.le_mul_of_pos_left
def GE:=@List.range_succ_eq_map
def GF:=@PySem.atKey_none_of_get
def GG:=@Option.map_some
def GH:=@PySem.wpAny_newList
def GI:=@PySem.wpAny_attempt
def GJ:=@PySem.F.slot_dict_get
def GK:=@Int.mul_nonneg
def GL:=@Int.le_refl
def GM:=@Iff.rfl
def GN:=@PySem.wpAny_call
def GO:=@PySem.W.plainGet_of
def GP:=@List.take_succ_cons
def GQ:=@List.filterMap_cons
def GR:=@PySem.Calls.callWith_builtin
def GS:=@PySem.wpAny_loadPart'
def GT:=@PySem.F.slot_zip_next
def GU:=@Bool.or_false
def GV:=@PySem.Obj.isFreed_of_fields
def GW:=@List.pairwise_cons
def GX:=@PyProof.Rows.listUpdate_at
def GY:=@PyProof.Rows.entry_tupleiter_next
def GZ:=@PySem.wpAny_updateSeq_pair
def HA:=@PySem.wpAny_setField
def HB:=@PySem.wpAny_newTuple
def HC:=@PyProof.Rows.args_tupleiter_next
def HD:=@Option.isSome_map
def HE:=@Nat.le_succ_of_le
def HF:=@List.append_assoc
def HG:=@Int.toNat_natCast
def HH:=@PySem.Calls.evalArgs_plain
def HI:=@Bool.eq_false_iff
def HJ:=@List.not_mem_nil
def HK:=@List.length_drop
def HL:=@List.any_eq_true
def HM:=@PySem.wpAny_onRaise
def HN:=@Int.one_dvd
def HP:=@Int.mul_le_mul_of_nonneg_left
def HQ:=@PySem.F.slot_dict_setdefault
def HR:=@List.of_mem_zip
def HS:=@List.map_append
def HU:=@List.forIn_cons
def HV:=@PySem.Code.quiet_builtin
def HW:=@Bool.eq_iff_iff
def HX:=@List.drop_zero
def HY:=@List.Perm.refl
def HZ:=@PySem.Calls.spliced_nil
def IA:=@Array.getElem?_eq_some_iff
def IB:=@PySem.plainObj_wpAny_Assign_Attribute
def IC:=@List.mem_of_find?_eq_some
def ID:=@Int.natAbs_ediv_le_natAbs
def IE:=@PySem.wpAny_execs_cons
def IF:=@PySem.F.type_list_append
def IG:=@PySem.F.slot_list_append
def IH:=@PySem.F.args_tuple_add_2
def II:=@Int.mul_ediv_cancel_left
def IJ:=@PySem.wpAny_letGo
def IK:=@PySem.F.plainAttrs_list
def IL:=@PySem.F.plainAttrs_dict
def IM:=@PySem.F.entry_tuple_add
def IP:=@PySem.F.attr_ValueError
def IQ:=@PySem.F.args_dict_get_3
def IR:=@Option.bind_eq_some_iff
def IS:=@Nat.exists_eq_add_of_le
def IT:=@List.getElem?_cons_zero
def IU:=@Int.eq_ofNat_of_zero_le
def IV:=@PySem.wpAny_specialOf
def IW:=@PySem.W.cellsFrom_some
def IX:=@PySem.F.slot_tuple_add
def IY:=@PySem.F.entry_dict_get
def IZ:=@Nat.le_of_lt
def JA:=@Nat.le_of_eq
def JB:=@Nat.gcd_comm
def JC:=@List.take_of_length_le
def JD:=@List.drop_eq_nil_of_le
def JE:=@List.any_nil
def JF:=@PyProof.Rows.assignInOrder_cons
def JG:=@PySem.W.methodCall_KW
def JH:=@List.getElem?_eq_none
def JI:=@Nat.pow_pos
def JJ:=@Nat.pow_lt_pow_right
def JK:=@Nat.pow_le_pow_right
def JL:=@List.mem_append_left
def JM:=@Int.sub_mul
def JN:=@Int.mul_sub
def JO:=@Int.mul_ediv_cancel'
def JP:=@PySem.Calls.Name_function_global
def JQ:=@PyProof.Rows.listItems_at
def JR:=@Nat.pow_le_pow_left
def JS:=@List.mem_map_of_mem
def JT:=@Int.mul_ediv_cancel
def JU:=@Int.gcd_eq_zero_iff
def JV:=@Int.add_left_cancel
def JW:=@PySem.Calls.call_function_entry
def JX:=@of_decide_eq_false
def JY:=@Option.isSome_none
def JZ:=@Nat.pos_of_ne_zero
def KA:=@List.mem_filterMap
def KB:=@List.find?_eq_none
def KC:=@List.contains_cons
def KD:=@Int.natCast_nonneg
def KF:=@Int.mul_right_comm
def KG:=@Array.find?_toList
def KH:=@bne_self_eq_false
def KJ:=@PySem.Within.cons
def KL:=@List.nodup_append
def KM:=@Int.mul_left_comm
def KN:=@Int.emod_eq_of_lt
def KO:=@PySem.F.args_enumerate_next_1
def KP:=@Eq.symm
def KQ:=@PySem.wpAny_typeOf
def KR:=@PySem.wpAny_pyNext_list_item
def KS:=@PyProof.Rows.seqEpoch_at
def KU:=@PySem.concat_meets
def KW:=@PySem.call_meetsIn
def KY:=@Option.getD_some
def KZ:=@Option.getD_none
def LA:=@Option.bind_some
def LB:=@Nat.min_eq_right
def LC:=@List.zipIdx_cons
def LD:=@List.mem_flatMap
def LF:=@List.cons_append
def LG:=@List.all_eq_true
def LH:=@PySem.Heap.size_after_update
def LI:=@PySem.F.entry_enumerate_next
def LJ:=@PySem.wpAny_pyNext_list_end
def LK:=@PySem.wpAny_isTrue_Compare1
def LL:=@PyProof.Rows.get?_update_seq
def LM:=@Nat.min_eq_left
def LN:=@List.zipIdx_nil
def LO:=@PySem.storedH_new
def LP:=@or_false
def LQ:=@PySem.codeAny_call_builtin
def LR:=@PySem.Paired.snoc
def LS:=@PySem.Obj.data_mapDictKeys
def LU:=@List.take_zero
def LV:=@List.mem_range
def LW:=@List.forIn_nil
def LX:=@Int.mul_le_mul
def LY:=@Bool.false_and
local macro_rules
 |`(tactic|trivial)=>`(tactic|exact Or.inr (Or.inr rfl))
local macro_rules
 |`(tactic|trivial)=>`(tactic|exact Or.inr (Or.inl rfl))
local macro_rules
 |`(tactic|trivial)=>`(tactic|exact Or.inr rfl)
local macro_rules
 |`(tactic|trivial)=>`(tactic|exact Or.inl rfl)
namespace L2
open PySem PySem.Spec PyProof.Rows
abbrev Q9:=Sum Int Str
def Tm:Q9->Value->Bool
 |.inl k,v=>Value.isInt k v
 |.inr x,v=>Value.isStrOf x v
def uM (w:World):Q9->Int
 |.inl k=>hashInt k
 |.inr x=>hashStr w x
def Yc:∀{k:Q9}{v:Value},Tm k v=true->(∃i t,k=Sum.inl i/\v=Value.int i t)\/(∃x t,k=Sum.inr x/\v=Value.str x t)
 |.inl i,v,h=>by
  obtain⟨t,e⟩:=Value.isInt_shape (k:=i) (v:=v) h
  exact .inl ⟨i,t,rfl,e⟩
 |.inr x,v,h=>by
  obtain⟨t,e⟩:=Value.isStrOf_shape (x:=x) (v:=v) h
  exact .inr ⟨x,t,rfl,e⟩
def Ip (i:Int)(t:Tok):Tm (.inl i) (.int i t)=true:=by simp[Tm,Value.isInt]
def Iq (x:Str)(t:Tok):Tm (.inr x) (.str x t)=true:=by simp[Tm,Value.isStrOf]
def yB (a b:Int):decide ((Sum.inl a:Q9)=Sum.inl b)=(a==b):=by
 by_cases e:a=b
 .subst e;simp
 .have h:¬(Sum.inl a:Q9)=Sum.inl b:=λq=>e (Sum.inl.inj q)
  rw[AR h]
  exact(CK.mpr e).symm
def yA (a b:Str):decide ((Sum.inr a:Q9)=Sum.inr b)=decide (a=b):=by
 by_cases e:a=b
 .subst e;simp
 .have h:¬(Sum.inr a:Q9)=Sum.inr b:=λq=>e (Sum.inr.inj q)
  rw[AR h,AR e]
def xg (a:Int)(b:Str):decide ((Sum.inl a:Q9)=Sum.inr b)=false:=AR (λq=>nomatch q)
def xb (a:Str)(b:Int):decide ((Sum.inr a:Q9)=Sum.inl b)=false:=AR (λq=>nomatch q)
def Yw (prog:Program)(w:World):PySem.KeyKind prog w Q9 where
 is:=Tm
 hash:=uM w
 inj:=λv a b ha hb=>by
  rcases Yc ha with⟨i,t,rfl,rfl⟩|⟨x,t,rfl,rfl⟩
  .rcases Yc hb with⟨j,u,rfl,e⟩|⟨y,u,rfl,e⟩
   .injection e with e1 _;rw[e1]
   .exact nomatch e
  .rcases Yc hb with⟨j,u,rfl,e⟩|⟨y,u,rfl,e⟩
   .exact nomatch e
   .injection e with e1 _;rw[e1]
 byValue:=λk v h=>by
  rcases Yc h with⟨i,t,rfl,rfl⟩|⟨x,t,rfl,rfl⟩<;>rfl
 pyHash:=λhv h=>by
  rcases Yc hv with⟨i,t,rfl,rfl⟩|⟨x,t,rfl,rfl⟩
  .exact wpAny_pyHash_int h
  .exact wpAny_pyHash_str h
 eqBool:=λhu hv h=>by
  rcases Yc hu with⟨i,t,rfl,rfl⟩|⟨x,t,rfl,rfl⟩
  .rcases Yc hv with⟨j,u,rfl,rfl⟩|⟨y,u,rfl,rfl⟩
   .rw[yB] at h;exact wpAny_eqBool_int h
   .rw[xg] at h;exact SeqAt.EqAt.int_str i t y u _ _ _ _ h
  .rcases Yc hv with⟨j,u,rfl,rfl⟩|⟨y,u,rfl,rfl⟩
   .rw[xb] at h;exact SeqAt.EqAt.str_int x t j u _ _ _ _ h
   .rw[yA] at h;exact wpAny_eqBool_str h
 «strs»:=λk x t v h=>by
  rcases Yc h with⟨i,u,rfl,e⟩|⟨y,u,rfl,e⟩
  .exact nomatch e
  .injection e with e1 _
   subst e1
   cases v<;>rfl
def Bz (prog:Program)(w:World)(i:Int)(t:Tok):(Yw prog w).is (.inl i) (.int i t)=true:=Ip i t
def B0 (prog:Program)(w:World)(x:Str)(t:Tok):(Yw prog w).is (.inr x) (.str x t)=true:=Iq x t
inductive V where
 |non|bl (b:Bool)|int (i:Int)|str (x:Str)|byt (b:Array UInt8)|flt (b:UInt64)|ref (a:Addr)|ty (n:String)
 deriving DecidableEq
def RelV:V->Value->Prop
 |.non,u=>u=Value.none
 |.bl b,u=>u=Value.bool b
 |.int i,u=>∃t,u=Value.int i t
 |.str x,u=>∃t,u=Value.str x t
 |.byt b,u=>∃t,u=Value.bytes b t
 |.flt b,u=>∃t,u=Value.float b t
 |.ref a,u=>u=Value.ref a
 |.ty n,u=>u=Value.type n
abbrev Vals:List V->List Value->Prop:=Paired RelV
theorem Vals.length {xs:List V}{us:List Value}(r:Vals xs us):xs.length=us.length:=DN r
theorem Vals.get:∀{xs:List V}{us:List Value}{i:Nat}{x:V},Vals xs us->xs[i]?=some x->∃u,us[i]?=some u/\RelV x u
 |_,_,_,_,.nil,e=>by simp at e
 |_,_,0,_,.cons r _,e=>by simp at e;subst e;exact⟨_,rfl,r⟩
 |_,_,i+1,x,.cons _ t,e=>by
  obtain⟨u,h1,h2⟩:=Vals.get (i:=i) (x:=x) t (by simpa using e)
  exact⟨u,by simpa using h1,h2⟩
theorem Vals.append:∀{xs ys:List V}{us ws:List Value},Vals xs us->Vals ys ws->Vals (xs++ys) (us++ws)
 |_,_,_,_,.nil,s=>s
 |_,_,_,_,.cons r t,s=>.cons r (Vals.append t s)
theorem Vals.take:∀{xs:List V}{us:List Value} (n:Nat),Vals xs us->Vals (xs.take n) (us.take n)
 |_,_,0,_=>.nil
 |_,_,_+1,.nil=>.nil
 |_,_,n+1,.cons r t=>.cons r (Vals.take n t)
theorem Vals.drop:∀{xs:List V}{us:List Value} (n:Nat),Vals xs us->Vals (xs.drop n) (us.drop n)
 |_,_,0,r=>r
 |_,_,_+1,.nil=>.nil
 |_,_,n+1,.cons _ t=>Vals.drop n t
def Vals.none_of:∀{xs:List V}{us:List Value}{i:Nat},Vals xs us->xs[i]?=none->us[i]?=none:=λ{xs us i} r e=>by
 have h1:=r.length
 have h2:xs.length<=i:=BH.mp e
 exact BH.mpr (by omega)
def RelO:Option V->Option Value->Prop
 |some v,some u=>RelV v u
 |none,none=>True
 |_,_=>False
def KV {κ:Type}:List (κ×V)->List (κ×Value)->Prop:=Paired fun(p:κ×V) (q:κ×Value)=>p.1=q.1/\RelV p.2 q.2
def kV:Q9->V
 |.inl i=>.int i
 |.inr x=>.str x
inductive HO where
 |lst (xs:List V)
 |tup (xs:List V)
 |dK (kvs:List (Q9×V))|dT (kvs:List (List Q9×V))
 |set (S:Int->Bool) (n:Nat)
 |ins (C dx:Addr) (fs:List (Str×V))
 |own (x:Addr)
 |xd (fs:List (Str×V))
 |met (f x:Addr)
 |rng (lo hi:Int)
 |frz (o:Obj) (u:HO)
 |tbl (l c:Value) (q:Str)
 |ext (φ:Heap->Prop)
abbrev Hp:=Addr->Option HO
def upd (H:Hp)(a:Addr)(o:HO):Hp:=λb=>if b=a then some o else H b
def Zo {H:Hp}{a:Addr}{o:HO}:upd H a o a=some o:=by unfold upd;rw[AC rfl]
def Zl {H:Hp}{a b:Addr}{o:HO}(h:b≠a):upd H a o b=H b:=by unfold upd;rw[AD h]
def mj {H:Hp}{a b:Addr}{o u:HO}(h:H a=some o)(h':H b=some u)(d:o≠u):a≠b:=by
 intro e;subst e;rw[h] at h';exact d (BD h')
def Zt {H:Hp}{a b:Addr}{o:HO}(h:H a=some o)(h':H b=none):a≠b:=by
 intro e;subst e;rw[h] at h';cases h'
section
variable (P:Program) (w:World)
def ObjOk (H:Hp)(h:Heap)(a:Addr):HO->Prop
 |.lst xs=>xs.length<=sizeLine/\∃(its:List Value) (n:Nat),Vals xs its/\h.get? a=some {cls:=.type "list", data:=.seq its.toArray n}
 |.tup xs=>xs.length<=sizeLine/\∃its:List Value,Vals xs its/\IsTup h a its.toArray
 |.dK kvs=>kvs.length<=sizeLine/\(a==sysModules)=false/\∃vs,KV kvs vs/\h.DictOf (Yw P w) a vs
 |.dT kvs=>kvs.length<=sizeLine/\(a==sysModules)=false/\∃xs:List (List Q9×Addr×Value),
   Paired (fun(p:List Q9×V) (q:List Q9×Addr×Value)=>p.1=q.1/\H q.2.1=some (.tup (p.1.map kV))/\RelV p.2 q.2.2) kvs xs /\
   ∃o es ep,h.get? a=some o/\o.ExactDict/\o.data=.dict es ep/\es.toList=xs.map (entryOfKey (tupleKind (Yw P w)))/\(xs.map (·.1)).Nodup
 |.set S n=>h.SetOf (intKind P w) a S n
 |.ins C dx fs=>H dx=some (.own a)/\fs.length<=1000/\dx≠a/\h.get? a=some (PySem.W.instObj C dx) /\
   ∃mA,h.Ns1 dx mA/\(∀f,RelO (fs.lookup f) (mA f))/\PySem.Within mA (fs.map (·.1))
 |.own _=>∃o,h.get? a=some o
 |.xd fs=>∃mA,h.Ns1 a mA/\∀f,RelO (fs.lookup f) (mA f)
 |.rng lo hi=>∃t u v,h.get? a=some {cls:=.type "range", data:=.fields #[.int lo t,.int hi u,.int 1 v]}
 |.frz o u=>h.get? a=some o/\ObjOk H h a u
 |.tbl l c q=>∃ps:Array Value,h.get? a=some {cls:=.none,data:=.fields ps}/\(ps=#[]\/∃(b:Addr) (ob:Obj) (vs:Array Value) (t:Tok),ps=#[l,c,.ref b]/\H b=some (.frz ob (.own 0))/\ob.data=.fields vs/\vs[1]?=some (.str q t))
 |.met f x=>h.get? a=some (PySem.W.methodObj (.ref f) (.ref x))
 |.ext φ=>φ h/\(∃o,h.get? a=some o)/\∀h1 h2:Heap,φ h1->(∀o,h1.get? a=some o->h2.get? a=some o)->φ h2
def HOk (H:Hp)(h:Heap):Prop:=∀a o,H a=some o->ObjOk P w H h a o
end
section
variable {P:Program}{w:World}{H H':Hp}{h h':Heap}{a:Addr}{o:HO}
theorem ObjOk.lt (x:ObjOk P w H h a o):a<h.objs.size:=by
 cases o with
 |lst xs=>obtain⟨_,_,_,_,e⟩:=x;exact AJ e
 |tup xs=>obtain⟨_,_,_,p⟩:=x;exact p.lt
 |dK kvs=>obtain⟨_,_,_,_,o,_,_,e,_⟩:=x;exact AJ e
 |dT kvs=>obtain⟨_,_,_,_,o,_,_,e,_⟩:=x;exact AJ e
 |set S n=>obtain⟨o,_,_,_,e,_⟩:=x;exact AJ e
 |ins C dx fs=>obtain⟨_,_,_,e,_⟩:=x;exact AJ e
 |own y=>obtain⟨_,e⟩:=x;exact AJ e
 |xd fs=>obtain⟨_,⟨_,_,_,e,_⟩,_⟩:=x;exact AJ e
 |rng lo hi=>obtain⟨_,_,_,e⟩:=x;exact AJ e
 |frz ob u=>obtain⟨e,_⟩:=x;exact AJ e
 |tbl l c q=>obtain⟨_,e,_⟩:=x;exact AJ e
 |met f y=>exact AJ (show h.get? a=some _ from x)
 |ext φ=>obtain⟨_,⟨_,e⟩,_⟩:=x;exact AJ e
theorem Paired.mapP {α β:Type}{F G:α->β->Prop}:∀{l₁:List α}{l₂:List β},Paired F l₁ l₂->(∀a b,F a b->G a b)->Paired G l₁ l₂
 |_,_,.nil,_=>.nil
 |_,_,.cons r t,f=>.cons (f _ _ r) (Paired.mapP t f)
def ObjOk.stay (x:ObjOk P w H h a o)(k:∀b u,(b=a\/H b=some (.own a))->h.get? b=some u->h'.get? b=some u)(ho:∀b,H b=some (.own a)->H' b=some (.own a))(ht:∀b xs,H b=some (.tup xs)->H' b=some (.tup xs))(hz:∀b o u,H b=some (.frz o u)->H' b=some (.frz o u)):ObjOk P w H' h' a o:=by
 induction o with
 |lst xs=>obtain⟨z,its,n,r,e⟩:=x;exact⟨z,its,n,r,k _ _ (.inl rfl) e⟩
 |tup xs=>obtain⟨z,its,r,ob,e,c⟩:=x;exact⟨z,its,r,ob,k _ _ (.inl rfl) e,c⟩
 |dK kvs=>obtain⟨z,y,vs,r,ob,es,ep,e,c⟩:=x;exact⟨z,y,vs,r,ob,es,ep,k _ _ (.inl rfl) e,c⟩
 |dT kvs=>
  obtain⟨z,y,xs,r,ob,es,ep,e,c⟩:=x
  exact⟨z,y,xs,Paired.mapP r λp q z=>⟨z.1,ht _ _ z.2.1,z.2.2⟩,ob,es,ep,k _ _ (.inl rfl) e,c⟩
 |set S n=>obtain⟨ob,es,ep,t,e,c⟩:=x;exact⟨ob,es,ep,t,k _ _ (.inl rfl) e,c⟩
 |ins C dx fs=>
  obtain⟨d,z,ne,e,mA,⟨od,es,ep,e2,c⟩,r⟩:=x
  exact⟨ho _ d,z,ne,k _ _ (.inl rfl) e,mA,⟨od,es,ep,k _ _ (.inr d) e2,c⟩,r⟩
 |own y=>obtain⟨ob,e⟩:=x;exact⟨ob,k _ _ (.inl rfl) e⟩
 |xd fs=>obtain⟨mA,⟨od,es,ep,e,c⟩,r⟩:=x;exact⟨mA,⟨od,es,ep,k _ _ (.inl rfl) e,c⟩,r⟩
 |rng lo hi=>obtain⟨t,u,v,e⟩:=x;exact⟨t,u,v,k _ _ (.inl rfl) e⟩
 |frz ob u ih=>obtain⟨e,q⟩:=x;exact⟨k _ _ (.inl rfl) e,ih q⟩
 |tbl l c q=>
  obtain⟨ps,e,r⟩:=x
  refine⟨ps,k a _ (.inl rfl) e,?_⟩
  rcases r with r|⟨b,ob,vs,t,r1,r2,r3⟩
  .exact .inl r
  .exact .inr ⟨b,ob,vs,t,r1,hz _ _ _ r2,r3⟩
 |met f y=>
  have e:h.get? a=some (PySem.W.methodObj (.ref f) (.ref y)):=x
  show h'.get? a=some (PySem.W.methodObj (.ref f) (.ref y))
  exact k a _ (.inl rfl) e
 |ext φ=>obtain⟨p,⟨o,e⟩,st⟩:=x;exact⟨st _ _ p λo q=>k _ _ (.inl rfl) q,⟨o,k _ _ (.inl rfl) e⟩,st⟩
theorem HOk.lt (x:HOk P w H h)(e:H a=some o):a<h.objs.size:=(x a o e).lt
def HOk.fresh (x:HOk P w H h)(e:h.objs.size<=a):H a=none:=by
 cases q:H a with
 |none=>rfl
 |some u=>exact absurd (AM (x.lt q) e) (EL _)
def HOk.kept (x:HOk P w H h)(k:∀b u,h.get? b=some u->h'.get? b=some u):HOk P w H h':=λa o e=>
 (x a o e).stay (λb u _ q=>k b u q) (λ_ q=>q) (λ_ _ q=>q) λ_ _ _ q=>q
def HOk.laid (x:HOk P w H h)(k:∀b u,h.get? b=some u->h'.get? b=some u)(hp:h.objs.size<=a)(new:ObjOk P w (upd H a o) h' a o):HOk P w (upd H a o) h':=λb u e=>by
 have hn:=x.fresh hp
 by_cases hb:b=a
 .subst hb;rw[Zo] at e;cases e;exact new
 .rw[Zl hb] at e
  exact(x b u e).stay (λc v _ q=>k c v q) (λc q=>by rw[Zl (Zt q hn)];exact q) (λc xs q=>by rw[Zl (Zt q hn)];exact q) λc _ _ q=>by rw[Zl (Zt q hn)];exact q
end
def Rd (H:Hp)(a:Addr)(u:HO):Prop:=H a=some u\/∃o,H a=some (.frz o u)
def Rd.ok {P:Program}{w:World}{H:Hp}{h:Heap}{a:Addr}{u:HO}(r:Rd H a u)(x:HOk P w H h):ObjOk P w H h a u:=by
 rcases r with r|⟨o,r⟩
 .exact x a u r
 .obtain⟨_,q⟩:=x a _ r
  exact q
def cM:Option HO->Prop
 |some (.lst _)=>True
 |some (.dK _)=>True
 |some (.dT _)=>True
 |some (.set _ _)=>True
 |some (.ins _ _ _)=>True
 |some (.ext _)=>True
 |_=>False
section
variable {P:Program}{w:World}{H:Hp}{h h':Heap}{x e:Addr}{o':HO}
def HOk.write (ok:HOk P w H h)(mu:cM (H x))(he:e=x\/H e=some (.own x))(k:∀b u,b≠e->h.get? b=some u->h'.get? b=some u)(aR:∃u,h'.get? e=some u)(new:ObjOk P w (upd H x o') h' x o'):HOk P w (upd H x o') h':=λb u q=>by
 have bH:∀c y,H c=some (.own y)->c≠x:=λc y r z=>by subst z;rw[r] at mu;exact mu
 have fS:∀c xs,H c=some (.tup xs)->c≠x:=λc xs r z=>by subst z;rw[r] at mu;exact mu
 have fU:∀c o u,H c=some (.frz o u)->c≠x:=λc o u r z=>by subst z;rw[r] at mu;exact mu
 by_cases hb:b=x
 .subst hb;rw[Zo] at q;cases q;exact new
 .rw[Zl hb] at q
  by_cases hbe:b=e
  .have q':H b=some (.own x):=by
    rcases he with z|z
    .exact absurd (hbe.trans z) hb
    .rw[hbe];exact z
   rw[q] at q';cases q'
   obtain⟨v,hv⟩:=aR
   exact⟨v,by rw[hbe];exact hv⟩
  .refine(ok b u q).stay (λc v hc r=>k c v ?_ r) (λc r=>by rw[Zl (bH c b r)];exact r) (λc xs r=>by rw[Zl (fS c xs r)];exact r) λc o u r=>by rw[Zl (fU c o u r)];exact r
   rcases hc with rfl|hc
   .exact hbe
   .rintro rfl
    rcases he with z|z
    .exact bH c b hc z
    .rw[hc] at z;cases z;exact hb rfl
end
structure Un (fs ex:List Addr) (H H':Hp) (h h':Heap):Prop where
 keep:∀b o,h.get? b=some o->H b=none->b ∉ fs->b ∉ ex->h'.get? b=some o
 slot:∀b o,h.get? b=some o->H b=none->b∈fs->b ∉ ex->∃sl,h'.get? b=some {o with slots:=sl}
 free:∀b o,h.get? b=some o->H b=none->b ∉ ex->H' b=none
 there:∀b o,h.get? b=some o->b ∉ ex->∃o',h'.get? b=some o'
 tups:∀b xs,H b=some (.tup xs)->H' b=some (.tup xs)
 frzs:∀b o u,H b=some (.frz o u)->H' b=some (.frz o u)
 tbls:∀b l c q,H b=some (.tbl l c q)->H' b=some (.tbl l c q)
section
variable {fs fs' ex aV:List Addr}{H H1 H2:Hp}{h h1 h2 h':Heap}{a x e:Addr}{o:HO}
def Un.any (u:Un fs ex H H1 h h1){b:Addr}{ob:Obj}(q:h.get? b=some ob)(n:H b=none)(hx:b ∉ ex):∃sl,h1.get? b=some {ob with slots:=sl}:=by
 by_cases hb:b∈fs
 .exact u.slot b ob q n hb hx
 .exact⟨ob.slots,u.keep b ob q n hb hx⟩
def Un.kept (k:∀b u,h.get? b=some u->h'.get? b=some u):Un fs ex H H h h':=
 ⟨λb ob q _ _ _=>k b ob q,λb ob q _ _ _=>⟨ob.slots,k b ob q⟩,λ_ _ _ n _=>n,λb ob q _=>⟨ob,k b ob q⟩,λ_ _ q=>q,λ_ _ _ q=>q,λ_ _ _ _ q=>q⟩
def Un.refl:Un fs ex H H h h:=Un.kept λ_ _ q=>q
def Un.laid (k:∀b u,h.get? b=some u->h'.get? b=some u)(hp:h.objs.size<=a)(hn:H a=none):Un fs ex H (upd H a o) h h' where
 keep:=λb u q _ _ _=>k b u q
 slot:=λb u q _ _ _=>⟨u.slots,k b u q⟩
 free:=λb u q n _=>by rw[Zl (AI (AM (AJ q) hp))];exact n
 there:=λb u q _=>⟨u,k b u q⟩
 tups:=λb xs q=>by rw[Zl (Zt q hn)];exact q
 frzs:=λb u xs q=>by rw[Zl (Zt q hn)];exact q
 tbls:=λb l c r q=>by rw[Zl (Zt q hn)];exact q
def Un.write (mu:cM (H x))(he:e=x\/H e=some (.own x))(k:∀b u,b≠e->h.get? b=some u->h'.get? b=some u)(aR:∃u,h'.get? e=some u):Un fs ex H (upd H x o) h h':=by
 have hx:∀b,H b=none->b≠x:=λb n z=>by subst z;rw[n] at mu;exact mu
 have hb:∀b,H b=none->b≠e:=λb n z=>by
  subst z
  rcases he with r|r
  .exact hx b n r
  .rw[n] at r;cases r
 have hm:∀b u,H b=some u->¬cM (some u)->b≠x:=λb u q nm z=>by subst z;rw[q] at mu;exact nm mu
 refine⟨λb u q n _ _=>k b u (hb b n) q,λb u q n _ _=>⟨u.slots,k b u (hb b n) q⟩,λb u q n _=>by rw[Zl (hx b n)];exact n,λb u q _=>?_,
  λb xs q=>by rw[Zl (hm b _ q λz=>z)];exact q,λb u xs q=>by rw[Zl (hm b _ q λz=>z)];exact q,λb l c r q=>by rw[Zl (hm b _ q λz=>z)];exact q⟩
 by_cases hbe:b=e
 .subst hbe;exact aR
 .exact⟨u,k b u hbe q⟩
end
def QF (h:Heap)(H:Hp):List Addr:=(List.range h.objs.size).filter λa=>(H a).isSome
def Lx (h:Heap)(H:Hp):Heap:=PySem.W.hideAll h (QF h H)
def Ir (h:Heap)(H:Hp):(Lx h H).objs.size=h.objs.size:=PySem.W.hideAll_size _ _
def Zaq {h:Heap}{H:Hp}{b:Addr}{o:Obj}(e:h.get? b=some o)(n:H b=none):(Lx h H).get? b=some o:=
 PySem.W.hideAll_get _ e λhm=>by
  have q:(H b).isSome=true:=(EN.mp hm).2
  rw[n] at q;simp at q
def ze {h:Heap}{H:Hp}{b:Addr}{o:Obj}(e:(Lx h H).get? b=some o):h.get? b=some o/\H b=none:=by
 have e':h.get? b=some o:=PySem.W.of_hideAll (QF h H) e
 refine⟨e',?_⟩
 cases q:H b with
 |none=>rfl
 |some x=>
  have hm:b∈QF h H:=EN.mpr ⟨LV.mpr (AJ e'),by simp[q]⟩
  have z:(Lx h H).get? b=none:=PySem.W.hideAll_none (QF h H) hm
  rw[z] at e;cases e
structure Mod (K:PySem.W.Frag) (mg:Str->Option Value) (base:Heap):Prop where
 kin:K.In base
 glob:base.Ns mainGlobals mg
 blt:∃mb,base.Ns builtinsNs mb/\∀x:Str,x ≠ "__name__"->mb x=bootBuiltins x
 nolimit:base.NoLimit
structure Cx where
 prog:Program
 w:World
 K:PySem.W.Frag
 mg:Str->Option Value
 base:Heap
 A:Around
 N:List Str
 s₀:Shared
 H₀:Hp
 env:Env
 outer:List Env
 stack:List Env
 ex:List Addr
 fn:Str->Bool
 calm:Bool
 pn:List (Addr×Obj)
 xe:Value->Shared->Prop
def Tn (l:List Env):List Addr:=l.filterMap (·.frame)
abbrev Cx.fs (X:Cx):List Addr:=Tn X.outer
def Gm (sc:Scope)(x:Str):Prop:=sc.names.lookup x=some .local\/sc.names.lookup x=some .cell\/sc.names.lookup x=some .free
def VJ (sc:Scope)(x:Str):Prop:=sc.names.lookup x=some .local\/sc.names.lookup x=some .cell
def uL (env:Env)(h:Heap)(m:Str->Option Value)(x:Str)(u:Value):Prop:=
 (env.kindOf x=some .local/\m x=some u)\/((env.kindOf x=some .cell\/env.kindOf x=some .free)/\∃c,env.cells.lookup x=some c/\h.IsCell c (some u))
structure Cx.Ok (X:Cx):Prop where
 mod:Mod X.K X.mg X.base
 kind:X.env.scope.kind=.function
 glob:X.env.globals=mainGlobals
 blt:X.env.builtins=builtinsNs
 above:X.s₀.heap.objs.size<=X.env.locals
 inj:∀x y c,X.env.cells.lookup x=some c->X.env.cells.lookup y=some c->x=y
 has:∀x,(X.env.kindOf x=some .cell\/X.env.kindOf x=some .free)->∃c,X.env.cells.lookup x=some c
 cab:∀x c,X.fn x=true->X.env.cells.lookup x=some c->X.s₀.heap.objs.size<=c
 hd:X.calm=true->X.A.handled=none
 frames:X.A.frames=some X.stack
 stk:X.stack=X.outer\/(X.stack=X.env::X.outer/\X.env.frame=some X.env.locals)
 exf:∀b∈X.ex,b≠X.env.locals/\∀x c,X.env.cells.lookup x=some c->c≠b
 bs:∀b o,X.base.get? b=some o->X.s₀.heap.get? b=some o/\X.H₀ b=none
 bsz:X.base.objs.size<=X.s₀.heap.objs.size
 noex:∀b o,X.base.get? b=some o->b ∉ X.ex
 exfs:∀b∈X.ex,b ∉ X.fs
 funs:X.s₀.heap.FunFrames X.base X.outer
 frf:∀b∈X.fs,X.H₀ b=none
structure Inv (X:Cx) (pins:List (Addr×Obj)) (σ:List (Option V)) (H:Hp) (s:Shared):Prop where
 ok:X.Ok
 os:s.os=X.s₀.os
 bare:AllBare s.gens
 base:Un X.fs X.ex X.H₀ H X.s₀.heap s.heap
 loc:∃m,s.heap.Ns X.env.locals m/\∀(i:Nat) (x:Str) (v:V),X.N[i]?=some x->σ[i]?=some (some v)->Gm X.env.scope x->∃u,RelV v u/\uL X.env s.heap m x u
 cell:∀x c,X.env.cells.lookup x=some c->∃v,s.heap.IsCell c v
 free:H X.env.locals=none
 freeC:∀x c,X.env.cells.lookup x=some c->H c=none
 pin:∀p∈X.pn++pins,s.heap.get? p.1=some p.2/\H p.1=none/\p.1≠X.env.locals/\p.1 ∉ X.fs/\∀v,p.2.data≠.cell v
 hok:HOk X.prog X.w H s.heap
 len:σ.length=X.N.length
section
variable {X:Cx}{pins:List (Addr×Obj)}{σ:List (Option V)}{H H':Hp}{s:Shared}{h':Heap}
def Cx.Ok.nofr (ok:X.Ok){b:Addr}{o:Obj}(e:X.base.get? b=some o):b ∉ X.fs:=λhb=>by
 have:=(ok.funs.mem hb).1
 rw[e] at this;cases this
theorem Inv.bs (I:Inv X pins σ H s):∀b o,X.base.get? b=some o->s.heap.get? b=some o/\H b=none:=λb o e=>
 ⟨I.base.keep b o (I.ok.bs b o e).1 (I.ok.bs b o e).2 (I.ok.nofr e) (I.ok.noex b o e),I.base.free b o (I.ok.bs b o e).1 (I.ok.bs b o e).2 (I.ok.noex b o e)⟩
def Inv.bk (I:Inv X pins σ H s):∀b o,X.base.get? b=some o->s.heap.get? b=some o:=λb o e=>(I.bs b o e).1
theorem Inv.mod (I:Inv X pins σ H s):Mod X.K X.mg X.base:=I.ok.mod
def Inv.kIn (I:Inv X pins σ H s):X.K.In s.heap:=I.ok.mod.kin.keeps I.bk
theorem Inv.lt (I:Inv X pins σ H s):X.env.locals<s.heap.objs.size:=let ⟨_,hn,_⟩:=I.loc;hn.lt
def Inv.sz (I:Inv X pins σ H s):X.s₀.heap.objs.size<=s.heap.objs.size:=AV I.ok.above (IZ I.lt)
def Inv.nofs (I:Inv X pins σ H s){a:Addr}(h:s.heap.objs.size<=a):a ∉ X.fs:=λhb=>by
 obtain⟨_,o,ho,_⟩:=I.ok.funs.mem hb
 exact absurd (AM (AJ ho) (AV I.sz h)) (EL _)
def Inv.cne (I:Inv X pins σ H s):∀x c,X.env.cells.lookup x=some c->c≠X.env.locals:=λx c e z=>by
 obtain⟨v,o,ho,hd⟩:=I.cell x c e
 obtain⟨m,⟨o',es,ep,UU,ZL,_⟩,_⟩:=I.loc
 rw[z,UU] at ho;cases ho;rw[ZL] at hd;cases hd
theorem Inv.funs (I:Inv X pins σ H s):s.heap.FunFrames X.base X.outer:=by
 have all:∀(l:List Env),(∀b∈Tn l,b∈X.fs)->X.s₀.heap.FunFrames X.base l->s.heap.FunFrames X.base l:=by
  intro l
  induction l with
  |nil=>intro _ _;trivial
  |cons env r ih=>
   intro hs hl
   obtain⟨hk,⟨L,o,hf,hn,ho,hd⟩,hr⟩:=hl
   have hL:L∈X.fs:=hs L (by unfold Tn;rw[GQ,hf];exact AX)
   obtain⟨sl,e⟩:=I.base.slot L o ho (I.ok.frf L hL) hL λz=>I.ok.exfs L z hL
   exact⟨hk,⟨L,_,hf,hn,e,hd⟩,ih (λb hb=>hs b (by unfold Tn;rw[GQ,hf];exact AQ _ hb)) hr⟩
 exact all X.outer (λ_ hb=>hb) I.ok.funs
theorem Inv.stack (I:Inv X pins σ H s):s.heap.FunFrames X.base X.stack:=by
 rcases I.ok.stk with e|⟨e,hf⟩
 .rw[e];exact I.funs
 .rw[e]
  obtain⟨m,hn,_⟩:=I.loc
  refine .cons (by rw[I.ok.kind];decide) hf hn ?_ I.funs
  exact Heap.get?_none_of_le (AV I.ok.bsz I.ok.above)
def Inv.stkSub (I:Inv X pins σ H s):∀b∈Tn X.stack,b∈X.env.locals::X.fs:=λb hb=>by
 rcases I.ok.stk with e|⟨e,hf⟩
 .rw[e] at hb;exact AQ _ hb
 .rw[e] at hb
  unfold Tn at hb
  rw[GQ,hf] at hb
  exact hb
def Inv.stkFree (I:Inv X pins σ H s):∀b∈Tn X.stack,H b=none:=λb hb=>by
 rcases AZ.mp (I.stkSub b hb) with e|hb
 .rw[e];exact I.free
 .obtain⟨_,o,ho,_⟩:=I.ok.funs.mem hb
  exact I.base.free b o ho (I.ok.frf b hb) λz=>I.ok.exfs b z hb
def Inv.step {g':Array GenState}{t':Nat}{d':Drawn}{ch:List Addr}(I:Inv X pins σ H s)(VR:∀b∈ch,(b∈X.ex\/X.s₀.heap.objs.size<=b)/\b≠X.env.locals/\(∀x c,X.env.cells.lookup x=some c->c≠b)/\∀p∈X.pn++pins,p.1≠b)(keep:∀b o,b≠X.env.locals->b ∉ X.fs->b ∉ ch->s.heap.get? b=some o->H b=none->h'.get? b=some o)(slot:∀b o,b≠X.env.locals->b∈X.fs->b ∉ ch->s.heap.get? b=some o->H b=none->∃sl,h'.get? b=some {o with slots:=sl})(free:∀b o,b ∉ ch->s.heap.get? b=some o->H b=none->H' b=none)(there:∀b o,b ∉ ch->s.heap.get? b=some o->∃o',h'.get? b=some o')(tups:∀b xs,H b=some (.tup xs)->H' b=some (.tup xs))(frzs:∀b o u,H b=some (.frz o u)->H' b=some (.frz o u))(tbls:∀b l c q,H b=some (.tbl l c q)->H' b=some (.tbl l c q))(ns:∀m,s.heap.Ns X.env.locals m->h'.Ns X.env.locals m)(hok:HOk X.prog X.w H' h')(hg:AllBare g'):
  Inv X pins σ H' {s with heap:=h',gens:=g',drawn:=d',toks:=t'}:=by
 have jn:∀b o,X.s₀.heap.get? b=some o->b≠X.env.locals:=λb o e=>AI (AM (AJ e) I.ok.above)
 have c8:∀b o,X.s₀.heap.get? b=some o->b ∉ X.ex->b ∉ ch:=λb o e hx hb=>by
  rcases(VR b hb).1 with z|z
  .exact hx z
  .exact absurd (AM (AJ e) z) (EL _)
 have cellK:∀x c,X.env.cells.lookup x=some c->∀v,s.heap.IsCell c v->h'.IsCell c v:=λx c e v ⟨o,ho,hd⟩=>by
  have bJ:c ∉ ch:=λz=>(VR c z).2.2.1 x c e rfl
  by_cases hc:c∈X.fs
  .obtain⟨sl,q⟩:=slot c o (I.cne x c e) hc bJ ho (I.freeC x c e)
   exact⟨_,q,hd⟩
  .exact⟨o,keep c o (I.cne x c e) hc bJ ho (I.freeC x c e),hd⟩
 refine⟨I.ok,I.os,hg,⟨λb o e n hb hx=>?_,λb o e n hb hx=>?_,λb o e n hx=>?_,λb o e hx=>?_,λb xs e=>tups b xs (I.base.tups b xs e),λb o xs e=>frzs b o xs (I.base.frzs b o xs e),λb l c q e=>tbls b l c q (I.base.tbls b l c q e)⟩,?_,λx c e=>?_,?_,λx c e=>?_,λp hp=>?_,hok,I.len⟩
 .exact keep b o (jn b o e) hb (c8 b o e hx) (I.base.keep b o e n hb hx) (I.base.free b o e n hx)
 .obtain⟨sl,e1⟩:=I.base.slot b o e n hb hx
  obtain⟨aG,e2⟩:=slot b _ (jn b o e) hb (c8 b o e hx) e1 (I.base.free b o e n hx)
  exact⟨aG,e2⟩
 .obtain⟨o',e1⟩:=I.base.there b o e hx
  exact free b o' (c8 b o e hx) e1 (I.base.free b o e n hx)
 .obtain⟨o',e1⟩:=I.base.there b o e hx
  exact there b o' (c8 b o e hx) e1
 .obtain⟨m,hn,hl⟩:=I.loc
  refine⟨m,ns m hn,λi x v e1 e2 e3=>?_⟩
  obtain⟨u,r,l⟩:=hl i x v e1 e2 e3
  refine⟨u,r,?_⟩
  rcases l with l|⟨k,c,e,z⟩
  .exact .inl l
  .exact .inr ⟨k,c,e,cellK x c e _ z⟩
 .obtain⟨v,z⟩:=I.cell x c e
  exact⟨v,cellK x c e v z⟩
 .obtain⟨m,⟨o,_,_,ho,_⟩,_⟩:=I.loc
  exact free _ o (λz=>(VR _ z).2.1 rfl) ho I.free
 .obtain⟨v,o,ho,hd⟩:=I.cell x c e
  exact free c o (λz=>(VR c z).2.2.1 x c e rfl) ho (I.freeC x c e)
 .obtain⟨e,n,ne,nf,d⟩:=I.pin p hp
  have bJ:p.1 ∉ ch:=λz=>(VR p.1 z).2.2.2 p hp rfl
  exact⟨keep p.1 p.2 ne nf bJ e n,free p.1 p.2 bJ e n,ne,nf,d⟩
def Inv.un {t':Nat}(I:Inv X pins σ H s)(u:Un X.fs [] H H' s.heap h')(hok:HOk X.prog X.w H' h'):Inv X pins σ H' {s with heap:=h',toks:=t'}:=by
 obtain⟨m,⟨o,es,ep,ho,r⟩,_⟩:=id I.loc
 obtain⟨sl,hL⟩:=u.any ho I.free (by simp)
 exact I.step (g':=s.gens) (d':=s.drawn) (ch:=[]) (λ_ z=>nomatch z) (λb o _ hb _ e n=>u.keep b o e n hb (by simp)) (λb o _ hb _ e n=>u.slot b o e n hb (by simp)) (λb o _ e n=>u.free b o e n (by simp)) (λb o _ e=>u.there b o e (by simp)) u.tups u.frzs u.tbls (λm' hm=>by
  obtain⟨o',dN,iC,UU,r'⟩:=hm
  rw[ho] at UU;cases UU
  exact⟨_,dN,iC,hL,r'⟩) hok I.bare
def Inv.call {g':Array GenState}{t':Nat}{d':Drawn}{ch:List Addr}(I:Inv X pins σ H s)(u:Un (Tn X.stack) ch H H' s.heap h')(hok:HOk X.prog X.w H' h')(hg:AllBare g')(VR:∀b∈ch,(b∈X.ex\/X.s₀.heap.objs.size<=b)/\b≠X.env.locals/\(∀x c,X.env.cells.lookup x=some c->c≠b)/\∀p∈X.pn++pins,p.1≠b):
  Inv X pins σ H' {s with heap:=h',gens:=g',drawn:=d',toks:=t'}:=by
 obtain⟨m,⟨o,es,ep,ho,r⟩,_⟩:=id I.loc
 obtain⟨sl,hL⟩:=u.any ho I.free λz=>(VR _ z).2.1 rfl
 exact I.step (ch:=ch) VR (λb o hL hb hc e n=>u.keep b o e n (λz=>(AZ.mp (I.stkSub b z)).elim hL hb) hc) (λb o _ _ hc e n=>u.any e n hc) (λb o hc e n=>u.free b o e n hc) (λb o hc e=>u.there b o e hc) u.tups u.frzs u.tbls (λm' hm=>by
  obtain⟨o',dN,iC,UU,r'⟩:=hm
  rw[ho] at UU;cases UU
  exact⟨_,dN,iC,hL,r'⟩) hok hg
def Inv.turned {t':Nat}{it:Addr}(I:Inv X pins σ H s)(k:∀b o,b≠it->s.heap.get? b=some o->h'.get? b=some o)(hn:H it=none)(hL:it≠X.env.locals)(h1:it∈X.ex\/X.s₀.heap.objs.size<=it)(h2:∀x c,X.env.cells.lookup x=some c->c≠it)(h3:∀p∈X.pn++pins,p.1≠it):Inv X pins σ H {s with heap:=h',toks:=t'}:=by
 have jm:∀b u,H b=some u->b≠it:=λb u e z=>by rw[z,hn] at e;cases e
 refine I.step (g':=s.gens) (d':=s.drawn) (ch:=[it]) (λb hb=>?_) (λb o _ _ hc e _=>k b o (λz=>hc (by simp[z])) e) (λb o _ _ hc e _=>⟨o.slots,k b o (λz=>hc (by simp[z])) e⟩) (λ_ _ _ _ n=>n)
  (λb o hc e=>⟨o,k b o (λz=>hc (by simp[z])) e⟩) (λ_ _ e=>e) (λ_ _ _ e=>e) (λ_ _ _ _ e=>e) (λm hm=>?_) (λb u e=>?_) I.bare
 .have e:b=it:=by simpa using hb
  subst e
  exact⟨h1,hL,h2,h3⟩
 .obtain⟨o,es,ep,ho,r⟩:=hm
  exact⟨o,es,ep,k _ o (CQ hL) ho,r⟩
 .refine(I.hok b u e).stay (λc v hc q=>k c v ?_ q) (λ_ q=>q) (λ_ _ q=>q) λ_ _ _ q=>q
  rcases hc with z|z
  .rw[z];exact jm b u e
  .exact jm c _ z
def Inv.tok (I:Inv X pins σ H s)(t:Nat):Inv X pins σ H {s with toks:=t}:=I.un (h':=s.heap) (t':=t) Un.refl I.hok
theorem Inv.kept {t':Nat}(I:Inv X pins σ H s)(k:∀b u,s.heap.get? b=some u->h'.get? b=some u):Inv X pins σ H {s with heap:=h',toks:=t'}:=I.un (Un.kept k) (I.hok.kept k)
theorem Inv.laid {a:Addr}{o:HO}{t':Nat}(I:Inv X pins σ H s)(k:∀b u,s.heap.get? b=some u->h'.get? b=some u)(hp:s.heap.objs.size<=a)(new:ObjOk X.prog X.w (upd H a o) h' a o):
  Inv X pins σ (upd H a o) {s with heap:=h',toks:=t'}:=I.un (Un.laid k hp (I.hok.fresh hp)) (I.hok.laid k hp new)
theorem Inv.write {x e:Addr}{o:HO}{t':Nat}(I:Inv X pins σ H s)(mu:cM (H x))(he:e=x\/H e=some (.own x))(k:∀b u,b≠e->s.heap.get? b=some u->h'.get? b=some u)(aR:∃u,h'.get? e=some u)(new:ObjOk X.prog X.w (upd H x o) h' x o):Inv X pins σ (upd H x o) {s with heap:=h',toks:=t'}:=I.un (Un.write mu he k aR) (I.hok.write mu he k aR new)
def Inv.pins_of {XX:List (Addr×Obj)}(I:Inv X pins σ H s)(h:∀p∈XX,s.heap.get? p.1=some p.2/\H p.1=none/\p.1≠X.env.locals/\p.1 ∉ X.fs/\∀v,p.2.data≠.cell v):Inv X XX σ H s:=
 ⟨I.ok,I.os,I.bare,I.base,I.loc,I.cell,I.free,I.freeC,λp hp=>(DA.mp hp).elim (λz=>I.pin p (JL _ z)) (h p),I.hok,I.len⟩
def P7 {N:List Str}(hN:N.Nodup){i j:Nat}{x:Str}(a:N[i]?=some x)(b:N[j]?=some x):i=j:=by
 obtain⟨h1,e1⟩:=AG.mp a
 obtain⟨h2,e2⟩:=AG.mp b
 exact(List.getElem_inj hN).mp (e1.trans e2.symm)
def Iu {M:Model}{A:Around}{E:Value->Shared->Prop}{i:Nat}{x:Str}{v:V}{u:Value}{Q:Unit->Shared->Prop}(I:Inv X pins σ H s)(hN:X.N.Nodup)(hi:X.N[i]?=some x)(hx:VJ X.env.scope x)(r:RelV v u)(h:∀s',Inv X pins (σ.set i (some v)) H s'->(∃a,Heap.SameBut a s.heap s'.heap/\(a=X.env.locals\/X.env.cells.lookup x=some a))->Q () s')(hf:X.fn x=true\/X.env.scope.names.lookup x=some .local:=by first|exact .inl rfl|exact .inr rfl|assumption):wpAny M A (storeName X.env x u) Q E s:=by
 obtain⟨m,hn,hl⟩:=id I.loc
 have ZM:(X.env.scope.kind==.class||(X.env.scope.kind==.module&&X.env.locals != X.env.globals))=false:=by rw[I.ok.kind];rfl
 have j5:i<σ.length:=by rw[I.len];exact(AG.mp hi).1
 have cne:=I.cne
 have tracked:∀{a:Addr}{h':Heap},(∃o,s.heap.get? a=some o/\H a=none)->Heap.SameBut a s.heap h'->HOk X.prog X.w H h':=λ{a h'} ha hs b ob e=>by
  obtain⟨_,_,RB⟩:=ha
  refine(I.hok b ob e).stay (λc w' hc q=>(hs.2 c ?_).trans q) (λ_ q=>q) (λ_ _ q=>q) λ_ _ _ q=>q
  rintro rfl
  rcases hc with rfl|hc
  .rw[RB] at e;cases e
  .rw[RB] at hc;cases hc
 rcases hx with hk|hk
 .refine wpAny_storeName_local hk hn (λh' aO hs=>?_) ZM
  obtain⟨oL,_,_,ZC,_⟩:=id hn
  refine h _ ⟨I.ok,I.os,I.bare,⟨λb o e n hb hx=>?_,λb o e n hb hx=>?_,I.base.free,λb o e hx=>?_,I.base.tups,I.base.frzs,I.base.tbls⟩,⟨_,aO,λj y v' e1 e2 e3=>?_⟩,λy c e=>?_,I.free,I.freeC,λp hp=>?_,tracked ⟨oL,ZC,I.free⟩ hs,by simpa using I.len⟩ ⟨_,hs,.inl rfl⟩
  .exact(hs.2 b (AI (AM (AJ e) I.ok.above))).trans (I.base.keep b o e n hb hx)
  .obtain⟨sl,e1⟩:=I.base.slot b o e n hb hx
   exact⟨sl,(hs.2 b (AI (AM (AJ e) I.ok.above))).trans e1⟩
  .obtain⟨o',e1⟩:=I.base.there b o e hx
   exact⟨o',(hs.2 b (AI (AM (AJ e) I.ok.above))).trans e1⟩
  .by_cases hj:j=i
   .subst hj
    rw[hi] at e1;cases e1
    rw[AK j5] at e2
    cases e2
    exact⟨u,r,.inl ⟨hk,by simp⟩⟩
   .rw[AF (CQ hj)] at e2
    obtain⟨u',r',q⟩:=hl j y v' e1 e2 e3
    refine⟨u',r',?_⟩
    rcases q with⟨k,e⟩|⟨k,c,e,z⟩
    .refine .inl ⟨k,?_⟩
     have:y≠x:=λe=>hj (P7 hN e1 (e▸hi))
     simp[this,e]
    .exact .inr ⟨k,c,e,z.sameBut hs (cne y c e)⟩
  .obtain⟨w',z⟩:=I.cell y c e
   exact⟨w',z.sameBut hs (cne y c e)⟩
  .obtain⟨e,n,ne,nf,d⟩:=I.pin p hp
   exact⟨(hs.2 p.1 ne).trans e,n,ne,nf,d⟩
 .have bX:X.fn x=true:=by
   rcases hf with z|z
   .exact z
   .rw[z] at hk;cases hk
  obtain⟨c,hc⟩:=I.ok.has x (.inl hk)
  obtain⟨w',z⟩:=I.cell x c hc
  refine wpAny_storeName_cell I.ok.kind hk hc z (λh' kE hs=>?_)
  obtain⟨oc,jv,gK⟩:=id z
  refine h {s with heap:=h'} ⟨I.ok,I.os,I.bare,⟨λb o e n hb hx=>?_,λb o e n hb hx=>?_,I.base.free,λb o e hx=>?_,I.base.tups,I.base.frzs,I.base.tbls⟩,⟨m,hn.sameBut hs (CQ (cne x c hc)),λj y v' e1 e2 e3=>?_⟩,λy c' e=>?_,I.free,I.freeC,λp hp=>?_,tracked ⟨oc,jv,I.freeC x c hc⟩ hs,by simpa using I.len⟩ ⟨c,hs,.inr hc⟩
  .exact(hs.2 b (AI (AM (AJ e) (I.ok.cab x c bX hc)))).trans (I.base.keep b o e n hb hx)
  .obtain⟨sl,e1⟩:=I.base.slot b o e n hb hx
   exact⟨sl,(hs.2 b (AI (AM (AJ e) (I.ok.cab x c bX hc)))).trans e1⟩
  .obtain⟨o',e1⟩:=I.base.there b o e hx
   exact⟨o',(hs.2 b (AI (AM (AJ e) (I.ok.cab x c bX hc)))).trans e1⟩
  .by_cases hj:j=i
   .subst hj
    rw[hi] at e1;cases e1
    rw[AK j5] at e2
    cases e2
    exact⟨u,r,.inr ⟨.inl hk,c,hc,kE⟩⟩
   .rw[AF (CQ hj)] at e2
    obtain⟨u',r',q⟩:=hl j y v' e1 e2 e3
    refine⟨u',r',?_⟩
    rcases q with q|⟨k,c',e,z'⟩
    .exact .inl q
    .refine .inr ⟨k,c',e,z'.sameBut hs ?_⟩
     rintro rfl
     exact hj (P7 hN e1 (I.ok.inj _ _ _ e hc▸hi))
  .by_cases dG:c'=c
   .subst dG;exact⟨_,kE⟩
   .obtain⟨w2,z2⟩:=I.cell y c' e
    exact⟨w2,z2.sameBut hs dG⟩
  .obtain⟨e,n,ne,nf,d⟩:=I.pin p hp
   refine⟨(hs.2 p.1 ?_).trans e,n,ne,nf,d⟩
   intro q
   rw[q,jv] at e
   have q':oc=p.2:=BD e
   exact d w' (by rw[<-q'];exact gK)
def V4 {M:Model}{A:Around}{E:Value->Shared->Prop}{i:Nat}{x:Str}{v:V}{u:Value}{Q:Unit->Shared->Prop}(I:Inv X pins σ H s)(hN:X.N.Nodup)(hi:X.N[i]?=some x)(hx:VJ X.env.scope x)(r:RelV v u)(h:∀s',Inv X pins (σ.set i (some v)) H s'->Q () s')(hf:X.fn x=true\/X.env.scope.names.lookup x=some .local:=by first|exact .inl rfl|exact .inr rfl|assumption):wpAny M A (storeName X.env x u) Q E s:=
 Iu I hN hi hx r (λs' I' _=>h s' I') hf
def Inv.call' {s':Shared}{ch:List Addr}(I:Inv X pins σ H s)(ho:s'.os=s.os)(u:Un (Tn X.stack) ch H H' s.heap s'.heap)(hok:HOk X.prog X.w H' s'.heap)(hg:AllBare s'.gens)(VR:∀b∈ch,(b∈X.ex\/X.s₀.heap.objs.size<=b)/\b≠X.env.locals/\(∀x c,X.env.cells.lookup x=some c->c≠b)/\∀p∈X.pn++pins,p.1≠b):Inv X pins σ H' s':=by
 obtain⟨h',g',d',t',o'⟩:=s'
 have e:o'=s.os:=ho
 subst e
 exact I.call (g':=g') (t':=t') (d':=d') u hok hg VR
end
abbrev XK:=Value->Option Addr->Hp->Prop
abbrev St:=List (Option V)
abbrev VK:=V->Hp->Prop
abbrev TE:=St->Hp->VK->Prop
abbrev TT:=St->Hp->(Bool->Hp->Prop)->Prop
abbrev TA:=St->Hp->(List V->Hp->Prop)->Prop
structure Ends where
 nx:St->Hp->Prop
 rt:VK
 bk:St->Hp->Prop:=λ_ _=>False
 ct:St->Hp->Prop:=λ_ _=>False
abbrev TS:=Ends->St->Hp->Prop
def EP (X:Cx)(pins:List (Addr×Obj))(σ:St)(Q:VK)(u:Value)(s':Shared):Prop:=∃v H',Inv X pins σ H' s'/\RelV v u/\Q v H'
def TP (X:Cx)(pins:List (Addr×Obj))(σ:St)(Q:Bool->Hp->Prop)(b:Bool)(s':Shared):Prop:=∃H',Inv X pins σ H' s'/\Q b H'
def AP (X:Cx)(pins:List (Addr×Obj))(σ:St)(Q:List V->Hp->Prop)(us:List Value)(s':Shared):Prop:=∃vs H',Inv X pins σ H' s'/\Vals vs us/\Q vs H'
def SP (X:Cx)(pins:List (Addr×Obj))(D:Ends)(f:Flow)(s':Shared):Prop:=
 match f with
 |.next=>∃σ' H',Inv X pins σ' H' s'/\D.nx σ' H'
 |.brk=>∃σ' H',Inv X pins σ' H' s'/\D.bk σ' H'
 |.cont=>∃σ' H',Inv X pins σ' H' s'/\D.ct σ' H'
 |.ret u=>∃v σ' H',Inv X pins σ' H' s'/\RelV v u/\D.rt v H'
def PE (X:Cx)(e:Expr)(t:TE):Prop:=
 ∀(pins:List (Addr×Obj)) (s:Shared) (σ:St) (H:Hp) (Q:VK),Inv X pins σ H s->t σ H Q->wpAny (model X.prog X.w) X.A (eval e X.env) (EP X pins σ Q) X.xe s
def PT (X:Cx)(e:Expr)(t:TT):Prop:=
 ∀(pins:List (Addr×Obj)) (s:Shared) (σ:St) (H:Hp) (Q:Bool->Hp->Prop),Inv X pins σ H s->t σ H Q->wpAny (model X.prog X.w) X.A (isTrue e X.env (eval e X.env)) (TP X pins σ Q) X.xe s
def PW (X:Cx)(e:Expr)(t:TT):Prop:=
 ∀(whole:Sem Value) (pins:List (Addr×Obj)) (s:Shared) (σ:St) (H:Hp) (Q:Bool->Hp->Prop),Inv X pins σ H s->t σ H Q->wpAny (model X.prog X.w) X.A (isTrue e X.env whole) (TP X pins σ Q) X.xe s
def PW.pt {X:Cx}{e:Expr}{t:TT}(h:PW X e t):PT X e t:=h _
def PA (X:Cx)(es:List Expr)(t:TA):Prop:=
 ∀(pos:Pos) (pins:List (Addr×Obj)) (s:Shared) (σ:St) (H:Hp) (Q:List V->Hp->Prop),Inv X pins σ H s->t σ H Q->wpAny (model X.prog X.w) X.A (spliced (backTo pos (starEach es X.env))) (AP X pins σ Q) X.xe s
def PS (X:Cx)(st:Stmt)(t:TS):Prop:=
 ∀(pins:List (Addr×Obj)) (s:Shared) (σ:St) (H:Hp) (D:Ends),Inv X pins σ H s->t D σ H->wpAny (model X.prog X.w) X.A (exec st X.env) (SP X pins D) X.xe s
def PSs (X:Cx)(st:List Stmt)(t:TS):Prop:=
 ∀(pins:List (Addr×Obj)) (s:Shared) (σ:St) (H:Hp) (D:Ends),Inv X pins σ H s->t D σ H->wpAny (model X.prog X.w) X.A (execs st X.env) (SP X pins D) X.xe s
def Yf {α:Type}{t:Sem α}{Q Q':α->Shared->Prop}{M:Model}{A:Around}{E:Value->Shared->Prop}{s:Shared}(h:wpAny M A t Q E s)(hQ:∀a s,Q a s->Q' a s):wpAny M A t Q' E s:=CB h hQ λ_ _ x=>x
section
variable {X:Cx}
def cW (i:Nat):TE:=λσ H Q=>∃v,σ[i]?=some (some v)/\Q v H
def tC (v:V):TE:=λ_ H Q=>Q v H
def Z6 {i:Nat}{x:Str}{pos:Pos}(hN:X.N[i]?=some x)(hv:Gm X.env.scope x) (hd:(x==("__debug__":Str))=false:=by decide) (MV:(x==("__classdict__":Str))=false:=by decide):PE X (.Name x pos) (cW i):=by
 intro pins s σ H Q I h
 obtain⟨v,e,h⟩:=h
 obtain⟨m,hn,hl⟩:=I.loc
 obtain⟨u,r,l⟩:=hl i x v hN e hv
 have fin:EP X pins σ Q u s:=⟨v,H,I,r,h⟩
 rcases l with⟨hk,hm⟩|⟨hk,c,hc,PK⟩
 .exact wpAny_Name (wpAny_loadName_local I.ok.kind hk hn hm fin) hd
 .rcases hk with hk|hk
  .exact wpAny_Name (wpAny_loadName_cell I.ok.kind hk hc PK fin) hd
  .exact wpAny_Name (wpAny_loadName_free I.ok.kind hk hc PK fin MV) hd
def xZ {i j pos}:PE X (.Constant (.int i) j pos) (tC (.int i)):=λ_ _ _ H _ I h=>wpAny_Constant_int ⟨.int i,H,I.tok _,⟨_,rfl⟩,h⟩
def vH {b j pos}:PE X (.Constant (.bool b) j pos) (tC (.bl b)):=λ_ _ _ H _ I h=>Constant_bool ⟨.bl b,H,I,rfl,h⟩
def xY {j pos}:PE X (.Constant .none j pos) (tC .non):=λ_ _ _ H _ I h=>Constant_none ⟨.non,H,I,rfl,h⟩
def xX {x j pos}:PE X (.Constant (.str x) j pos) (tC (.str x)):=λ_ _ _ H _ I h=>Calls.Constant_str ⟨.str x,H,I.tok _,⟨_,rfl⟩,h⟩
def Gl (X:Cx)(x:Str):Prop:=X.env.kindOf x=some .globalImplicit
def Ur {E:Value->Shared->Prop}{pins:List (Addr×Obj)}{s:Shared}{σ:St}{H:Hp}{x:Str}{u:Value}{pos:Pos}{Q:Value->Shared->Prop}(I:Inv X pins σ H s)(hg:Gl X x)(hm:X.mg x=some u)(h:Q u s)
  (hd:(x==("__debug__":Str))=false:=by decide):wpAny (model X.prog X.w) X.A (eval (.Name x pos) X.env) Q E s:=
 JP I.ok.kind hg (Calls.loadGlobal_global (by rw[I.ok.glob];exact I.mod.glob.keeps I.bk) hm h) hd
def Gn {E:Value->Shared->Prop}{pins:List (Addr×Obj)}{s:Shared}{σ:St}{H:Hp}{x:Str}{u:Value}{pos:Pos}{Q:Value->Shared->Prop}(I:Inv X pins σ H s)(hg:Gl X x)(hm:X.mg x=none)(hv:bootBuiltins x=some u)(h:Q u s)
  (hn:x ≠ "__name__":=by decide) (hd:(x==("__debug__":Str))=false:=by decide):wpAny (model X.prog X.w) X.A (eval (.Name x pos) X.env) Q E s:=by
 obtain⟨mb,h1,h2⟩:=I.mod.blt
 exact JP I.ok.kind hg (Calls.loadGlobal_builtin (by rw[I.ok.glob];exact I.mod.glob.keeps I.bk) hm (by rw[I.ok.blt];exact h1.keeps I.bk) ((h2 x hn).trans hv) h) hd
def E8 {x:Str}{v:V}{u:Value}{pos:Pos}(hg:Gl X x)(hm:X.mg x=some u)(r:RelV v u) (hd:(x==("__debug__":Str))=false:=by decide):PE X (.Name x pos) (tC v):=
 λ_ _ _ H _ I h=>Ur I hg hm ⟨v,H,I,r,h⟩ hd
def zd {x:Str}{v:V}{u:Value}{pos:Pos}(hg:Gl X x)(hm:X.mg x=none)(hv:bootBuiltins x=some u)(r:RelV v u) (hn:x ≠ "__name__":=by decide) (hd:(x==("__debug__":Str))=false:=by decide):PE X (.Name x pos) (tC v):=
 λ_ _ _ H _ I h=>Gn I hg hm hv ⟨v,H,I,r,h⟩ hn hd
variable {a b:Expr}{ta tb:TE}{pos:Pos}
def PC (X:Cx)(op:CmpOp)(a b:Expr)(t:TE):Prop:=
 ∀(pins:List (Addr×Obj)) (s:Shared) (σ:St) (H:Hp) (Q:VK),Inv X pins σ H s->t σ H Q ->
  wpAny (model X.prog X.w) X.A (eval a X.env) (λv s₁=>wpAny (model X.prog X.w) X.A (eval b X.env) (λu s₂=>wpAny (model X.prog X.w) X.A (compareOp op v u) (EP X pins σ Q) X.xe s₂) X.xe s₁) X.xe s
def tB (t:TE):TT:=λσ H Q=>t σ H λx H1=>∃c,x=.bl c/\Q c H1
def n9 {op:CmpOp}{t:TE}(h:PC X op a b t)(h1:behindInMarks op b=false:=by first|exact bI _ (by decide) (by decide)|rfl):PT X (.Compare a [op] [b] pos) (tB t):=by
 intro pins s σ H Q I hw
 refine LK (Yf (h pins s σ H _ I hw) λv s1 h1=>Yf h1 λu s2 h2=>Yf h2 λc s3 ⟨x,H1,I1,r1,q1⟩=>?_) h1
 obtain⟨d,rfl,q⟩:=q1
 cases r1
 exact DK ⟨H1,I1,q⟩
def xW {e:Expr}{t:TE}(h:PE X e t)(he:∀whole,isTrue e X.env whole=(do let v <-whole;standAt e.pos;holding [v] (truthy v)):=by intro _;rfl):PT X e (tB t):=by
 intro pins s σ H Q I hw
 refine isTrue_plain (Yf (h pins s σ H _ I hw) λv s1 ⟨x,H1,I1,r1,q1⟩=>?_) (he _)
 obtain⟨d,rfl,q⟩:=q1
 cases r1
 exact DK ⟨H1,I1,q⟩
variable {tA cv:TT}{rest:List Expr}
def uK (t u:TT):TT:=λσ H Q=>t σ H λc H1=>if c=true then u σ H1 Q else Q false H1
def sf (t u:TT):TT:=λσ H Q=>t σ H λc H1=>if c=true then Q true H1 else u σ H1 Q
def uJ (t:TT):TT:=λσ H Q=>t σ H λc H1=>Q (!c) H1
def zb (ha:PT X a tA):PW X (.BoolOp .And [a] pos) tA:=by
 intro wh pins s σ H Q I h
 refine isTrue_and (Yf (ha pins s σ H Q I h) λc s1 e=>?_)
 cases c with
 |true=>exact isTrue_and_nil e
 |false=>exact e
def xV (ha:PT X a tA):PW X (.BoolOp .Or [a] pos) tA:=by
 intro wh pins s σ H Q I h
 refine isTrue_or (Yf (ha pins s σ H Q I h) λc s1 e=>?_)
 cases c with
 |false=>exact isTrue_or_nil e
 |true=>exact e
def xU (ha:PT X a tA)(hb:PW X (.BoolOp .And (b::rest) pos) cv):PW X (.BoolOp .And (a::b::rest) pos) (uK tA cv):=by
 intro wh pins s σ H Q I h
 refine isTrue_and (Yf (ha pins s σ H _ I h) λc s1 ⟨H1,I1,q1⟩=>?_)
 cases c with
 |true=>exact hb wh pins s1 σ H1 Q I1 q1
 |false=>exact⟨H1,I1,q1⟩
def vG (ha:PT X a tA)(hb:PW X (.BoolOp .Or (b::rest) pos) cv):PW X (.BoolOp .Or (a::b::rest) pos) (sf tA cv):=by
 intro wh pins s σ H Q I h
 refine isTrue_or (Yf (ha pins s σ H _ I h) λc s1 ⟨H1,I1,q1⟩=>?_)
 cases c with
 |true=>exact⟨H1,I1,q1⟩
 |false=>exact hb wh pins s1 σ H1 Q I1 q1
def xT (ha:PT X a tA):PT X (.UnaryOp .Not a pos) (uJ tA):=by
 intro pins s σ H Q I h
 exact isTrue_not (ha pins s σ H (λc H1=>Q (!c) H1) I h)
def vW (ta tb:TE):TE:=λσ H Q=>ta σ H λx H1=>∃c,x=.bl c/\if c=true then tb σ H1 Q else Q (.bl false) H1
def uI (ta tb:TE):TE:=λσ H Q=>ta σ H λx H1=>∃c,x=.bl c/\if c=true then Q (.bl true) H1 else tb σ H1 Q
def vV (ta:TE):TE:=λσ H Q=>ta σ H λx H1=>∃c,x=.bl c/\Q (.bl (!c)) H1
def xS {op}{t:TE}(h:PE X a t):PE X (.BoolOp op [a] pos) t:=λpins s σ H Q I hw=>BoolOp_one (h pins s σ H Q I hw)
def xR (ha:PE X a ta)(hb:PE X (.BoolOp .And (b::rest) pos) tb):PE X (.BoolOp .And (a::b::rest) pos) (vW ta tb):=by
 intro pins s σ H Q I h
 refine BoolOp_and (Yf (ha pins s σ H _ I h) λv s1 ⟨x,H1,I1,r1,q1⟩=>?_)
 obtain⟨c,rfl,q1⟩:=q1
 cases r1
 refine DK ?_
 cases c with
 |true=>exact hb pins s1 σ H1 Q I1 q1
 |false=>exact⟨.bl false,H1,I1,rfl,q1⟩
def vU (ha:PE X a ta)(hb:PE X (.BoolOp .Or (b::rest) pos) tb):PE X (.BoolOp .Or (a::b::rest) pos) (uI ta tb):=by
 intro pins s σ H Q I h
 refine BoolOp_or (Yf (ha pins s σ H _ I h) λv s1 ⟨x,H1,I1,r1,q1⟩=>?_)
 obtain⟨c,rfl,q1⟩:=q1
 cases r1
 refine DK ?_
 cases c with
 |false=>exact hb pins s1 σ H1 Q I1 q1
 |true=>exact⟨.bl true,H1,I1,rfl,q1⟩
def xQ (ha:PE X a ta):PE X (.UnaryOp .Not a pos) (vV ta):=by
 intro pins s σ H Q I h
 refine UnaryOp_ (Yf (ha pins s σ H _ I h) λv s1 ⟨x,H1,I1,r1,q1⟩=>?_)
 obtain⟨c,rfl,q1⟩:=q1
 cases r1
 exact not_of (DK ⟨.bl (!c),H1,I1,rfl,q1⟩)
def se (t:TT)(ta tb:TE):TE:=λσ H Q=>t σ H λc H1=>if c=true then ta σ H1 Q else tb σ H1 Q
def B1 {c:Expr}(hc:PT X c tA)(ha:PE X a ta)(hb:PE X b tb):PE X (.IfExp c a b pos) (se tA ta tb):=by
 intro pins s σ H Q I h
 refine wpAny_IfExp (Yf (hc pins s σ H _ I h) λd s1 ⟨H1,I1,q1⟩=>?_)
 cases d with
 |true=>exact ha pins s1 σ H1 Q I1 q1
 |false=>exact hb pins s1 σ H1 Q I1 q1
end
def SqL (K:PySem.W.Frag)(H:Hp)(a:Addr)(xs:List V):Prop:=
 Rd H a (.lst xs) \/
  ∃(o:Obj) (its:Array Value) (n:Nat),K.lookup a=some o/\o.cls=.type "list"/\o.dict=none/\o.data=.seq its n/\its.size<=sizeLine/\Vals xs its.toList
def SqT (K:PySem.W.Frag)(H:Hp)(a:Addr)(xs:List V):Prop:=
 Rd H a (.tup xs) \/
  ∃(o:Obj) (its:Array Value) (n:Nat),K.lookup a=some o/\o.cls=.type "tuple"/\o.data=.seq its n/\its.size<=sizeLine/\Vals xs its.toList
def eh:Value->Option V
 |.none=>some .non
 |.bool b=>some (.bl b)
 |.int i _=>some (.int i)
 |.str x _=>some (.str x)
 |.bytes b _=>some (.byt b)
 |.float b _=>some (.flt b)
 |.ref a=>some (.ref a)
 |.type n=>some (.ty n)
 |_=>none
def RelV.abs {x:V}{u:Value}(r:RelV x u):eh u=some x:=by
 cases x with
 |non=>cases r;rfl
 |bl _=>cases r;rfl
 |int _=>obtain⟨t,rfl⟩:=r;rfl
 |str _=>obtain⟨t,rfl⟩:=r;rfl
 |byt _=>obtain⟨t,rfl⟩:=r;rfl
 |flt _=>obtain⟨t,rfl⟩:=r;rfl
 |ref _=>cases r;rfl
 |ty _=>cases r;rfl
theorem RelV.inj {x y:V}{u:Value}(r:RelV x u)(q:RelV y u):x=y:=BD (r.abs.symm.trans q.abs)
theorem Vals.inj:∀{xs ys:List V}{us:List Value},Vals xs us->Vals ys us->xs=ys
 |_,_,_,.nil,.nil=>rfl
 |_,_,_,.cons r t,.cons r' t'=>by rw[r.inj r',Vals.inj t t']
section
variable {X:Cx}{pins:List (Addr×Obj)}{σ:St}{H:Hp}{s:Shared}{a:Addr}{xs ys:List V}
def SqL.of {K:PySem.W.Frag}(h:H a=some (.lst xs)):SqL K H a xs:=.inl (.inl h)
def SqT.of {K:PySem.W.Frag}(h:H a=some (.tup xs)):SqT K H a xs:=.inl (.inl h)
def Inv.list (I:Inv X pins σ H s)(h:SqL X.K H a xs):∃its:List Value,Vals xs its/\PlainL s.heap a its.toArray/\xs.length<=sizeLine:=by
 rcases h with h|⟨o,its,n,hk,hc,hd,hs,hz,r⟩
 .obtain⟨z,its,n,r,e⟩:=h.ok I.hok
  exact⟨its,r,⟨_,n,e,rfl,rfl,rfl⟩,z⟩
 .refine⟨its.toList,r,⟨o,n,I.kIn a o hk,hc,hd,by simpa using hs⟩,?_⟩
  have e:=r.length
  simp only[EK] at e
  omega
def Inv.tuple (I:Inv X pins σ H s)(h:SqT X.K H a xs):∃its:List Value,Vals xs its/\IsTup s.heap a its.toArray/\xs.length<=sizeLine:=by
 rcases h with h|⟨o,its,n,hk,hc,hs,hz,r⟩
 .obtain⟨z,its,r,p⟩:=h.ok I.hok
  exact⟨its,r,p,z⟩
 .refine⟨its.toList,r,⟨o,I.kIn a o hk,hc,n,by simpa using hs⟩,?_⟩
  have e:=r.length
  simp only[EK] at e
  omega
def Inv.list_inj (I:Inv X pins σ H s)(h:SqL X.K H a xs)(h':SqL X.K H a ys):xs=ys:=by
 obtain⟨its,r,⟨o,n,e,_,_,d⟩,_⟩:=I.list h
 obtain⟨its',r',⟨o',n',e',_,_,d'⟩,_⟩:=I.list h'
 rw[e] at e';cases e'
 rw[d] at d'
 injection d' with d1 _
 have:its=its':=by simpa using congrArg Array.toList d1
 subst this
 exact r.inj r'
def Inv.tuple_inj (I:Inv X pins σ H s)(h:SqT X.K H a xs)(h':SqT X.K H a ys):xs=ys:=by
 obtain⟨its,r,⟨o,e,_,n,d⟩,_⟩:=I.tuple h
 obtain⟨its',r',⟨o',e',_,n',d'⟩,_⟩:=I.tuple h'
 rw[e] at e';cases e'
 rw[d] at d'
 injection d' with d1 _
 have:its=its':=by simpa using congrArg Array.toList d1
 subst this
 exact r.inj r'
end
abbrev Cx.wish (X:Cx)(E:Value->Shared->Prop):Cx:={X with xe:=E}
abbrev Cx.nox (X:Cx):Cx:=X.wish λ_ _=>False
theorem Cx.Ok.wish {X:Cx}(ok:X.Ok)(E:Value->Shared->Prop):(X.wish E).Ok:=
 ⟨ok.mod,ok.kind,ok.glob,ok.blt,ok.above,ok.inj,ok.has,ok.cab,ok.hd,ok.frames,ok.stk,ok.exf,ok.bs,ok.bsz,ok.noex,ok.exfs,ok.funs,ok.frf⟩
def Cx.Ok.unwish {X:Cx}{E:Value->Shared->Prop}(ok:(X.wish E).Ok):X.Ok:=
 ⟨ok.mod,ok.kind,ok.glob,ok.blt,ok.above,ok.inj,ok.has,ok.cab,ok.hd,ok.frames,ok.stk,ok.exf,ok.bs,ok.bsz,ok.noex,ok.exfs,ok.funs,ok.frf⟩
section
variable {X:Cx}{pins:List (Addr×Obj)}{σ:St}{H:Hp}{s:Shared}{E:Value->Shared->Prop}
theorem Inv.wish (I:Inv X pins σ H s)(E:Value->Shared->Prop):Inv (X.wish E) pins σ H s:=⟨I.ok.wish E,I.os,I.bare,I.base,I.loc,I.cell,I.free,I.freeC,I.pin,I.hok,I.len⟩
theorem Inv.unwish (I:Inv (X.wish E) pins σ H s):Inv X pins σ H s:=⟨I.ok.unwish,I.os,I.bare,I.base,I.loc,I.cell,I.free,I.freeC,I.pin,I.hok,I.len⟩
theorem SP.unwish {D:Ends}{f:Flow}{s':Shared}(h:SP (X.wish E) pins D f s'):SP X pins D f s':=by
 cases f with
 |next=>obtain⟨σ',H',I,q⟩:=h;exact⟨σ',H',I.unwish,q⟩
 |brk=>obtain⟨σ',H',I,q⟩:=h;exact⟨σ',H',I.unwish,q⟩
 |cont=>obtain⟨σ',H',I,q⟩:=h;exact⟨σ',H',I.unwish,q⟩
 |ret u=>obtain⟨v,σ',H',I,r,q⟩:=h;exact⟨v,σ',H',I.unwish,r,q⟩
theorem PSs.nox {st:List Stmt}{t:TS}(h:PSs X.nox st t):PSs X st t:=λpins s σ H D I hw=>
 CB (h pins s σ H D (I.wish _) hw) (λ_ _ q=>q.unwish) λ_ _ z=>False.elim z
end
section
variable {X:Cx}{st:Stmt}{rest:List Stmt}{t u:TS}{e:Expr}{te:TE}{pos:Pos}
def vT:TS:=λD σ H=>D.nx σ H
def uH (t u:TS):TS:=λD σ H=>t {D with nx:=u D} σ H
def Pt:PSs X [] vT:=λ_ _ σ H _ I h=>EX ⟨σ,H,I,h⟩
def Qp (h1:PS X st t)(h2:PSs X rest u):PSs X (st::rest) (uH t u):=by
 intro pins s σ H D I h
 refine IE (Yf (h1 pins s σ H {D with nx:=u D} I h) λf s1 q=>?_)
 cases f with
 |next=>
  obtain⟨σ',H',I',q⟩:=q
  exact h2 pins s1 σ' H' D I' q
 |ret v=>exact q
 |brk=>exact q
 |cont=>exact q
def Xo (h1:PS X st t):PSs X [st] t:=by
 intro pins s σ H D I h
 refine IE (Yf (h1 pins s σ H D I h) λf s1 q=>?_)
 cases f with
 |next=>exact EX q
 |ret v=>exact q
 |brk=>exact q
 |cont=>exact q
def Inv.quiet {pins:List (Addr×Obj)}{σ:St}{H:Hp}{s:Shared}(I:Inv X pins σ H s):interactive X.env=false:=by simp[interactive,I.ok.kind]
def mi (te:TE):TS:=λD σ H=>te σ H λ_ H1=>D.nx σ H1
def Us (he:PE X e te)(hs:swapsWith e none pos.line X.env=pure false:=by rfl):PS X (.Expr e pos) (mi te):=by
 intro pins s σ H D I h
 exact wpAny_Expr_any (Yf (he pins s σ H _ I h) λv s1 ⟨x,H1,I1,r1,q1⟩=>⟨σ,H1,I1,q1⟩) I.quiet hs
def uG (te:TE):TS:=λD σ H=>te σ H D.rt
def Gp (he:PE X e te):PS X (.Return (some e) pos) (uG te):=by
 intro pins s σ H D I h
 exact wpAny_Return_some (Yf (he pins s σ H _ I h) λv s1 ⟨x,H1,I1,r1,q1⟩=>⟨x,σ,H1,I1,r1,q1⟩)
def uF (c:TT)(t u:TS):TS:=λD σ H=>c σ H λb H1=>if b=true then t D σ H1 else u D σ H1
def E9 {c:Expr}{a b:List Stmt}{tc:TT}(hc:PT X c tc)(ha:PSs X a t)(hb:PSs X b u):PS X (.If c a b pos) (uF tc t u):=by
 intro pins s σ H D I h
 refine wpAny_If (Yf (hc pins s σ H _ I h) λd s1 ⟨H1,I1,q1⟩=>?_)
 cases d with
 |true=>exact ha pins s1 σ H1 D I1 q1
 |false=>exact hb pins s1 σ H1 D I1 q1
def xP:TS:=λ_ _ _=>False
def Zau:PS X st xP:=λ_ _ _ _ _ _ h=>h.elim
end
abbrev TG:=V->St->Hp->(St->Hp->Prop)->Prop
abbrev YO:=List V->St->Hp->(St->Hp->Prop)->Prop
def PG (X:Cx)(target:Expr)(t:TG):Prop:=
 ∀(pins:List (Addr×Obj)) (s:Shared) (σ:St) (H:Hp) (v:V) (u:Value) (Q:St->Hp->Prop),Inv X pins σ H s->RelV v u->t v σ H Q ->
  wpAny (model X.prog X.w) X.A (assign target X.env u) (λ_ s'=>∃σ' H',Inv X pins σ' H' s'/\Q σ' H') X.xe s
def cN (X:Cx)(ts:List Expr)(t:YO):Prop:=
 ∀(pins:List (Addr×Obj)) (s:Shared) (σ:St) (H:Hp) (vs:List V) (us:List Value) (Q:St->Hp->Prop),Inv X pins σ H s->Vals vs us->t vs σ H Q ->
  wpAny (model X.prog X.w) X.A (assignInOrder ((assignEach ts X.env).map (·.2)) us) (λ_ s'=>∃σ' H',Inv X pins σ' H' s'/\Q σ' H') X.xe s
section
variable {X:Cx}{pos:Pos}
def Fd (i:Nat):TG:=λv σ H Q=>Q (σ.set i (some v)) H
def Pu {i:Nat}{x:Str}(hN:X.N.Nodup)(hi:X.N[i]?=some x)(hx:VJ X.env.scope x)(hf:X.fn x=true\/X.env.scope.names.lookup x=some .local:=by first|exact .inl rfl|exact .inr rfl|assumption):PG X (.Name x pos) (Fd i):=by
 intro pins s σ H v u Q I r h
 exact wpAny_assign_Name (V4 I hN hi hx r (λs' I'=>⟨_,H,I',h⟩) hf)
def lq:YO:=λvs σ H Q=>vs=[]/\Q σ H
def jK (t:TG)(u:YO):YO:=λvs σ H Q=>∃v r,vs=v::r/\t v σ H λσ' H'=>u r σ' H' Q
def Fe:cN X [] lq:=by
 intro pins s σ H vs us Q I r h
 obtain⟨e,h⟩:=h
 subst e
 cases r
 exact assignInOrder_nil ⟨σ,H,I,h⟩
def P8 {e:Expr}{es:List Expr}{t:TG}{u:YO}(h1:PG X e t)(h2:cN X es u)(hs:(assignEach (e::es) X.env).map (·.2)=assign e X.env::(assignEach es X.env).map (·.2):=by rfl):cN X (e::es) (jK t u):=by
 intro pins s σ H vs us Q I r h
 obtain⟨v,vr,e1,h⟩:=h
 subst e1
 cases r with
 |cons r rr=>
  rw[hs]
  refine JF (Yf (h1 pins s σ H _ _ _ I r h) λ_ s1 ⟨σ1,H1,I1,q1⟩=>?_)
  exact h2 pins s1 σ1 H1 _ _ Q I1 rr q1
def lj (te:TE)(g:TG):TS:=λD σ H=>te σ H λx H1=>g x σ H1 D.nx
def xO {tg e:Expr}{te:TE}{g:TG}(he:PE X e te)(hg:PG X tg g)(hs:swapsWithSole [tg] e pos.line X.env=pure false:=by rfl)(hw:swappedStores [tg] e X.env=pure none:=by rfl)(h1:(assignEach [tg] X.env).map (·.2)=[assign tg X.env]:=by rfl):PS X (.Assign [tg] e pos) (lj te g):=by
 intro pins s σ H D I h
 refine wpAny_Assign_stores (Yf (he pins s σ H _ I h) λv s1 ⟨x,H1,I1,r1,q1⟩=>?_) hs hw
 rw[h1]
 exact Yf (hg pins s1 σ H1 x v _ I1 r1 q1) λ_ s2 q=>q
def V5 {i:Nat}{x:Str}{e:Expr}{te:TE}{pos':Pos}(hN:X.N.Nodup)(hi:X.N[i]?=some x)(hx:VJ X.env.scope x)(he:PE X e te)(hs:swapsWith e (some (.Name x pos')) pos.line X.env=pure false:=by rfl)(hf:X.fn x=true\/X.env.scope.names.lookup x=some .local:=by first|exact .inl rfl|exact .inr rfl|assumption):
  PS X (.Assign [.Name x pos'] e pos) (lj te (Fd i)):=by
 intro pins s σ H D I h
 refine wpAny_Assign_Name (Yf (he pins s σ H _ I h) λv s1 ⟨y,H1,I1,r1,q1⟩=>?_) hs
 exact V4 I1 hN hi hx r1 (λs2 I2=>⟨_,H1,I2,q1⟩) hf
def uE (i j:Nat)(ta:TA):TS:=λD σ H=>ta σ H λvs H1=>∃v w,vs=[v,w]/\D.nx ((σ.set i (some v)).set j (some w)) H1
def xN {i j:Nat}{x y:Str}{a b:Expr}{ta:TA}{px py pt:Pos}{kt k2 SS}(hc:X.calm=true)(hN:X.N.Nodup)(hi:X.N[i]?=some x)(hj:X.N[j]?=some y)(aP:i≠j)(hx:X.env.scope.names.lookup x=some .local)(hy:X.env.scope.names.lookup y=some .local)(ha:PA X [a,b] ta)(hw:swappedStores [.Tuple [.Name x px,.Name y py] kt pt] (.Tuple [a,b] k2 SS) X.env=pure (some [x,y]))(hs:swapsWithSole [.Tuple [.Name x px,.Name y py] kt pt] (.Tuple [a,b] k2 SS) pos.line X.env=pure false:=by rfl):
  PS X (.Assign [.Tuple [.Name x px,.Name y py] kt pt] (.Tuple [a,b] k2 SS) pos) (uE i j ta):=by
 intro pins s σ H D I h
 rw[exec_Assign_arm]
 refine AA (FK ?_)
 rw[hs]
 refine AA (AE ?_)
 rw[AD (by decide)]
 refine AA (Tuple_ (Yf (ha _ pins s σ H _ I h) λus s1 ⟨vs,H1,I1,r1,q1⟩=>?_))
 obtain⟨v,w,e1,q1⟩:=q1
 subst e1
 obtain⟨u1,u2,rfl,rv,PM⟩:∃u1 u2,us=[u1,u2]/\RelV v u1/\RelV w u2:=by
  cases r1 with
  |cons p q=>
   cases q with
   |cons p' q'=>
    cases q'
    exact⟨_,_,rfl,p,p'⟩
 refine DC ?_ (by show 2<=sizeLine;decide)
 have I2:Inv X pins σ H1 {s1 with heap:=s1.heap.push {cls:=.type "tuple", data:=.seq [u1,u2].toArray}}:=I1.kept (t':=s1.toks) λb o e=>AB _ e
 rw[hw]
 refine AA (AE ?_)
 show wpAny (model X.prog X.w) X.A (do rule "assign.swapped-stores"; let items <-unpackItems (.ref s1.heap.objs.size) 2 none;assignInOrder [λv=>bindName X.env y v,λv=>bindName X.env x v] items.reverse;pure Flow.next) _ _ _
 refine AA (FR (AA (unpackItems_tuple (items:=#[u1,u2]) (I.ok.hd hc) (IsTup.new s1.heap _) λh' c9=>?_)))
 have I3:=I2.kept (h':=h') (t':=s1.toks) λb o e=>c9 b o (AI (AJ e)) e
 show wpAny _ _ (assignInOrder [λv=>bindName X.env y v,λv=>bindName X.env x v] [u2,u1]>>=λ_=>pure Flow.next) _ _ _
 refine AA (JF (wpAny_bindName (V4 I3 hN hj (.inl hy) PM (λs2 I4=>?_) (.inr hy))))
 refine JF (wpAny_bindName (V4 I4 hN hi (.inl hx) rv (λs3 I5=>assignInOrder_nil (AE ?_)) (.inr hx)))
 rw[List.set_comm _ _ (CQ aP)] at I5
 exact⟨_,H1,I5,q1⟩
end
section
variable {X:Cx}{pos:Pos}
def Zip (c:TT)(tb:TS):TS:=λD σ H=>∃W:Nat->St->Hp->Prop,(∃m,W m σ H)/\∀m σ H,W m σ H ->
 c σ H λb H1=>if b=true then ∃N:St->Hp->Prop,(∀σ' H',N σ' H'->∃m',m'<m/\W m' σ' H')/\tb {D with nx:=N,ct:=N,bk:=D.nx} σ H1 else D.nx σ H1
def B2 {c:Expr}{body:List Stmt}{tc:TT}{tb:TS}(hp:PassesOwn (model X.prog X.w) X.A X.env X.xe)(hc:PT X c tc)(hb:PSs X body tb):PS X (.While c body [] pos) (Zip tc tb):=by
 intro pins s σ H D I h
 obtain⟨W,⟨m0,w0⟩,turn⟩:=h
 refine wpAny_While (codeAny_whileLoop (λn s'=>∃σ' H',Inv X pins σ' H' s'/\W n σ' H') ?_ m0 ⟨σ,H,I,w0⟩)
 rintro n s1 ⟨σ1,H1,I1,w1⟩
 refine EA hp (Yf (hc pins s1 σ1 H1 _ I1 (turn n σ1 H1 w1)) λb s2 ⟨H2,I2,q2⟩=>?_)
 cases b with
 |true=>
  obtain⟨N,hN,q2⟩:=q2
  rw[AC rfl]
  refine EA hp (Yf (hb pins s2 σ1 H2 _ I2 q2) λf s3 q3=>?_)
  cases f with
  |next=>
   obtain⟨σ3,H3,I3,n3⟩:=q3
   obtain⟨m',hm,w3⟩:=hN σ3 H3 n3
   exact⟨m',hm,σ3,H3,I3,w3⟩
  |cont=>
   obtain⟨σ3,H3,I3,n3⟩:=q3
   obtain⟨m',hm,w3⟩:=hN σ3 H3 n3
   exact⟨m',hm,σ3,H3,I3,w3⟩
  |brk=>exact q3
  |ret v=>exact q3
 |false=>
  rw[AD AY]
  exact EX ⟨σ1,H2,I2,q2⟩
end
structure It where
 go:Nat->Hp->Prop
 yld:Nat->Hp->V->Hp->Prop
 stop:Nat->Hp->Prop
def P9 (X:Cx)(pins:List (Addr×Obj))(H:Hp)(b:Addr):Prop:=
 H b=none/\b≠X.env.locals/\b ∉ X.fs/\(b∈X.ex\/X.s₀.heap.objs.size<=b)/\(∀x c,X.env.cells.lookup x=some c->c≠b)/\∀p∈X.pn++pins,p.1≠b
def Inv.fpOk {X:Cx}{pins:List (Addr×Obj)}{σ:St}{H H':Hp}{s:Shared}{b:Addr}(I:Inv X pins σ H s)(hb:s.heap.objs.size<=b)(hn:H' b=none):P9 X pins H' b:=by
 refine⟨hn,DH (AM I.lt hb),I.nofs hb,.inr (AV I.sz hb),λx c e z=>?_,λp hp z=>?_⟩
 .obtain⟨v,q⟩:=I.cell x c e
  exact absurd (AM q.lt (by rw[z];exact hb)) (EL _)
 .exact absurd (AM (AJ (I.pin p hp).1) (by rw[z];exact hb)) (EL _)
structure Turn (P:Program) (w:World) (K:PySem.W.Frag) (tg:Expr) (J:It) (fp:List Addr) (it:Addr) (tn:Nat->Heap->Prop):Prop where
 mem:it∈fp
 obj:∀i h,tn i h->∀b∈fp,∃o,h.get? b=some o/\∀v,o.data≠.cell v
 keep:∀i h h',tn i h->(∀b∈fp,∀o,h.get? b=some o->h'.get? b=some o)->tn i h'
 item:∀(X:Cx),X.prog=P->X.w=w->X.K=K->X.calm=true->∀(i:Nat) (pins:List (Addr×Obj)) (s:Shared) (σ:St) (H:Hp) (E:Value->Shared->Prop),Inv X pins σ H s->(∀b∈fp,P9 X pins H b)->tn i s.heap->J.go i H ->
  wpAny (model P w) X.A (pyNext (.ref it)) (λr s1=>∃u,r=some u /\
   wpAny (model P w) X.A (letOwnedTupleGo tg (.ref it) u) (λ_ s2=>∃x H',Inv X pins σ H' s2/\RelV x u/\J.yld i H x H'/\tn (i+1) s2.heap/\∀b∈fp,H' b=none) E s1) E s
 done:∀(X:Cx),X.prog=P->X.w=w->X.K=K->X.calm=true->∀(i:Nat) (pins:List (Addr×Obj)) (s:Shared) (σ:St) (H:Hp) (E:Value->Shared->Prop),Inv X pins σ H s->(∀b∈fp,P9 X pins H b)->tn i s.heap->J.stop i H ->
  wpAny (model P w) X.A (pyNext (.ref it)) (λr s1=>r=none/\Inv X pins σ H s1) E s
 self:∀(A:Around) (i:Nat) (s:Shared) (Q:Value->Shared->Prop) (E:Value->Shared->Prop),tn i s.heap->Q (.ref it) s->wpAny (model P w) A (pyIter (.ref it)) Q E s
abbrev TI:=St->Hp->(It->Hp->Prop)->Prop
def lB (X:Cx)(pins:List (Addr×Obj))(σ:St)(tg:Expr)(R:It->Hp->Prop)(ff:Value)(s2:Shared):Prop:=
 ∃(it:Addr) (fp:List Addr) (tn:Nat->Heap->Prop) (J:It) (H':Hp),ff=.ref it/\Inv X pins σ H' s2/\Turn X.prog X.w X.K tg J fp it tn/\tn 0 s2.heap/\(∀b∈fp,P9 X pins H' b)/\R J H'
def PI (X:Cx)(tg iter:Expr)(wi:TI):Prop:=
 ∀(pins:List (Addr×Obj)) (s:Shared) (σ:St) (H:Hp) (R:It->Hp->Prop),Inv X pins σ H s->wi σ H R ->
  wpAny (model X.prog X.w) X.A (eval iter X.env) (λv s1=>wpAny (model X.prog X.w) X.A (pyIter v) (lB X pins σ tg R) X.xe s1) X.xe s
def jJ {M:Model}{A:Around}{E:Value->Shared->Prop}{s:Shared}{tg:Expr}{it:Addr}{u:Value}{o:Obj}{n:String}{vs:Array Value}{Q:Unit->Shared->Prop}(ho:s.heap.get? it=some o)(hc:o.cls=.type n)(hd:o.data=.fields vs)
  (hn:["enumerate","zip","dict_itemiterator","dict_reverseitemiterator","odict_iterator","itertools.zip_longest","itertools.pairwise"].contains n=false) (hQ:Q () s):wpAny M A (letOwnedTupleGo tg (.ref it) u) Q E s:=by
 unfold letOwnedTupleGo
 cases tg<;>first
  |exact AE hQ
  |(cases u<;>first
    |exact AE hQ
    |(refine AA (wpAny_load ho ?_)
      rw[hc,hd]
      show wpAny M A (if(["enumerate","zip","dict_itemiterator","dict_reverseitemiterator","odict_iterator","itertools.zip_longest","itertools.pairwise"].contains n&&vs[0]?==some (rawInt _))=true then _ else _) Q E s
      rw[AD (by intro h;rw[hn,LY] at h;cases h)]
      exact AE hQ))
def d6 (K:PySem.W.Frag)(a:Addr):It:=
 ⟨λi H=>∃xs x,SqL K H a xs/\xs[i]?=some x,λi H x H'=>H'=H/\∀xs,SqL K H a xs->xs[i]?=some x,λi H=>∃xs,SqL K H a xs/\xs.length<=i⟩
def av (K:PySem.W.Frag)(a:Addr):It:=
 ⟨λi H=>∃xs x,SqT K H a xs/\xs[i]?=some x,λi H x H'=>H'=H/\∀xs,SqT K H a xs->xs[i]?=some x,λi H=>∃xs,SqT K H a xs/\xs.length<=i⟩
def d5 (lo:Int)(n:Nat):It:=⟨λi _=>i<n,λi H x H'=>H'=H/\x=.int (lo+i),λi _=>n<=i⟩
def To {P:Program}{w:World}{K:PySem.W.Frag}{tg:Expr}(a it:Addr):Turn P w K tg (d6 K a) [it] it (λi h=>h.IsListIter it a i) where
 mem:=by simp
 obj:=λi h st b hb=>by
  have e:b=it:=by simpa using hb
  subst e
  obtain⟨o,e,c,d⟩:=st
  exact⟨o,e,λv z=>by rw[d] at z;cases z⟩
 keep:=λi h h' st k=>st.at λo e=>k it (by simp) o e
 item:=by
  intro X hP hw hK hc i pins s σ H E I hf st hg
  subst hP hw hK
  obtain⟨xs,x,hq,hx⟩:=hg
  obtain⟨its,rv,p,hz⟩:=I.list hq
  obtain⟨u,hu,ru⟩:=rv.get hx
  obtain⟨f0,f1,f2,f3,f4,f5⟩:=hf it (by simp)
  refine KR st p.isList (x:=u) (by simpa using hu) λh' RX sb=>?_
  have I1:Inv X pins σ H {s with heap:=h'}:=I.turned (t':=s.toks) (λb o hb e=>(sb.2 b hb).trans e) f0 f1 f3 f4 f5
  obtain⟨o,e,c,d⟩:=id RX
  exact⟨u,rfl,jJ (s:={s with heap:=h'}) e c d (by decide) ⟨x,H,I1,ru,⟨rfl,λys hy=>by rw[I.list_inj hy hq];exact hx⟩,RX,λb hb=>(hf b hb).1⟩⟩
 done:=by
  intro X hP hw hK hc i pins s σ H E I hf st hg
  subst hP hw hK
  obtain⟨xs,hq,hx⟩:=hg
  obtain⟨its,rv,p,hz⟩:=I.list hq
  obtain⟨f0,f1,f2,f3,f4,f5⟩:=hf it (by simp)
  have hl:=rv.length
  exact LJ (I.ok.hd hc) st p.isList (by simp;omega) λh' eb=>⟨rfl,I.turned (t':=s.toks) (λb o hb e=>eb b o hb e) f0 f1 f3 f4 f5⟩
 self:=λ_ _ _ _ _ st h=>wpAny_pyIter_listiter st h
def Ra {P:Program}{w:World}{K:PySem.W.Frag}{tg:Expr}(a it:Addr):Turn P w K tg (av K a) [it] it (λi h=>h.IsTupleIter it a i) where
 mem:=by simp
 obj:=λi h st b hb=>by
  have e:b=it:=by simpa using hb
  subst e
  obtain⟨o,e,c,d⟩:=st
  exact⟨o,e,λv z=>by rw[d] at z;cases z⟩
 keep:=λi h h' st k=>st.at λo e=>k it (by simp) o e
 item:=by
  intro X hP hw hK hc i pins s σ H E I hf st hg
  subst hP hw hK
  obtain⟨xs,x,hq,hx⟩:=hg
  obtain⟨its,rv,p,hz⟩:=I.tuple hq
  obtain⟨u,hu,ru⟩:=rv.get hx
  obtain⟨f0,f1,f2,f3,f4,f5⟩:=hf it (by simp)
  refine wpAny_pyNext_tuple_item st (show s.heap.IsTuple a its.toArray from p) (x:=u) (by simpa using hu) λh' RX sb=>?_
  have I1:Inv X pins σ H {s with heap:=h'}:=I.turned (t':=s.toks) (λb o hb e=>(sb.2 b hb).trans e) f0 f1 f3 f4 f5
  obtain⟨o,e,c,d⟩:=id RX
  exact⟨u,rfl,jJ (s:={s with heap:=h'}) e c d (by decide) ⟨x,H,I1,ru,⟨rfl,λys hy=>by rw[I.tuple_inj hy hq];exact hx⟩,RX,λb hb=>(hf b hb).1⟩⟩
 done:=by
  intro X hP hw hK hc i pins s σ H E I hf st hg
  subst hP hw hK
  obtain⟨xs,hq,hx⟩:=hg
  obtain⟨its,rv,p,hz⟩:=I.tuple hq
  obtain⟨f0,f1,f2,f3,f4,f5⟩:=hf it (by simp)
  have hl:=rv.length
  exact wpAny_pyNext_tuple_end (I.ok.hd hc) st (show s.heap.IsTuple a its.toArray from p) (by simp;omega) λh' eb=>⟨rfl,I.turned (t':=s.toks) (λb o hb e=>eb b o hb e) f0 f1 f3 f4 f5⟩
 self:=λ_ _ _ _ _ st h=>wpAny_pyIter_tupleiter st h
def C9 {P:Program}{w:World}{K:PySem.W.Frag}{tg:Expr}(it:Addr)(lo:Int)(n:Nat):Turn P w K tg (d5 lo n) [it] it (λi h=>IsRangeIter h it (lo+(i:Nat)*1) ((n:Int)-(i:Nat)) 1) where
 mem:=by simp
 obj:=λi h st b hb=>by
  have e:b=it:=by simpa using hb
  subst e
  exact⟨_,st,λv z=>by
   have z':Data.fields _=Data.cell v:=z
   cases z'⟩
 keep:=λi h h' st k=>k it (by simp) _ st
 item:=by
  intro X hP hw hK hc i pins s σ H E I hf st hg
  subst hP hw hK
  obtain⟨f0,f1,f2,f3,f4,f5⟩:=hf it (by simp)
  have W:=Walks.range (prog:=X.prog) (w:=X.w) (I.ok.hd hc) it lo 1 n
  refine W.item i s _ _ hg st λv h' tk hv RX kk=>?_
  obtain⟨t,rfl⟩:=hv
  have I1:Inv X pins σ H {s with heap:=h',toks:=tk}:=I.turned (λb o hb e=>kk b o (by simpa using hb) e) f0 f1 f3 f4 f5
  refine⟨_,rfl,jJ (s:={s with heap:=h',toks:=tk}) (n:="range_iterator") RX rfl rfl (by decide) ⟨.int (lo+i),H,I1,⟨t,?_⟩,⟨rfl,rfl⟩,RX,λb hb=>(hf b hb).1⟩⟩
  rw[CL]
 done:=by
  intro X hP hw hK hc i pins s σ H E I hf st hg
  subst hP hw hK
  obtain⟨f0,f1,f2,f3,f4,f5⟩:=hf it (by simp)
  exact wpAny_pyNext_range_end (I.ok.hd hc) st (by have:n<=i:=hg;omega) λh' eb=>⟨rfl,I.turned (t':=s.toks) (λb o hb e=>eb b o hb e) f0 f1 f3 f4 f5⟩
 self:=λ_ _ _ _ _ st h=>wpAny_pyIter_rangeiter st h
section
variable {X:Cx}{tg:Expr}
def vS (K:PySem.W.Frag)(tl:TE):TI:=λσ H R=>tl σ H λx H1=>∃a,x=.ref a/\(∃xs,SqL K H1 a xs)/\R (d6 K a) H1
def uD (K:PySem.W.Frag)(tl:TE):TI:=λσ H R=>tl σ H λx H1=>∃a,x=.ref a/\(∃xs,SqT K H1 a xs)/\R (av K a) H1
def zZ {l:Expr}{tl:TE}(hl:PE X l tl):PI X tg l (vS X.K tl):=by
 intro pins s σ H R I h
 refine Yf (hl pins s σ H _ I h) λv s1 ⟨x,H1,I1,r1,q1⟩=>?_
 obtain⟨a,e,⟨xs,hq⟩,q⟩:=q1
 subst e
 cases r1
 obtain⟨its,rv,p,hz⟩:=I1.list hq
 refine EG p.isList ?_
 refine⟨s1.heap.objs.size,[s1.heap.objs.size],_,_,H1,rfl,I1.kept (t':=s1.toks) λb o e=>AB _ e,To a _,⟨_,AH _ rfl,rfl,rfl⟩,λb hb=>?_,q⟩
 have e:b=s1.heap.objs.size:=by simpa using hb
 subst e
 exact I1.fpOk (AO _) (I1.hok.fresh (AO _))
def xM {l:Expr}{tl:TE}(hl:PE X l tl):PI X tg l (uD X.K tl):=by
 intro pins s σ H R I h
 refine Yf (hl pins s σ H _ I h) λv s1 ⟨x,H1,I1,r1,q1⟩=>?_
 obtain⟨a,e,⟨xs,hq⟩,q⟩:=q1
 subst e
 cases r1
 obtain⟨its,rv,p,hz⟩:=I1.tuple hq
 refine wpAny_pyIter_tuple (show s1.heap.IsTuple a its.toArray from p) ?_
 refine⟨s1.heap.objs.size,[s1.heap.objs.size],_,_,H1,rfl,I1.kept (t':=s1.toks) λb o e=>AB _ e,Ra a _,⟨_,AH _ rfl,rfl,rfl⟩,λb hb=>?_,q⟩
 have e:b=s1.heap.objs.size:=by simpa using hb
 subst e
 exact I1.fpOk (AO _) (I1.hok.fresh (AO _))
def Zax {pins:List (Addr×Obj)}{σ:St}{H:Hp}{s:Shared}{R:It->Hp->Prop}{E:Value->Shared->Prop}{lo hi:Int}{t u v:Tok}{tk:Nat}(I:Inv X pins σ H s)(h1:-(2 ^ 62)<=lo)(h2:lo<2 ^ 62)(h3:-(2 ^ 62)<=hi)(h4:hi<2 ^ 62)(q:R (d5 lo (hi-lo).toNat) H):wpAny (model X.prog X.w) X.A (pyIter (.ref s.heap.objs.size)) (lB X pins σ tg R) E {s with heap:=s.heap.push {cls:=.type "range", data:=.fields #[.int lo t,.int hi u,.int 1 v]},toks:=tk}:=by
 refine wpAny_pyIter_range (IsRange.new ..) (small_one h1 h2 h3 h4) ?_
 have I1:Inv X pins σ H {s with heap:=s.heap.push {cls:=.type "range", data:=.fields #[.int lo t,.int hi u,.int 1 v]},toks:=tk}:=I.kept λb o e=>AB _ e
 refine⟨(s.heap.push {cls:=.type "range", data:=.fields #[.int lo t,.int hi u,.int 1 v]}).objs.size,[(s.heap.push {cls:=.type "range", data:=.fields #[.int lo t,.int hi u,.int 1 v]}).objs.size],_,_,H,rfl,
  I1.kept (t':=tk) λb o e=>AB _ e,C9 _ lo (hi-lo).toNat,?_,λb hb=>?_,q⟩
 .have e1:lo+((0:Nat):Int)*1=lo:=by simp
  have e2:(((hi-lo).toNat:Nat):Int)-((0:Nat):Int)=Builtin.Range.rangeSize lo hi 1:=by rw[rangeSize_one];split<;>omega
  show IsRangeIter _ _ (lo+((0:Nat):Int)*1) ((((hi-lo).toNat:Nat):Int)-((0:Nat):Int)) 1
  rw[e1,e2]
  exact AH _ rfl
 .have e:b=(s.heap.push {cls:=.type "range", data:=.fields #[.int lo t,.int hi u,.int 1 v]}).objs.size:=by simpa using hb
  subst e
  exact I1.fpOk (AO _) (I1.hok.fresh (AO _))
def vR (ta:TA):TI:=λσ H R=>ta σ H λvs H1=>∃j:Int,vs=[.int j]/\-(2 ^ 62)<=j/\j<2 ^ 62/\R (d5 0 j.toNat) H1
def Iv {a:Expr}{ta:TA}{p pos:Pos} (hg:Gl X "range") (hm:X.mg "range"=none) (ha:PA X [a] ta) (hs:starEach [a] X.env=[(false,eval a X.env)]:=by rfl):PI X tg (.Call (.Name "range" p) [a] [] pos) (vR ta):=by
 intro pins s σ H R I h
 refine Call_ (Gn I hg hm boot_range (DX (Yf (ha pos pins s σ H _ I h) λus s1 ⟨vs,H1,I1,r1,q1⟩=>?_) hs rfl))
 obtain⟨j,e,q1,q2,q⟩:=q1
 subst e
 cases r1 with
 |cons r rr=>
  cases rr
  obtain⟨t,rfl⟩:=r
  exact call_range_1 (Zax I1 (by omega) (by omega) q1 q2 (by simpa using q))
def uC (wi:TI)(g:TG)(tb:TS):TS:=λD σ H=>wi σ H λJ H1=>∃W:Nat->Nat->St->Hp->Prop,(∃m,W 0 m σ H1)/\∀i m σ H,W i m σ H ->
 (J.stop i H/\D.nx σ H)\/(J.go i H/\∃N:St->Hp->Prop,(∀σ' H',N σ' H'->∃m',m'<m/\W (i+1) m' σ' H')/\∀x H',J.yld i H x H'->g x σ H' λσ2 H2=>tb {D with nx:=N,ct:=N,bk:=D.nx} σ2 H2)
def Ly (fp:List Addr)(h:Heap):List (Addr×Obj):=fp.filterMap λb=>(h.get? b).map λo=>(b,o)
def Vd {fp:List Addr}{h:Heap}{b:Addr}{o:Obj}(hb:b∈fp)(e:h.get? b=some o):(b,o)∈Ly fp h:=KA.mpr ⟨b,hb,by rw[e];rfl⟩
def Iw {fp:List Addr}{h:Heap}{p:Addr×Obj}(hp:p∈Ly fp h):p.1∈fp/\h.get? p.1=some p.2:=by
 obtain⟨b,hb,e⟩:=KA.mp hp
 cases q:h.get? b with
 |none=>rw[q] at e;cases e
 |some o=>
  rw[q] at e
  have e':(b,o)=p:=BD e
  subst e'
  exact⟨hb,q⟩
def Inv.pinned {pins:List (Addr×Obj)}{σ:St}{H:Hp}{s:Shared}{fp:List Addr}(I:Inv X pins σ H s)(hf:∀b∈fp,P9 X pins H b)(ho:∀b∈fp,∃o,s.heap.get? b=some o/\∀v,o.data≠.cell v):Inv X (pins++Ly fp s.heap) σ H s:=
 I.pins_of λp hp=>(DA.mp hp).elim (λz=>I.pin p (CG _ z)) λz=>by
  obtain⟨hb,e⟩:=Iw z
  obtain⟨f0,f1,f2,_⟩:=hf p.1 hb
  obtain⟨o,e',d⟩:=ho p.1 hb
  rw[e] at e';cases e'
  exact⟨e,f0,f1,f2,d⟩
def Inv.unpinned {pins pl:List (Addr×Obj)}{σ:St}{H:Hp}{s:Shared}(I:Inv X (pins++pl) σ H s):Inv X pins σ H s:=I.pins_of λp hp=>I.pin p (CG _ (JL _ hp))
def Da {iter:Expr}{body:List Stmt}{wi:TI}{g:TG}{tb:TS}{pos:Pos}(hp:PassesOwn (model X.prog X.w) X.A X.env X.xe)(hc:X.calm=true)(hi:PI X tg iter wi)(hg:PG X tg g)(hb:PSs X body tb)(hs:∀x,foldedSetIterable iter X.env x=pure x:=by intro _;rfl):PS X (.For tg iter body [] pos) (uC wi g tb):=by
 intro pins s σ H D I h
 refine wpAny_For (Yf (hi pins s σ H _ I h) λv s1 h1=>Yf h1 λff s2 h2=>?_) hs
 obtain⟨it,fp,tn,J,H2,e,I2,T,bC,f2,W,⟨m0,w0⟩,turn⟩:=h2
 subst e
 have YS:∀{H':Hp},(∀b∈fp,H' b=none)->∀b∈fp,P9 X pins H' b:=λhn b hb=>⟨hn b hb,(f2 b hb).2⟩
 refine codeAny_forLoop_any (λn s'=>∃i σ' H',Inv X pins σ' H' s'/\tn i s'.heap/\(∀b∈fp,H' b=none)/\W i n σ' H') ?_ m0 ⟨0,σ,H2,I2,bC,λb hb=>(f2 b hb).1,w0⟩
 rintro n s3 ⟨i,σ3,H3,I3,jZ,kM,w3⟩
 rcases turn i n σ3 H3 w3 with⟨stop,qn⟩|⟨go,N,hN,step⟩
 .refine EA hp (Yf (T.done X rfl rfl rfl hc i pins s3 σ3 H3 X.xe I3 (YS kM) jZ stop) λr s4 ⟨hr,I4⟩=>?_)
  subst hr
  exact EX ⟨σ3,H3,I4,qn⟩
 .refine EA hp (Yf (T.item X rfl rfl rfl hc i pins s3 σ3 H3 X.xe I3 (YS kM) jZ go) λr s4 ⟨u,hr,h4⟩=>?_)
  subst hr
  refine EA hp (Yf h4 λ_ s5 ⟨x,H5,I5,r5,y5,YT,hV⟩=>?_)
  have I5':=I5.pinned (YS hV) (T.obj _ _ YT)
  refine EA hp (Yf (hg _ s5 σ3 H5 x u _ I5' r5 (step x H5 y5)) λ_ s6 ⟨σ6,H6,I6,q6⟩=>?_)
  refine EA hp (Yf (hb _ s6 σ6 H6 _ I6 q6) λf s7 q7=>?_)
  have again:∀{σ7:St}{H7:Hp},Inv X (pins++Ly fp s5.heap) σ7 H7 s7->N σ7 H7->∃m,m<n/\∃i σ' H',Inv X pins σ' H' s7/\tn i s7.heap/\(∀b∈fp,H' b=none)/\W i m σ' H':=λ{σ7 H7} I7 n7=>by
   obtain⟨m',hm,w7⟩:=hN σ7 H7 n7
   refine⟨m',hm,i+1,σ7,H7,I7.unpinned,T.keep _ _ _ YT λb hb o e=>(I7.pin (b,o) (CG _ (CG _ (Vd hb e)))).1,λb hb=>?_,w7⟩
   obtain⟨o,e,d⟩:=T.obj _ _ YT b hb
   exact(I7.pin (b,o) (CG _ (CG _ (Vd hb e)))).2.1
  cases f with
  |next=>obtain⟨σ7,H7,I7,n7⟩:=q7;exact again I7 n7
  |cont=>obtain⟨σ7,H7,I7,n7⟩:=q7;exact again I7 n7
  |brk=>obtain⟨σ7,H7,I7,q7⟩:=q7;exact⟨σ7,H7,I7.unpinned,q7⟩
  |ret v=>obtain⟨x7,σ7,H7,I7,r7,q7⟩:=q7;exact⟨x7,σ7,H7,I7.unpinned,r7,q7⟩
end
abbrev R2:=V->V->Hp->VK->Prop
def OpR (X:Cx)(f:Value->Value->Sem Value)(r:R2):Prop:=
 ∀(pins:List (Addr×Obj)) (s:Shared) (σ:St) (H:Hp) (x y:V) (v u:Value) (Q:VK),Inv X pins σ H s->RelV x v->RelV y u->r x y H Q ->
  wpAny (model X.prog X.w) X.A (f v u) (EP X pins σ Q) X.xe s
def dz (X:Cx)(f:Value->Sem Value)(r:V->Hp->VK->Prop):Prop:=
 ∀(pins:List (Addr×Obj)) (s:Shared) (σ:St) (H:Hp) (x:V) (v:Value) (Q:VK),Inv X pins σ H s->RelV x v->r x H Q ->
  wpAny (model X.prog X.w) X.A (f v) (EP X pins σ Q) X.xe s
def CallR (X:Cx)(f:Value)(r:List V->Hp->VK->Prop):Prop:=
 ∀(pins:List (Addr×Obj)) (s:Shared) (σ:St) (H:Hp) (xs:List V) (us:List Value) (Q:VK),Inv X pins σ H s->Vals xs us->r xs H Q ->
  wpAny (model X.prog X.w) X.A (call f us) (EP X pins σ Q) X.xe s
def au (r:R2)(ta tb:TE):TE:=λσ H Q=>ta σ H λx H1=>tb σ H1 λy H2=>r x y H2 Q
def sZ (r:V->Hp->VK->Prop)(ta:TE):TE:=λσ H Q=>ta σ H λx H1=>r x H1 Q
def rI (C:Int->Int->Prop)(g:Int->Int->V):R2:=λx y H Q=>∃i j,x=.int i/\y=.int j/\C i j/\Q (g i j) H
def XQ (g:Int->Int->V):R2:=λx y H Q=>∃i j,x=.int i/\y=.int j/\Q (g i j) H
def rU (g:Int->V):V->Hp->VK->Prop:=λx H Q=>∃i,x=.int i/\Q (g i) H
section
variable {X:Cx}{a b c:Expr}{ta tb tc:TE}{pos:Pos}
def il (ha:PE X a ta)(hb:PE X b tb){pins:List (Addr×Obj)}{s:Shared}{σ:St}{H:Hp}{R:V->V->Hp->Prop}(I:Inv X pins σ H s)(h:ta σ H λx H1=>tb σ H1 λy H2=>R x y H2){Q:Value->Shared->Prop}{f:Value->Value->Sem Value}(hf:∀v u s2 x y H2,Inv X pins σ H2 s2->RelV x v->RelV y u->R x y H2->wpAny (model X.prog X.w) X.A (f v u) Q X.xe s2):
  wpAny (model X.prog X.w) X.A (eval a X.env) (λv s₁=>wpAny (model X.prog X.w) X.A (eval b X.env) (λu s₂=>wpAny (model X.prog X.w) X.A (f v u) Q X.xe s₂) X.xe s₁) X.xe s:=by
 refine Yf (ha pins s σ H _ I h) λv s1 ⟨x,H1,I1,r1,q1⟩=>?_
 refine Yf (hb pins s1 σ H1 _ I1 q1) λu s2 ⟨y,H2,I2,r2,q2⟩=>?_
 exact hf v u s2 x y H2 I2 r1 r2 q2
def mh {op:Operator}{r:R2}(ho:OpR X (binaryOp op) r)(ha:PE X a ta)(hb:PE X b tb):PE X (.BinOp a op b pos) (au r ta tb):=by
 intro pins s σ H Q I h
 exact wpAny_BinOp (il ha hb I h λv u s2 x y H2 I2 rx ry q=>ho pins s2 σ H2 x y v u Q I2 rx ry q)
def mf {op:UnaryOp}{r:V->Hp->VK->Prop}(ho:dz X (unaryOp op) r)(ha:PE X a ta):PE X (.UnaryOp op a pos) (sZ r ta):=by
 intro pins s σ H Q I h
 exact UnaryOp_ (Yf (ha pins s σ H _ I h) λv s1 ⟨x,H1,I1,r1,q1⟩=>ho pins s1 σ H1 x v Q I1 r1 q1)
def dw {f:Value->Value->Sem Value}{C:Int->Int->Prop}{g:Int->Int->Int}(rule:∀(i j:Int) (t u:Tok) (s:Shared) (Q:Value->Shared->Prop) (E:Value->Shared->Prop),C i j->Q (.int (g i j) s.toks) {s with toks:=s.toks+1}->wpAny (model X.prog X.w) X.A (f (.int i t) (.int j u)) Q E s):
  OpR X f (rI C λi j=>.int (g i j)):=by
 intro pins s σ H x y v u Q I rx ry h
 obtain⟨i,j,rfl,rfl,hc,q⟩:=h
 obtain⟨t,rfl⟩:=rx
 obtain⟨t',rfl⟩:=ry
 exact rule i j t t' s _ _ hc ⟨.int (g i j),H,I.tok _,⟨_,rfl⟩,q⟩
def lh {f:Value->Value->Sem Value}{g:Int->Int->Int}(rule:∀(i j:Int) (t u:Tok) (s:Shared) (Q:Value->Shared->Prop) (E:Value->Shared->Prop),Q (.int (g i j) s.toks) {s with toks:=s.toks+1}->wpAny (model X.prog X.w) X.A (f (.int i t) (.int j u)) Q E s):
  OpR X f (XQ λi j=>.int (g i j)):=by
 intro pins s σ H x y v u Q I rx ry h
 obtain⟨i,j,rfl,rfl,q⟩:=h
 obtain⟨t,rfl⟩:=rx
 obtain⟨t',rfl⟩:=ry
 exact rule i j t t' s _ _ ⟨.int (g i j),H,I.tok _,⟨_,rfl⟩,q⟩
def eZ {f:Value->Value->Sem Value}{g:Int->Int->Bool}(rule:∀(i j:Int) (t u:Tok) (s:Shared) (Q:Value->Shared->Prop) (E:Value->Shared->Prop),Q (.bool (g i j)) s->wpAny (model X.prog X.w) X.A (f (.int i t) (.int j u)) Q E s):
  OpR X f (XQ λi j=>.bl (g i j)):=by
 intro pins s σ H x y v u Q I rx ry h
 obtain⟨i,j,rfl,rfl,q⟩:=h
 obtain⟨t,rfl⟩:=rx
 obtain⟨t',rfl⟩:=ry
 exact rule i j t t' s _ _ ⟨.bl (g i j),H,I,rfl,q⟩
def uB (i j:Int):Prop:=0<=j/\j<=1000000/\i.natAbs<2 ^ 64
def op_add:OpR X (binaryOp .Add) (XQ λi j=>.int (i+j)):=lh λ_ _ _ _ _ _ _ q=>add_int q
def xK:OpR X (binaryOp .Sub) (XQ λi j=>.int (i-j)):=lh λ_ _ _ _ _ _ _ q=>sub_int q
def zY:OpR X (binaryOp .Mod) (rI (λ_ j=>j≠0) λi j=>.int (i.fmod j)):=dw λ_ _ _ _ _ _ _ hc q=>mod_int' hc q
def xJ:OpR X (binaryOp .Pow) (rI uB λi j=>.int (i ^ j.toNat)):=dw λ_ _ _ _ _ _ _ hc q=>pow_int_small hc.1 hc.2.1 hc.2.2 q
def sY {f:Value->Sem Value}{g:Int->Int}(rule:∀(i:Int) (t:Tok) (s:Shared) (Q:Value->Shared->Prop) (E:Value->Shared->Prop),Q (.int (g i) s.toks) {s with toks:=s.toks+1}->wpAny (model X.prog X.w) X.A (f (.int i t)) Q E s):
  dz X f (rU λi=>.int (g i)):=by
 intro pins s σ H x v Q I rx h
 obtain⟨i,rfl,q⟩:=h
 obtain⟨t,rfl⟩:=rx
 exact rule i t s _ _ ⟨.int (g i),H,I.tok _,⟨_,rfl⟩,q⟩
def xI:dz X (unaryOp .USub) (rU λi=>.int (-i)):=sY λ_ _ _ _ _ q=>neg_int q
end
section
variable {X:Cx}{a b c:Expr}{ta tb tc:TE}{pos:Pos}
def n8 {pins:List (Addr×Obj)}{σ:St}{H:Hp}{s:Shared}{Q:VK}{k k':Bool}(I:Inv X pins σ H s)(q:Q (.bl k) H)(e:k=k'):EP X pins σ Q (.bool k') s:=by
 subst e
 exact⟨.bl k,H,I,rfl,q⟩
def u4:OpR X (compareOp .Lt) (XQ λi j=>.bl (decide (i<j))):=eZ λ_ _ _ _ _ _ _ q=>lt_int q
def u3:OpR X (compareOp .LtE) (XQ λi j=>.bl (decide (i<=j))):=eZ λ_ _ _ _ _ _ _ q=>le_int q
def uz:OpR X (compareOp .Gt) (XQ λi j=>.bl (decide (j<i))):=eZ λ_ _ _ _ _ _ _ q=>gt_int q
def uy:OpR X (compareOp .GtE) (XQ λi j=>.bl (decide (j<=i))):=eZ λ_ _ _ _ _ _ _ q=>ge_int q
def xH:OpR X (compareOp .Is) (λx y H Q=>y=.non/\Q (.bl (decide (x=.non))) H):=by
 intro pins s σ H x y v u Q I rx ry h
 obtain⟨rfl,q⟩:=h
 cases ry
 refine is_none_gen (n8 I q ?_)
 cases x<;>first
  |(cases rx;rfl)
  |(obtain⟨t,rfl⟩:=rx;rfl)
def zX:OpR X (compareOp .IsNot) (λx y H Q=>y=.non/\Q (.bl (!decide (x=.non))) H):=by
 intro pins s σ H x y v u Q I rx ry h
 obtain⟨rfl,q⟩:=h
 cases ry
 refine isnot_none_gen (n8 I q ?_)
 cases x<;>first
  |(cases rx;rfl)
  |(obtain⟨t,rfl⟩:=rx;rfl)
def OpR.or {f:Value->Value->Sem Value}{r r':R2}(h:OpR X f r)(h':OpR X f r'):OpR X f (λx y H Q=>r x y H Q\/r' x y H Q):=by
 intro pins s σ H x y v u Q I rx ry q
 rcases q with q|q
 .exact h pins s σ H x y v u Q I rx ry q
 .exact h' pins s σ H x y v u Q I rx ry q
def Z0 (b:Expr){op:CmpOp}(h:op≠.In:=by decide)(h2:op≠.NotIn:=by decide):behindInMarks op b=false:=by
 have e1:(op==CmpOp.In)=false:=by cases op<;>first|rfl|exact absurd rfl h
 have e2:(op==CmpOp.NotIn)=false:=by cases op<;>first|rfl|exact absurd rfl h2
 cases b<;>simp[behindInMarks,e1,e2]
def zW {op:CmpOp}{r:R2}(ho:OpR X (compareOp op) r)(ha:PE X a ta)(hb:PE X b tb)(hm:behindInMarks op b=false):PE X (.Compare a [op] [b] pos) (au r ta tb):=by
 intro pins s σ H Q I h
 exact wpAny_Compare1 (il ha hb I h λv u s2 x y H2 I2 rx ry q=>ho pins s2 σ H2 x y v u Q I2 rx ry q) hm
def ux (t:TE):TT:=λσ H Q=>t σ H λx H'=>∃k,x=.bl k/\Q k H'
def Lz {op:CmpOp}{r:R2}(ho:OpR X (compareOp op) r)(ha:PE X a ta)(hb:PE X b tb)(hm:behindInMarks op b=false):PT X (.Compare a [op] [b] pos) (ux (au r ta tb)):=by
 intro pins s σ H Q I h
 refine LK (Yf (ha pins s σ H _ I h) λv s1 ⟨x,H1,I1,r1,q1⟩=>Yf (hb pins s1 σ H1 _ I1 q1) λu s2 ⟨y,H2,I2,r2,q2⟩=>
  Yf (ho pins s2 σ H2 x y v u _ I2 r1 r2 q2) λc s3 ⟨z,H3,I3,r3,k,e,q3⟩=>?_) hm
 subst e
 cases r3
 exact DK ⟨H3,I3,q3⟩
def Rb:(sizeLine:Nat)<2 ^ 63:=by rw[CH];decide
def Db:OpR X (binaryOp .Add) (λx y H Q=>∃i j,x=.str i/\y=.str j/\i.length+j.length<=sizeLine/\Q (.str (i++j)) H):=by
 intro pins s σ H x y v u Q I rx ry h
 obtain⟨i,j,rfl,rfl,hz,q⟩:=h
 obtain⟨t,rfl⟩:=rx
 obtain⟨t',rfl⟩:=ry
 exact add_str (λt' tk=>⟨.str (i++j),H,I.tok _,⟨_,rfl⟩,q⟩) hz
def Vx {x:V}{us:List Value}(r:Vals [x] us):∃u,us=[u]/\RelV x u:=by
 cases r with
 |cons r1 r2=>cases r2;exact⟨_,rfl,r1⟩
def jI {x y:V}{us:List Value}(r:Vals [x,y] us):∃u w',us=[u,w']/\RelV x u/\RelV y w':=by
 cases r with
 |cons r1 r2=>
  cases r2 with
  |cons r3 r4=>cases r4;exact⟨_,_,rfl,r1,r3⟩
def Za0:CallR X (.builtin "abs") (λxs H Q=>∃i,xs=[.int i]/\Q (.int (if i<0 then -i else i)) H):=by
 intro pins s σ H xs us Q I r h
 obtain⟨i,rfl,q⟩:=h
 obtain⟨u,rfl,t,rfl⟩:=Vx r
 exact call_abs_int λu tk=>⟨.int (if i<0 then -i else i),H,I.tok _,⟨_,rfl⟩,q⟩
def Ix (hc:X.calm=true):CallR X (.builtin "max") (λxs H Q=>∃i j,xs=[.int i,.int j]/\Q (.int (if j > i then j else i)) H):=by
 intro pins s σ H xs us Q I r h
 obtain⟨i,j,rfl,q⟩:=h
 obtain⟨u,w',rfl,⟨t,rfl⟩,⟨t',rfl⟩⟩:=jI r
 refine max_two_ints (I.ok.hd hc) λh' tk k=>⟨_,H,I.kept k,?_,q⟩
 by_cases hj:j > i
 .rw[AC hj,AC hj];exact⟨_,rfl⟩
 .rw[AD hj,AD hj];exact⟨_,rfl⟩
def Iy:CallR X (.type "int") (λxs H Q=>(∃i,xs=[.int i]/\Q (.int i) H)\/∃k,xs=[.bl k]/\Q (.int (if k then 1 else 0)) H):=by
 intro pins s σ H xs us Q I r h
 rcases h with⟨i,rfl,q⟩|⟨k,rfl,q⟩
 .obtain⟨u,rfl,t,rfl⟩:=Vx r
  exact call_int_int ⟨.int i,H,I,⟨_,rfl⟩,q⟩
 .obtain⟨u,rfl,r1⟩:=Vx r
  cases r1
  exact call_int_bool ⟨.int (if k then 1 else 0),H,I.tok _,⟨_,rfl⟩,q⟩
end
structure ObjM (h:Heap) (x dx C:Addr) (mA:Str->Option Value):Prop where
 obj:h.get? x=some (PySem.W.instObj C dx)
 ns:h.Ns1 dx mA
 ne:dx≠x
def Tp {h:Heap}{dx:Addr}{mA:Str->Option Value}(n:h.Ns1 dx mA):∃od,h.get? dx=some od/\∀name,PySem.W.lookIn name od=some (mA name):=by
 obtain⟨o,es,ep,ho,hd,hk,_,hm⟩:=n
 refine⟨o,ho,λname=>?_⟩
 have e:=hm name
 unfold nsFind findBy at e
 rw[<-KG] at e
 unfold PySem.W.lookIn
 rw[hd]
 dsimp only
 split
 .rename_i y q
  rw[q] at e
  exact congrArg some e
 .rename_i q
  rw[q] at e
  have a:es.toList.any (·.refKey)=false:=by
   rw[List.any_eq_false]
   intro y hy
   obtain⟨z,t,SD⟩:=hk y (Array.mem_toList_iff.mp hy)
   simp[DictEntry.refKey,SD]
  have a':¬es.toList.any (·.refKey)=true:=by rw[a];exact AY
  rw[AD a']
  exact congrArg some e
def ObjM.look {h:Heap}{x dx C:Addr}{mA:Str->Option Value}(I:ObjM h x dx C mA):∃od,PySem.W.InstAt h x (PySem.W.instObj C dx) C (some od)/\∀name,PySem.W.lookIn name od=some (mA name):=
 let ⟨od,ho,hl⟩:=Tp I.ns
 ⟨od,⟨I.obj,rfl,rfl,ho⟩,hl⟩
section
variable {prog:Program}{w:World}{A:Around}{E:Value->Shared->Prop}{s:Shared}{K:PySem.W.Frag}{x dx C f:Addr}{mA:Str->Option Value}{name:Str}{v:Value}
def zV {expr:Bool}{Q:Value->Shared->Prop}(X:K.In s.heap)(I:ObjM s.heap x dx C mA)(hg:PySem.W.plainGet K C name=true)(hh:PySem.W.hasDictIn K C=true)(ha:PySem.W.findIn K (.ref C) name=some none)(hv:mA name=some v)(fu:PySem.W.handedIn v=true)(h:Q v {s with toks:=s.toks+1}):
  wpAny (model prog w) A (getAttr (.ref x) name expr) Q E s:=by
 obtain⟨od,J,hl⟩:=I.look
 exact PySem.W.get_value X J (GO hg).1 (PySem.W.findObj_own hh ha rfl (by rw[hl,hv])) fu h
def Za1 {pl:Sem Bool}{Q:Value×List Value->Shared->Prop}(X:K.In s.heap)(I:ObjM s.heap x dx C mA)(hg:PySem.W.plainGet K C name=true)(hf:PySem.W.findIn K (.ref C) name=some (some (.ref f)))(ht:PySem.W.isFn K (.ref f)=true)(hv:mA name=none)(h:Q (.ref f,[.ref x]) s):
  wpAny (model prog w) A (getMethod (.ref x) name pl) Q E s:=by
 obtain⟨od,J,hl⟩:=I.look
 exact PySem.W.method_fn X J (GO hg).1 (GO hg).2 hf (CO.mp ht) (by show(PySem.W.lookIn name od).map (·.isSome)=some false;rw[hl,hv];rfl) h
def zU {ns:List Str}{Q:Unit->Shared->Prop}(X:K.In s.heap)(I:ObjM s.heap x dx C mA)
  (hs:PySem.W.findIn K (.ref C) "__setattr__"=some (some (.builtin "object.__setattr__"))) (hp:PySem.W.plainOver K C=true) (ht:PySem.W.takerIn K C name=some none) (hh:PySem.W.hasDictIn K C=true)
  (hw:PySem.Within mA ns) (hsz:ns.length<=sizeLine)
  (h:∀h',ObjM h' x dx C (λy=>if y=name then some v else mA y)->Heap.SameBut dx s.heap h'->Q () {s with heap:=h',toks:=s.toks+2}):
  wpAny (model prog w) A (setAttr (.ref x) name v) Q E s:=by
 obtain⟨od,J,hl⟩:=I.look
 refine PySem.W.set_plain X J hs (PySem.W.osa_open (s:={s with toks:=s.toks+1}) (r:=none) X J hp ht λb=>?_)
 obtain⟨cd,hc,ZL⟩:=PySem.W.any_some hh
 have hx:s.heap.get? x=some ⟨.ref C,some dx,.plain,#[]⟩:=I.obj
 refine AA (AE (AA (AA (wpAny_loadPart hx (AA (PySem.W.Looks.here (s:={s with toks:=s.toks+1}) (PySem.W.looks_clsIn X hc) ?_))))))
 rw[ZL]
 refine AE (a:=some dx) (AA (AE (AA ?_)))
 refine wpAny_nsSet1 (s:={s with toks:=s.toks+1}) I.ns λh' hn2 hs2=>?_
 obtain⟨oD,rR,rT,gL,gh,gu⟩:=hn2.count (KJ name v hw)
 refine AA (wpAny_lookBehind gL (by rw[gh];exact pastItsLine_dict (AV gu (by rw[AW];omega))) ?_)
 exact AE (h _ ⟨(hs2.2 _ (CQ I.ne)).trans I.obj,hn2,I.ne⟩ hs2)
def Za2 {R:Result->Shared->Prop}{vs:List Value}{kw:List (Str×Value)}(X:K.In s.heap)(hm:PySem.W.makesIn K C=true)
  (hi:PySem.W.findIn K (.ref C) "__init__"=some (some (.ref f))) (hf:PySem.W.typeIn K (.ref f)=some (.type "function"))
  (h:codeAny (model prog w) (A.under (.builtin "type.__call__" ⟨.ref C::vs,kw⟩)) (.call (.ref f) ⟨.ref (s.heap.objs.size+1)::vs,kw⟩) (PySem.W.InitBack (s.heap.objs.size+1) R)
   {s with heap:=(s.heap.push PySem.W.emptyDict).push (PySem.W.instObj C s.heap.objs.size)}):
  codeAny (model prog w) A (.call (.ref C) ⟨vs,kw⟩) R s:=by
 obtain⟨hh,g,d,t,os⟩:=s
 exact PySem.W.make_core (PySem.W.makes_of X hm) (PySem.W.looks_findIn X hi) (λself=>PySem.W.bind_fn X self hf) (.inl rfl) h
end
def Ya (f:Str)(v:V):List (Str×V)->List (Str×V)
 |[]=>[(f,v)]
 |(g,x)::r=>if g=f then(g,v)::r else(g,x)::Ya f v r
theorem Ql (f g:Str)(v:V):∀fs:List (Str×V),(Ya f v fs).lookup g=if g=f then some v else fs.lookup g
 |[]=>by
  show List.lookup g [(f,v)]=_
  by_cases h:g=f
  .have hb:(g==f)=true:=CO.mpr h
   simp only[List.lookup,hb,AC h]
  .have hb:(g==f)=false:=CK.mpr h
   simp only[List.lookup,hb,AD h]
 |(k,x)::r=>by
  have ih:=Ql f g v r
  rw[show Ya f v ((k,x)::r)=(if k=f then(k,v)::r else(k,x)::Ya f v r) from rfl]
  by_cases hk:k=f
  .rw[AC hk]
   by_cases h:g=k
   .have hb:(g==k)=true:=CO.mpr h
    simp only[List.lookup,hb,AC (h.trans hk)]
   .have hb:(g==k)=false:=CK.mpr h
    simp only[List.lookup,hb,AD (λe:g=f=>h (e.trans hk.symm))]
  .rw[AD hk]
   by_cases h:g=k
   .have hb:(g==k)=true:=CO.mpr h
    simp only[List.lookup,hb,AD (λe:g=f=>hk (h.symm.trans e))]
   .have hb:(g==k)=false:=CK.mpr h
    simp only[List.lookup,hb]
    exact ih
theorem Gq (f:Str)(v:V):∀fs:List (Str×V),f∈(Ya f v fs).map (·.1)/\∀g,g∈fs.map (·.1)->g∈(Ya f v fs).map (·.1)
 |[]=>⟨by simp[Ya],λg h=>by simp at h⟩
 |(k,x)::r=>by
  obtain⟨i1,i2⟩:=Gq f v r
  rw[show Ya f v ((k,x)::r)=(if k=f then(k,v)::r else(k,x)::Ya f v r) from rfl]
  by_cases hk:k=f
  .rw[AC hk]
   subst hk
   exact⟨by simp,λg h=>by simpa using h⟩
  .rw[AD hk]
   refine⟨?_,λg h=>?_⟩
   .rw[BA]
    exact AQ _ i1
   .rw[BA] at h ⊢
    rcases AZ.mp h with e|e
    .exact AZ.mpr (.inl e)
    .exact AQ _ (i2 g e)
theorem N6 (f:Str)(v:V):∀fs:List (Str×V),(Ya f v fs).length<=fs.length+1
 |[]=>by simp[Ya]
 |(k,x)::r=>by
  have ih:=N6 f v r
  rw[show Ya f v ((k,x)::r)=(if k=f then(k,v)::r else(k,x)::Ya f v r) from rfl]
  by_cases hk:k=f
  .rw[AC hk,AW,AW];omega
  .rw[AD hk,AW,AW];omega
def RelO.some_of {v:V}{o:Option Value}(r:RelO (some v) o):∃u,o=some u/\RelV v u:=by
 cases o with
 |none=>exact(show False from r).elim
 |some u=>exact⟨u,rfl,r⟩
def RelO.none_of {o:Option Value}(r:RelO none o):o=none:=by
 cases o with
 |none=>rfl
 |some u=>exact(show False from r).elim
def Tq {v:V}{u:Value}(r:RelV v u):PySem.W.handedIn u=true:=by
 cases v with
 |non=>cases (show u=Value.none from r);rfl
 |bl b=>cases (show u=Value.bool b from r);rfl
 |int i=>obtain⟨t,e⟩:=(show ∃t,u=Value.int i t from r);cases e;rfl
 |str x=>obtain⟨t,e⟩:=(show ∃t,u=Value.str x t from r);cases e;rfl
 |byt b=>obtain⟨t,e⟩:=(show ∃t,u=Value.bytes b t from r);cases e;rfl
 |flt b=>obtain⟨t,e⟩:=(show ∃t,u=Value.float b t from r);cases e;rfl
 |ref a=>cases (show u=Value.ref a from r);rfl
 |ty n=>cases (show u=Value.type n from r);rfl
section
variable {P:Program}{w:World}{H H':Hp}{h h':Heap}{a C dx:Addr}{fs fs':List (Str×V)}
def L3 (hok:HOk P w H h)(e:H a=some (.ins C dx fs)):∃mA,ObjM h a dx C mA/\(∀f,RelO (fs.lookup f) (mA f))/\PySem.Within mA (fs.map (·.1))/\fs.length<=1000/\H dx=some (.own a):=by
 obtain⟨d,z,ne,ob,mA,n,r,q⟩:=(show ObjOk P w H h a (.ins C dx fs) from hok a _ e)
 exact⟨mA,⟨ob,n,ne⟩,r,q,z,d⟩
end
structure Cls (K:PySem.W.Frag) (C:Addr):Prop where
 pg:PySem.W.plainGet K C Str.empty=true
 hd:PySem.W.hasDictIn K C=true
 po:PySem.W.plainOver K C=true
 sa:PySem.W.findIn K (.ref C) "__setattr__"=some (some (.builtin "object.__setattr__"))
def Cls.get {K:PySem.W.Frag}{C:Addr}(c:Cls K C)(f:Str):PySem.W.plainGet K C f=true:=c.pg
def NoAttr (K:PySem.W.Frag)(C:Addr)(f:Str):Prop:=PySem.W.findIn K (.ref C) f=some none
def NoAttr.taker {K:PySem.W.Frag}{C:Addr}{f:Str}(n:NoAttr K C f):PySem.W.takerIn K C f=some none:=by
 unfold PySem.W.takerIn
 rw[show PySem.W.findIn K (.ref C) f=some none from n]
 rfl
structure NI (K:PySem.W.Frag) (C:Addr) (m:Str) (f:Addr):Prop where
 at_:PySem.W.findIn K (.ref C) m=some (some (.ref f))
 fn:PySem.W.isFn K (.ref f)=true
 kp:PySem.W.keepIn K (.ref f)=true
section
variable {X:Cx}{pins:List (Addr×Obj)}{σ:St}{H:Hp}{s:Shared}{a C dx:Addr}{fs:List (Str×V)}{f:Str}{v:V}{A:Around}{E:Value->Shared->Prop}
def Rc {b:Bool}{Q:Value->Shared->Prop}(I:Inv X pins σ H s)(e:H a=some (.ins C dx fs))(c:Cls X.K C)(n:NoAttr X.K C f)(l:fs.lookup f=some v)(h:∀u s',Inv X pins σ H s'->RelV v u->Q u s'):wpAny (model X.prog X.w) A (getAttr (.ref a) f b) Q E s:=by
 obtain⟨mA,O,r,_,_,_⟩:=L3 I.hok e
 obtain⟨u,hu,ru⟩:=RelO.some_of (v:=v) (o:=mA f) (by rw[<-l];exact r f)
 exact zV I.kIn O (c.get f) c.hd n hu (Tq ru) (h u _ (I.tok _) ru)
def Re {m:Str}{g:Addr}{pl:Sem Bool}{Q:Value×List Value->Shared->Prop}(I:Inv X pins σ H s)(e:H a=some (.ins C dx fs))(c:Cls X.K C)(k:NI X.K C m g)(l:fs.lookup m=none)(h:Q (.ref g,[.ref a]) s):wpAny (model X.prog X.w) A (getMethod (.ref a) m pl) Q E s:=by
 obtain⟨mA,O,r,_,_,_⟩:=L3 I.hok e
 have hn:mA m=none:=RelO.none_of (by rw[<-l];exact r m)
 exact Za1 I.kIn O (c.get m) k.at_ k.fn hn h
def Rf {y:V}{u:Value}{Q:Unit->Shared->Prop}(I:Inv X pins σ H s)(e:H a=some (.ins C dx fs))(c:Cls X.K C)(n:NoAttr X.K C f)(hl:fs.length<1000)(ry:RelV y u)(h:∀s',Inv X pins σ (upd H a (.ins C dx (Ya f y fs))) s'->Q () s'):wpAny (model X.prog X.w) A (setAttr (.ref a) f u) Q E s:=by
 obtain⟨mA,O,r,wi,_,ho⟩:=L3 I.hok e
 have hz:(fs.map (·.1)).length<=sizeLine:=by rw[BM,CH];omega
 refine zU I.kIn O c.sa c.po n.taker c.hd wi hz λh' O' sb=>h _ ?_
 have hd:∃o,h'.get? dx=some o:=let ⟨o,_,_,e',_⟩:=O'.ns;⟨o,e'⟩
 refine I.write (x:=a) (e:=dx) (by rw[e];exact True.intro) (.inr ho) (λb q hb z=>(sb.2 b hb).trans z) hd ?_
 refine⟨by rw[Zl O.ne];exact ho,?_,O.ne,O'.obj,_,O'.ns,λg=>?_,λg hg=>?_⟩
 .have:=N6 f y fs;omega
 .show RelO ((Ya f y fs).lookup g) (if g=f then some u else mA g)
  rw[Ql]
  by_cases q:g=f
  .rw[AC q,AC q];exact ry
  .rw[AD q,AD q];exact r g
 .by_cases q:g=f
  .rw[q];exact(Gq f y fs).1
  .refine(Gq f y fs).2 g (wi g λz=>hg ?_)
   show(if g=f then some u else mA g)=none
   rw[AD q];exact z
def Inv.made (I:Inv X pins σ H s):Inv X pins σ (upd (upd H s.heap.objs.size (.own (s.heap.objs.size+1))) (s.heap.objs.size+1) (.ins C s.heap.objs.size []))
  {s with heap:=(s.heap.push PySem.W.emptyDict).push (PySem.W.instObj C s.heap.objs.size)}:=by
 have e1:(s.heap.push PySem.W.emptyDict).get? s.heap.objs.size=some PySem.W.emptyDict:=AH s.heap rfl
 have e2:((s.heap.push PySem.W.emptyDict).push (PySem.W.instObj C s.heap.objs.size)).get? (s.heap.objs.size+1)=some (PySem.W.instObj C s.heap.objs.size):=by
  have:=AH (s.heap.push PySem.W.emptyDict) (o:=PySem.W.instObj C s.heap.objs.size) rfl
  rwa[CU] at this
 have e3:(s.heap.push PySem.W.emptyDict).Ns s.heap.objs.size (λ_=>none):=⟨PySem.W.emptyDict,#[],_,e1,rfl,(λe he=>absurd he (by simp)),λ_=>rfl⟩
 have I1:=I.laid (a:=s.heap.objs.size) (o:=.own (s.heap.objs.size+1)) (h':=s.heap.push PySem.W.emptyDict) (t':=s.toks) (λb u q=>AB _ q) (AO _) ⟨_,e1⟩
 refine I1.laid (a:=s.heap.objs.size+1) (o:=.ins C s.heap.objs.size []) (t':=s.toks) (λb u q=>AB _ q) (JA (CU _ _)) ?_
 have ne:s.heap.objs.size≠s.heap.objs.size+1:=AI (EC _)
 refine⟨by rw[Zl ne,Zo],CI _,ne,e2,λ_=>none,(Heap.Ns1.of_empty e3).at λo q=>AB _ q,λ_=>True.intro,λy hy=>absurd rfl hy⟩
def Fg {prog:Program}{w:World}{env:Env}{e:Expr}{f:Str}{pos:Pos}{s:Shared}{Q:Value->Shared->Prop}(hb:attributeBase e f env (eval e env)=eval e env)(h:wpAny (model prog w) A (eval e env) (λo s₁=>wpAny (model prog w) A (getAttr o f true) Q E s₁) E s):wpAny (model prog w) A (eval (.Attribute e f pos) env) Q E s:=
 Attribute_any_ h (by rw[arm_eval_Attribute,hb])
end
def uA (K:PySem.W.Frag)(ta:TE)(f:Str):TE:=λσ H Q=>ta σ H λx H1=>∃a C dx fs v,x=.ref a/\H1 a=some (.ins C dx fs)/\Cls K C/\NoAttr K C f/\fs.lookup f=some v/\Q v H1
def uU (K:PySem.W.Frag)(ta tv:TE)(f:Str):TS:=λD σ H=>tv σ H λy H1=>ta σ H1 λx H2=>∃a C dx fs,x=.ref a/\H2 a=some (.ins C dx fs)/\Cls K C/\NoAttr K C f/\fs.length<1000 /\
 D.nx σ (upd H2 a (.ins C dx (Ya f y fs)))
def lg (X:Cx)(op:Operator)(rd:V->V->Hp->VK->Prop):Prop:=
 ∀(pins:List (Addr×Obj)) (s:Shared) (σ:St) (H:Hp) (x y:V) (u v:Value) (Q:VK),Inv X pins σ H s->RelV x u->RelV y v->rd x y H Q->wpAny (model X.prog X.w) X.A (inplaceOp op u v) (EP X pins σ Q) X.xe s
def zS (K:PySem.W.Frag)(ta tv:TE)(rd:V->V->Hp->VK->Prop)(f:Str):TS:=λD σ H=>ta σ H λx H1=>∃a C dx fs v,x=.ref a/\H1 a=some (.ins C dx fs)/\Cls K C/\NoAttr K C f/\fs.lookup f=some v /\
 tv σ H1 λy H2=>rd v y H2 λz H3=>∃VC fs',H3 a=some (.ins C VC fs')/\fs'.length<1000/\D.nx σ (upd H3 a (.ins C VC (Ya f z fs')))
section
variable {X:Cx}{o e value:Expr}{f:Str}{pos pos' WB:Pos}{ta tv:TE}
def V6 (he:PE X e ta)(hb:attributeBase e f X.env (eval e X.env)=eval e X.env):PE X (.Attribute e f pos) (uA X.K ta f):=by
 intro pins s σ H Q I h
 refine Fg hb (Yf (he pins s σ H _ I h) λu s1 ⟨x,H1,I1,rx,a,C,dx,fs,v,ex,ea,c,n,l,q⟩=>?_)
 subst ex
 obtain rfl:u=Value.ref a:=rx
 exact Rc I1 ea c n l λu' s2 I2 ru=>⟨v,H1,I2,ru,q⟩
def L4 (ha:PE X o ta)(hv:PE X value tv)(hs:swapsWith value (some (.Attribute o f pos')) pos.line X.env=pure false):PS X (.Assign [.Attribute o f pos'] value pos) (uU X.K ta tv f):=by
 intro pins s σ H D I h
 refine IB (Yf (hv pins s σ H _ I h) λu s1 ⟨y,H1,I1,ry,q⟩=>Yf (ha pins s1 σ H1 _ I1 q) λov s2 ⟨x,H2,I2,rx,a,C,dx,fs,ex,ea,c,n,l,q2⟩=>?_) hs
 subst ex
 obtain rfl:ov=Value.ref a:=rx
 exact Rf I2 ea c n l ry λs3 I3=>⟨σ,_,I3,q2⟩
def Iz {op:Operator}{rd:V->V->Hp->VK->Prop}(ha:PE X o ta)(hv:PE X value tv)(qL:lg X op rd):PS X (.AugAssign (.Attribute o f WB) op value pos) (zS X.K ta tv rd f):=by
 intro pins s σ H D I h
 refine wpAny_AugAssign_AttributeAny (Yf (ha pins s σ H _ I h) λov s1 ⟨x,H1,I1,rx,a,C,dx,fs,v,ex,ea,c,n,l,q⟩=>?_)
 subst ex
 obtain rfl:ov=Value.ref a:=rx
 refine Rc I1 ea c n l λu s2 I2 ru=>Yf (hv pins s2 σ H1 _ I2 q) λw3 s3 ⟨y,H2,I3,ry,q3⟩=>Yf (qL pins s3 σ H2 v y u w3 _ I3 ru ry q3) λw4 s4 ⟨z,H3,I4,rz,VC,fs',TK,l',q4⟩=>?_
 exact Rf I4 TK c n l' rz λs5 I5=>⟨σ,_,I5,q4⟩
def uT:V->V->Hp->VK->Prop:=λx y H Q=>∃i j,x=.int i/\y=.int j/\Q (.int (i+j)) H
def xG:lg X .Add uT:=by
 rintro pins s σ H x y u v Q I rx ry ⟨i,j,rfl,rfl,q⟩
 obtain⟨t,rfl⟩:=(show ∃t,u=Value.int i t from rx)
 obtain⟨t',rfl⟩:=(show ∃t',v=Value.int j t' from ry)
 exact PyProof.Rows.iadd_int ⟨.int (i+j),H,I.tok _,⟨_,rfl⟩,q⟩
end
structure Room (k:Nat) (A:Around):Prop where
 hd:A.handled=none
 dp:A.depth+3*k+5<recursionLimit
 un:A.units+16*k+200<cLine
def Room.mono {j k:Nat}{A:Around}(r:Room k A)(h:j<=k):Room j A:=⟨r.hd,by have:=r.dp;omega,by have:=r.un;omega⟩
def Room.m {j k:Nat}{A:Around}(r:Room k A)(h:j<=k:=by decide):Room j A:=r.mono h
theorem Room.deeper {k:Nat}{A:Around}(r:Room (k+1) A)(env:Env):Room k (A.deeper env):=
 ⟨r.hd,by have:=r.dp;show A.depth+1+3*k+5<_;omega,by have:=r.un;show A.units+3+16*k+200<_;omega⟩
def Dd {A:Around}{C:Addr}{us:List Value}{kw:List (Str×Value)}:(A.under (.builtin "type.__call__" ⟨.ref C::us,kw⟩)).depth=A.depth+1:=by
 first|rfl|simp[Around.under,Code.weight,Code.isCreation,Code.isGuard,Code.isCaller,Code.frames,Code.isFrame,guardIds]
def De {A:Around}{C:Addr}{us:List Value}{kw:List (Str×Value)}:(A.under (.builtin "type.__call__" ⟨.ref C::us,kw⟩)).units=A.units+1:=by
 first|rfl|simp[Around.under,Code.cUnits,Code.frames,Code.isFrame]
def Room.make {k:Nat}{A:Around}(r:Room (k+1) A)(C:Addr)(us:List Value)(kw:List (Str×Value)):Room k (A.under (.builtin "type.__call__" ⟨.ref C::us,kw⟩)):=
 ⟨r.hd,by have:=r.dp;rw[Dd];omega,by have:=r.un;rw[De];omega⟩
theorem Room.depth {k:Nat}{A:Around}(r:Room k A):A.depth<recursionLimit:=by have:=r.dp;omega
theorem Room.units {k:Nat}{A:Around}(r:Room k A):A.units+64<cLine:=by have:=r.un;omega
def ik:TA:=λ_ H Q=>Q [] H
def Fh (ta:TE)(tr:TA):TA:=λσ H Q=>ta σ H λx H1=>tr σ H1 λxs H2=>Q (x::xs) H2
section
variable {X:Cx}{e:Expr}{es:List Expr}{te:TE}{t:TA}{pos:Pos}
def Xs:PA X [] ik:=λ_ _ _ _ H Q I h=>HZ ⟨[],H,I,.nil,h⟩
def Qj (ha:PE X e te)(hr:PA X es t)(hs:starEach (e::es) X.env=(false,eval e X.env)::starEach es X.env:=by rfl):PA X (e::es) (Fh te t):=by
 intro pos pins s σ H Q I h
 rw[hs]
 show wpAny _ _ (spliced ((false,eval e X.env)::backTo pos (starEach es X.env))) _ _ s
 refine EZ (Yf (ha pins s σ H _ I h) λu s1 ⟨x,H1,I1,r1,q1⟩=>?_)
 exact Yf (hr pos pins s1 σ H1 _ I1 q1) λus s2 ⟨xs,H2,I2,r2,q2⟩=>⟨x::xs,H2,I2,.cons r1 r2,q2⟩
def uS (t:TA):TE:=λσ H Q=>t σ H λxs H1=>xs.length<=sizeLine/\∀p,H1 p=none->Q (.ref p) (upd H1 p (.tup xs))
def uR (t:TA):TE:=λσ H Q=>t σ H λxs H1=>xs.length<=sizeLine/\∀p,H1 p=none->Q (.ref p) (upd H1 p (.lst xs))
def L5 {x1}(h:PA X es t):PE X (.Tuple es x1 pos) (uS t):=by
 intro pins s σ H Q I hq
 refine wpAny_Tuple_spliced (Yf (h pos pins s σ H _ I hq) λus s1 ⟨xs,H1,I1,r,z,q⟩=>⟨by rw[<-r.length];exact z,?_⟩)
 have hf:H1 s1.heap.objs.size=none:=I1.hok.fresh (AO _)
 refine⟨.ref s1.heap.objs.size,upd H1 s1.heap.objs.size (.tup xs),I1.laid (t':=s1.toks) (λb u e=>AB _ e) (AO _) ?_,rfl,q _ hf⟩
 exact⟨z,us,r,⟨_,AH _ rfl,rfl,_,rfl⟩⟩
def Df (h:PA X es t):PE X (.List es pos) (uR t):=by
 intro pins s σ H Q I hq
 refine wpAny_List_spliced (Yf (h pos pins s σ H _ I hq) λus s1 ⟨xs,H1,I1,r,z,q⟩=>⟨by rw[<-r.length];exact z,?_⟩)
 have hf:H1 s1.heap.objs.size=none:=I1.hok.fresh (AO _)
 refine⟨.ref s1.heap.objs.size,upd H1 s1.heap.objs.size (.lst xs),I1.laid (t':=s1.toks) (λb u e=>AB _ e) (AO _) ?_,rfl,q _ hf⟩
 exact⟨z,us,0,r,AH _ rfl⟩
end
abbrev Sp:=List V->Hp->VK->XK->Prop
abbrev VL:=List Env->Hp->Shared->XK->Value->Shared->Prop
structure Env0 (P:Program) (w:World) (K:PySem.W.Frag) (mg:Str->Option Value) (base:Heap) (A:Around) (outer:List Env) (s:Shared) (H:Hp):Prop where
 frames:A.frames=some outer
 mod:Mod K mg base
 bs:∀b o,base.get? b=some o->s.heap.get? b=some o/\H b=none
 bsz:base.objs.size<=s.heap.objs.size
 funs:s.heap.FunFrames base outer
 frf:∀b∈Tn outer,H b=none
 hok:HOk P w H s.heap
 bare:AllBare s.gens
def CE (outer:List Env)(P:Program)(w:World)(H:Hp)(s:Shared)(Q:VK)(u:Value)(s':Shared):Prop:=
 ∃v H',s'.os=s.os/\AllBare s'.gens/\Un (Tn outer) [] H H' s.heap s'.heap/\HOk P w H' s'.heap/\RelV v u/\Q v H'
def CR (CX:VL)(outer:List Env)(P:Program)(w:World)(H:Hp)(s:Shared)(Q:VK)(E:XK)(r:Result)(s':Shared):Prop:=
 match r with
 |.ok (.ret u)=>CE outer P w H s Q u s'
 |.ok _=>False
 |.error e=>CX outer H s E e s'
structure MC (P:Program) (w:World) (K:PySem.W.Frag) (mg:Str->Option Value) (base:Heap) (CX:VL) (k:Nat) (f:Addr) (fd:FuncData) (ps:List Str) (sp:Sp):Prop where
 len:∀vs H Q E,sp vs H Q E->vs.length=ps.length
 run:∀(A:Around) (outer:List Env) (s:Shared) (H:Hp) (args:Args) (us:List Value) (vs:List V) (Q:VK) (E:XK),Room k A->Env0 P w K mg base A outer s H->BindsTo s fd args (ps.zip us)->Vals vs us->sp vs H Q E ->
  codeAny (model P w) A (.call (.ref f) args) (CR CX outer P w H s Q E) s
def Env0.make {P:Program}{w:World}{K:PySem.W.Frag}{mg:Str->Option Value}{base:Heap}{A:Around}{outer:List Env}{s:Shared}{H:Hp}(e:Env0 P w K mg base A outer s H)(C:Addr)(us:List Value)(kw:List (Str×Value)):
  Env0 P w K mg base (A.under (.builtin "type.__call__" ⟨.ref C::us,kw⟩)) outer s H:=⟨by first|exact e.frames|(simpa[Around.under,Code.envs,Code.isFrame,pushEnvs] using e.frames),e.mod,e.bs,e.bsz,e.funs,e.frf,e.hok,e.bare⟩
section
variable {X:Cx}{pins:List (Addr×Obj)}{σ:St}{H:Hp}{s s':Shared}
def Inv.env0 (I:Inv X pins σ H s):Env0 X.prog X.w X.K X.mg X.base X.A X.stack s H:=
 ⟨I.ok.frames,I.ok.mod,I.bs,AV I.ok.bsz I.sz,I.stack,I.stkFree,I.hok,I.bare⟩
def Inv.after {Q:VK}{u:Value}(I:Inv X pins σ H s)(h:CE X.stack X.prog X.w H s Q u s'):EP X pins σ Q u s':=by
 obtain⟨v,H',os,bare,un,hok,r,q⟩:=h
 obtain⟨hh,g,d,t,o8⟩:=s'
 obtain rfl:o8=s.os:=os
 exact⟨v,H',I.call (h':=hh) (g':=g) (d':=d) (t':=t) (ch:=[]) un hok bare (λb z=>absurd z (by simp)),r,q⟩
end
def md (sp:Sp)(dvs:List V)(E:XK)(t:TA):TE:=λσ H Q=>t σ H λvs H1=>sp (vs++dvs) H1 Q E
def jL (C:Addr)(m:Str)(sp:Sp)(dvs:List V)(E:XK)(ta:TE)(t:TA):TE:=λσ H Q=>ta σ H λx H1=>∃a dx fs,x=.ref a/\H1 a=some (.ins C dx fs)/\fs.lookup m=none /\
 t σ H1 λvs H2=>sp (x::(vs++dvs)) H2 Q E
def ma (C:Addr)(sp:Sp)(dvs:List V)(E:XK)(t:TA):TE:=λσ H Q=>t σ H λvs H1=>∀x dx,H1 x=none->H1 dx=none->dx≠x ->
 sp (.ref x::(vs++dvs)) (upd (upd H1 dx (.own x)) x (.ins C dx [])) (λv H2=>v=.non/\Q (.ref x) H2) E
def Binds (K:PySem.W.Frag)(fd:FuncData)(ps:List Str)(ds:List Value):Prop:=
 ∀(s:Shared) (us:List Value),K.In s.heap->(us++ds).length=ps.length->BindsTo s fd ⟨us,[]⟩ (ps.zip (us++ds))
def Binds.all {K:PySem.W.Frag}{fd:FuncData}{ps:List Str}(h:∀us:List Value,us.length=ps.length->bindArgs fd ⟨us,[]⟩=pure (ps.zip us)):Binds K fd ps []:=λs us _ hl=>by
 rw[BJ] at hl ⊢
 exact .of_eq (h us hl)
def U9 (CX:VL)(X:Cx)(E:XK):Prop:=∀(pins:List (Addr×Obj)) (σ:St) (H:Hp) (s:Shared) (e:Value) (s':Shared),Inv X pins σ H s->CX X.stack H s E e s'->X.xe e s'
section
variable {X:Cx}{CX:VL}{k:Nat}{f C:Addr}{fd:FuncData}{ps:List Str}{sp:Sp}{dvs:List V}{ds:List Value}{E:XK}{x m:Str}{p pos apos:Pos}{e o:Expr}{es:List Expr}{ta:TE}{t:TA}
def Dg {pins:List (Addr×Obj)}{σ:St}{H:Hp}{s:Shared}{Q:VK}{us:List Value}{vs:List V}(F:MC X.prog X.w X.K X.mg X.base CX k f fd ps sp)(hr:Room k X.A)(hb:Binds X.K fd ps ds)(hd:Vals dvs ds)(hx:U9 CX X E)(I:Inv X pins σ H s)(r:Vals vs us)(h:sp (vs++dvs) H Q E):wpAny (model X.prog X.w) X.A (call (.ref f) us) (EP X pins σ Q) X.xe s:=by
 have r2:Vals (vs++dvs) (us++ds):=r.append hd
 have hl:(us++ds).length=ps.length:=by rw[<-r2.length];exact F.len _ _ _ _ h
 refine GN (FC (F.run X.A X.stack s H ⟨us,[]⟩ (us++ds) (vs++dvs) Q E hr I.env0 (hb s us I.kIn hl) r2 h) λr s' hq=>?_)
 cases r with
 |error e=>exact hx pins σ H s e s' I hq
 |ok fl=>
  cases fl with
  |ret u=>exact I.after hq
  |next=>exact False.elim hq
  |brk=>exact False.elim hq
  |cont=>exact False.elim hq
def Ve (F:MC X.prog X.w X.K X.mg X.base CX k f fd ps sp)(hr:Room k X.A)(hg:Gl X x)(hm:X.mg x=some (.ref f))(hk:PySem.W.keepIn X.K (.ref f)=true)(hb:Binds X.K fd ps ds)(hd:Vals dvs ds)(hx:U9 CX X E)(ha:PA X (e::es) t) (NT:(x==("__debug__":Str))=false:=by decide) (he:starEach (e::es) X.env=(false,eval e X.env)::starEach es X.env:=by rfl) (MT:(backTo pos (starEach es X.env)).any (·.1)=false:=by rfl):
  PE X (.Call (.Name x p) (e::es) [] pos) (md sp dvs E t):=by
 intro pins s σ H Q I h
 refine DZ (Ur I hg hm ?_ NT)
 refine EO (h₀:=X.base) I.ok.mod.kin hk (Yf (ha pos pins s σ H _ I h) λus s1 ⟨vs,H1,I1,r,q⟩=>⟨I1.kIn,?_⟩) he MT
 exact Dg F hr hb hd hx I1 r q
def L6 {pl:Sem Bool}(he:PE X o ta)(c:Cls X.K C)(hm:NI X.K C m f)(F:MC X.prog X.w X.K X.mg X.base CX k f fd ps sp)(hr:Room k X.A)(hb:Binds X.K fd ps ds)(hd:Vals dvs ds)(hx:U9 CX X E)(ha:PA X (e::es) t)(RA:starEach (e::es) X.env=(false,eval e X.env)::starEach es X.env:=by rfl)(MT:(backTo pos (starEach es X.env)).any (·.1)=false:=by rfl)(ht:eval (.Call (.Attribute o m apos) (e::es) [] pos) X.env=(do
   let ov <-eval o X.env
   standAt apos.atName
   let (f,first) <-holding [ov] (getMethod ov m pl)
   callWith pos f first (backTo pos (starEach (e::es) X.env)) (backToKw pos (keywordEach [] X.env))):=by rfl):
  PE X (.Call (.Attribute o m apos) (e::es) [] pos) (jL C m sp dvs E ta t):=by
 intro pins s σ H Q I h
 refine JG (pl:=pl) (Yf (he pins s σ H _ I h) λu s1 ⟨x,H1,I1,rx,a,dx,fs,ex,ea,l,q⟩=>?_) ht
 subst ex
 obtain rfl:u=Value.ref a:=rx
 refine Re I1 ea c hm l ?_
 refine EO (first:=[.ref a]) (h₀:=X.base) I.ok.mod.kin hm.kp (Yf (ha pos pins s1 σ H1 _ I1 q) λus s2 ⟨vs,H2,I2,r,q2⟩=>⟨I2.kIn,?_⟩) RA MT
 exact Dg (us:=.ref a::us) (vs:=.ref a::vs) F hr hb hd hx I2 (.cons rfl r) q2
def B3 {pl:Sem Bool}(he:PE X o ta)(c:Cls X.K C)(hm:NI X.K C m f)(F:MC X.prog X.w X.K X.mg X.base CX k f fd ps sp)(hr:Room k X.A)(hb:Binds X.K fd ps ds)(hd:Vals dvs ds)(hx:U9 CX X E)(ht:eval (.Call (.Attribute o m apos) [] [] pos) X.env=(do
   let ov <-eval o X.env
   standAt apos.atName
   let (f,first) <-holding [ov] (getMethod ov m pl)
   callWith pos f first (backTo pos (starEach [] X.env)) (backToKw pos (keywordEach [] X.env))):=by rfl):
  PE X (.Call (.Attribute o m apos) [] [] pos) (jL C m sp dvs E ta ik):=by
 intro pins s σ H Q I h
 refine JG (pl:=pl) (Yf (he pins s σ H _ I h) λu s1 ⟨x,H1,I1,rx,a,dx,fs,ex,ea,l,q⟩=>?_) ht
 subst ex
 obtain rfl:u=Value.ref a:=rx
 refine Re I1 ea c hm l ?_
 exact PySem.W.callWith_K0 (first:=[.ref a]) I1.kIn hm.kp (Dg (us:=[.ref a]) (vs:=[.ref a]) F hr hb hd hx I1 (.cons rfl .nil) q)
structure Mk (K:PySem.W.Frag) (C f:Addr):Prop where
 makes:PySem.W.makesIn K C=true
 init:PySem.W.findIn K (.ref C) "__init__"=some (some (.ref f))
 fn:PySem.W.isFn K (.ref f)=true
 kp:PySem.W.keepIn K (.ref C)=true
def Za5 {pins:List (Addr×Obj)}{σ:St}{H:Hp}{s:Shared}{Q:VK}{us:List Value}{vs:List V}(M:Mk X.K C f)(F:MC X.prog X.w X.K X.mg X.base CX k f fd ps sp)(hr:Room (k+1) X.A)(hb:Binds X.K fd ps ds)(hd:Vals dvs ds)(hx:U9 CX X E)(I:Inv X pins σ H s)(r:Vals vs us)(h:∀x dx,H x=none->H dx=none->dx≠x->sp (.ref x::(vs++dvs)) (upd (upd H dx (.own x)) x (.ins C dx [])) (λv H2=>v=.non/\Q (.ref x) H2) E):
  wpAny (model X.prog X.w) X.A (call (.ref C) us) (EP X pins σ Q) X.xe s:=by
 have hq:=h (s.heap.objs.size+1) s.heap.objs.size (I.hok.fresh (DR _)) (I.hok.fresh (AO _)) (AI (EC _))
 have I2:=Inv.made (C:=C) I
 have r2:Vals (V.ref (s.heap.objs.size+1)::(vs++dvs)) (Value.ref (s.heap.objs.size+1)::(us++ds)):=.cons rfl (r.append hd)
 have hl:(Value.ref (s.heap.objs.size+1)::us++ds).length=ps.length:=by
  have e:=r2.length
  rw[F.len _ _ _ _ hq] at e
  exact e.symm
 refine GN (Za2 (f:=f) I.kIn M.makes M.init (CO.mp M.fn) (FC (F.run _ X.stack _ _ ⟨Value.ref (s.heap.objs.size+1)::us,[]⟩ (Value.ref (s.heap.objs.size+1)::(us++ds)) _ _ E (hr.make C us [])
  (I2.env0.make C us []) (hb _ (Value.ref (s.heap.objs.size+1)::us) I2.kIn hl) r2 hq) λr s' SB=>?_))
 cases r with
 |error e=>exact hx pins σ _ _ e s' I2 SB
 |ok fl=>
  cases fl with
  |ret u=>
   obtain⟨v,H',I3,rv,ev,q3⟩:=I2.after SB
   subst ev
   exact⟨rv,⟨V.ref (s.heap.objs.size+1),H',I3,rfl,q3⟩⟩
  |next=>exact False.elim SB
  |brk=>exact False.elim SB
  |cont=>exact False.elim SB
def L7 (M:Mk X.K C f)(F:MC X.prog X.w X.K X.mg X.base CX k f fd ps sp)(hr:Room (k+1) X.A)(hg:Gl X x)(hm:X.mg x=some (.ref C))(hb:Binds X.K fd ps ds)(hd:Vals dvs ds)(hx:U9 CX X E)(ha:PA X (e::es) t) (NT:(x==("__debug__":Str))=false:=by decide) (he:starEach (e::es) X.env=(false,eval e X.env)::starEach es X.env:=by rfl) (MT:(backTo pos (starEach es X.env)).any (·.1)=false:=by rfl):
  PE X (.Call (.Name x p) (e::es) [] pos) (ma C sp dvs E t):=by
 intro pins s σ H Q I h
 refine DZ (Ur I hg hm ?_ NT)
 refine EO (h₀:=X.base) I.ok.mod.kin M.kp (Yf (ha pos pins s σ H _ I h) λus s1 ⟨vs,H1,I1,r,q⟩=>⟨I1.kIn,?_⟩) he MT
 exact Za5 M F hr hb hd hx I1 r q
end
structure MA (N P:List Str) (sc:Scope):Prop where
 kind:sc.kind=.function
 co:sc.isCoroutine=false
 gen:sc.isGenerator=false
 nd:N.Nodup
 pre:N.take P.length=P
 par:∀x∈P,sc.names.lookup x=some .local\/sc.names.lookup x=some .cell
 nofree:∀y∈sc.names,y.2≠.free
theorem Tr {kindOf:Str->Option NameKind}{x:Str}:∀{binds:List (Str×Value)}{m:Str->Option Value},(∀v,(x,v) ∉ binds)->bindL kindOf binds m x=m x
 |[],_,_=>rfl
 |(n,v)::r,m,h=>by
  unfold bindL
  rw[Tr λw hw=>h w (AQ _ hw)]
  split
  .have:x≠n:=by rintro rfl;exact h v AX
   simp[this]
  .rfl
theorem Ts {kindOf:Str->Option NameKind}{x:Str}:∀{binds:List (Str×Value)}{m:Str->Option Value},(∀v,(x,v) ∉ binds)->bindC kindOf binds m x=m x
 |[],_,_=>rfl
 |(n,v)::r,m,h=>by
  unfold bindC
  rw[Ts λw hw=>h w (AQ _ hw)]
  split
  .rfl
  .have:x≠n:=by rintro rfl;exact h v AX
   simp[this]
theorem Tt {kindOf:Str->Option NameKind}{x:Str}{v:Value}:∀{P:List Str}{vs:List Value}{i:Nat}{m:Str->Option Value},P.Nodup->P[i]?=some x->vs[i]?=some v->kindOf x=some .local ->
  bindL kindOf (P.zip vs) m x=some v
 |[],_,_,_,_,h,_,_=>by simp at h
 |_::_,[],_,_,_,_,h,_=>by simp at h
 |p::P,w::vs,0,m,nd,h1,h2,hk=>by
  simp at h1 h2;subst h1;subst h2
  show bindL kindOf ((p,w)::P.zip vs) m p=_
  unfold bindL
  rw[Tr λv hv=>(FE.mp nd).1 (HR hv).1,AC hk]
  simp
 |p::P,w::vs,i+1,m,nd,h1,h2,hk=>by
  show bindL kindOf ((p,w)::P.zip vs) m x=_
  unfold bindL
  exact Tt (i:=i) (FE.mp nd).2 (by simpa using h1) (by simpa using h2) hk
theorem Tu {kindOf:Str->Option NameKind}{x:Str}{v:Value}:∀{P:List Str}{vs:List Value}{i:Nat}{m:Str->Option Value},P.Nodup->P[i]?=some x->vs[i]?=some v->kindOf x≠some .local ->
  bindC kindOf (P.zip vs) m x=some v
 |[],_,_,_,_,h,_,_=>by simp at h
 |_::_,[],_,_,_,_,h,_=>by simp at h
 |p::P,w::vs,0,m,nd,h1,h2,hk=>by
  simp at h1 h2;subst h1;subst h2
  show bindC kindOf ((p,w)::P.zip vs) m p=_
  unfold bindC
  rw[Ts λv hv=>(FE.mp nd).1 (HR hv).1,AD hk]
  simp
 |p::P,w::vs,i+1,m,nd,h1,h2,hk=>by
  show bindC kindOf ((p,w)::P.zip vs) m x=_
  unfold bindC
  exact Tu (i:=i) (FE.mp nd).2 (by simpa using h1) (by simpa using h2) hk
def Y6 (N:List Str)(vs:List V):St:=vs.map some++List.replicate (N.length-vs.length) none
def Jl (CX:VL)(P:Program)(w:World)(K:PySem.W.Frag)(mg:Str->Option Value)(base:Heap)(N:List Str)(qual:Str)(scope:Scope)(f:Addr)(cd:Value)(A:Around)(outer:List Env)(s:Shared)(H:Hp)(E:XK):Cx where
 prog:=P
 w:=w
 K:=K
 mg:=mg
 base:=base
 A:=A.deeper (envOfC qual scope s.heap.objs.size f cd)
 N:=N
 s₀:=s
 H₀:=H
 env:=envOfC qual scope s.heap.objs.size f cd
 outer:=outer
 stack:=envOfC qual scope s.heap.objs.size f cd::outer
 ex:=[]
 calm:=true
 fn:=λ_=>true
 pn:=[]
 xe:=λe s'=>wpAny (model P w) (A.deeper (envOfC qual scope s.heap.objs.size f cd)) (leaving (envOfC qual scope s.heap.objs.size f cd) e) (λ_ fM=>CX outer H s E e fM) (λe' fM=>CX outer H s E e' fM) s'
def Jm {sc:Scope}{n:Nat}{x:Str}(h:sc.names.lookup x=some .cell):∃c,(cellsFrom n sc.names []).lookup x=some c:=by
 have q:=IW sc.names n [] (.inl h)
 exact FO.mp q
def Oa {CX:VL}{P:Program}{w:World}{K:PySem.W.Frag}{mg:Str->Option Value}{base:Heap}{N ps:List Str}{qual:Str}{scope:Scope}{f:Addr}{cd:Value}{A:Around}{outer:List Env}{s s1:Shared}{H:Hp}{E:XK}{us:List Value}{vs:List V}(S:MA N ps scope)(hd:A.handled=none)(e0:Env0 P w K mg base A outer s H)(hl:vs.length=ps.length)(r:Vals vs us)(x:InCallC s s.heap.objs.size (bindL (envOfC qual scope s.heap.objs.size f cd).kindOf (ps.zip us) λ_=>none) (cellsFrom (s.heap.objs.size+1) scope.names []) (bindC (envOfC qual scope s.heap.objs.size f cd).kindOf (ps.zip us) λ_=>none) s1):
  Inv (Jl CX P w K mg base N qual scope f cd A outer s H E) [] (Y6 N vs) H s1:=by
 have MT:ps.length<=N.length:=by have:=congrArg List.length S.pre;rw[FX] at this;omega
 obtain⟨h1,tk,rfl,hk⟩:=x.done
 have noA:∀b:Addr,b ∉ (Jl CX P w K mg base N qual scope f cd A outer s H E).ex:=λb z=>absurd (show b∈([]:List Addr) from z) (by simp)
 refine⟨⟨e0.mod,S.kind,rfl,rfl,AO _,λy z c h1 h2=>?_,λy hy=>?_,λy c _ h=>?_,λ_=>hd,Around.frames_deeper e0.frames,.inr ⟨rfl,rfl⟩,λb z=>absurd z (noA b),e0.bs,e0.bsz,λb _ _=>noA b,λb z=>absurd z (noA b),e0.funs,e0.frf⟩,
  rfl,e0.bare,Un.kept hk,⟨_,x.toInCall.ns,λi y v h1 h2 h3=>?_⟩,λy c h=>⟨_,x.cell y c h⟩,e0.hok.fresh (AO _),λy c h=>?_,λp hp=>absurd (show p∈([]:List (Addr×Obj)) from hp) (by simp),e0.hok.kept hk,?_⟩
 .exact name_of_addr x.apart (DP h1) (DP h2)
 .have hy:scope.names.lookup y=some .cell\/scope.names.lookup y=some .free:=hy
  rcases hy with hy|hy
  .exact Jm hy
  .exact absurd rfl (S.nofree _ (DP hy))
 .exact IZ (x.above y c (DP h))
 .have hi:i<vs.length:=by
   unfold Y6 at h2
   by_cases hi:i<vs.length
   .exact hi
   .rw[BZ (by simpa using hi)] at h2
    rw[CN] at h2
    split at h2<;>cases h2
  have ha:vs[i]?=some v:=by
   unfold Y6 at h2
   rw[BN (by simpa using hi),BP] at h2
   cases e:vs[i]? with
   |none=>rw[e] at h2;cases h2
   |some a=>rw[e] at h2;cases h2;rfl
  obtain⟨u,hu,rv⟩:=r.get ha
  have hp:ps[i]?=some y:=by
   rw[<-S.pre,List.getElem?_take_of_lt (by omega)];exact h1
  have jo:ps.Nodup:=by rw[<-S.pre];exact S.nd.sublist (List.take_sublist _ _)
  refine⟨u,rv,?_⟩
  rcases S.par y (List.mem_of_getElem? hp) with k|k
  .exact .inl ⟨k,Tt jo hp hu k⟩
  .obtain⟨c,e⟩:=Jm (n:=s.heap.objs.size+1) k
   refine .inr ⟨.inl k,c,e,?_⟩
   have q:=x.cell y c e
   rw[Tu jo hp hu (by show scope.names.lookup y≠_;rw[k];decide)] at q
   exact q
 .exact e0.hok.fresh (IZ (x.above y c (DP h)))
 .unfold Y6
  show _=N.length
  rw[BE,BM,DE]
  omega
def mZ {CX:VL}{P:Program}{w:World}{K:PySem.W.Frag}{mg:Str->Option Value}{base:Heap}{k:Nat}{f:Addr}{name qual:Str}{params:Arguments}{body:List Stmt}{scope:Scope}{dV kV doc pm ME ct oc:Value}{an od:Option Addr}{WD:Array (Option Value)}{N ps:List Str}{sp:Sp}(lk:K.lookup f=some ⟨oc,od,.func (PySem.W.fnOf name qual params body scope dV kV doc pm an ME ct),WD⟩)(MV:PySem.W.codeIn K ME qual=true)(S:MA N ps scope)(len:∀vs H Q E,sp vs H Q E->vs.length=ps.length)(ND:∀(A:Around) (outer:List Env) (s:Shared) (H:Hp) (vs:List V) (Q:VK) (E:XK),Room k (A.deeper (envOfC qual scope s.heap.objs.size f ME))->sp vs H Q E ->
   ∃t,PSs (Jl CX P w K mg base N qual scope f ME A outer s H E) body t/\t {nx:=λ_ H'=>Q .non H',rt:=Q} (Y6 N vs) H):
  MC P w K mg base CX (k+1) f (PySem.W.fnOf name qual params body scope dV kV doc pm an ME ct) ps sp:=by
 refine⟨len,λA outer s H args us vs Q E hr e0 hb r hsp=>?_⟩
 have hl:=len _ _ _ _ hsp
 have KX:K.In s.heap:=e0.mod.kin.keeps λb o e=>(e0.bs b o e).1
 have lim:s.heap.NoLimit:=e0.mod.nolimit.keeps λb o e=>(e0.bs b o e).1
 have OQ:∀y∈ps.zip us,scope.names.lookup y.1=some .local\/(scope.names.lookup y.1=some .cell/\((cellsFrom (s.heap.objs.size+1) scope.names []).lookup y.1).isSome=true):=fun⟨n,v⟩ hy=>by
  rcases S.par n (HR hy).1 with q|q
  .exact .inl q
  .exact .inr ⟨q,IW _ _ _ (.inl q)⟩
 refine codeAny_call_function hr.depth (KX _ _ lk) rfl S.co S.gen rfl (PySem.W.codeRec_of KX MV) (hb _ _ _ _ ?_)
 refine wpAny_newFunctionEnv_cells S.kind OQ λenv he s1 x=>?_
 subst he
 refine⟨lim.keeps x.toInCall.keep,codeAny_func ?_⟩
 obtain⟨t,ht,hq⟩:=ND A outer s H vs Q E (hr.deeper _) hsp
 have I:Inv (Jl CX P w K mg base N qual scope f ME A outer s H E) [] (Y6 N vs) H s1:=Oa S hr.hd e0 hl r x
 refine CB (ht [] s1 (Y6 N vs) H _ I hq) (λfl s' hs=>?_) λe s' hs=>hs
 have fin:∀{σ':St}{H':Hp}{v:V}{u:Value},Inv (Jl CX P w K mg base N qual scope f ME A outer s H E) [] σ' H' s'->RelV v u->Q v H'->CE outer P w H s Q u s':=
  λ{σ' H' v u} J rv q=>⟨v,H',J.os,J.bare,J.base,J.hok,rv,q⟩
 cases fl with
 |ret u=>
  obtain⟨v,σ',H',J,rv,q⟩:=hs
  exact fin J rv q
 |next=>
  obtain⟨σ',H',J,q⟩:=hs
  exact fin (v:=V.non) (u:=Value.none) J rfl q
 |brk=>
  obtain⟨_,_,_,q⟩:=hs
  exact False.elim q
 |cont=>
  obtain⟨_,_,_,q⟩:=hs
  exact False.elim q
section
variable {X:Cx}{x:Str}{p pos:Pos}{e:Expr}{es:List Expr}{t:TA}{id T:String}{r:List V->Hp->VK->Prop}
def lA (r:List V->Hp->VK->Prop)(t:TA):TE:=λσ H Q=>t σ H λvs H1=>r vs H1 Q
def B4 (hc:CallR X (.builtin id) r)(hg:Gl X x)(hm:X.mg x=none)(hv:bootBuiltins x=some (.builtin id))(ha:PA X (e::es) t) (hn:x ≠ "__name__":=by decide) (NT:(x==("__debug__":Str))=false:=by decide)
  (he:starEach (e::es) X.env=(false,eval e X.env)::starEach es X.env:=by rfl) (MT:(backTo pos (starEach es X.env)).any (·.1)=false:=by rfl):PE X (.Call (.Name x p) (e::es) [] pos) (lA r t):=by
 intro pins s σ H Q I h
 refine DZ (Gn I hg hm hv ?_ hn NT)
 exact PyProof.Rows.callWith_builtin1 (Yf (ha pos pins s σ H _ I h) λus s1 ⟨vs,H1,I1,r1,q1⟩=>hc pins s1 σ H1 vs us Q I1 r1 q1) he MT
def Ob (hc:CallR X (.type T) r)(hg:Gl X x)(hm:X.mg x=none)(hv:bootBuiltins x=some (.type T))(ha:PA X (e::es) t) (hn:x ≠ "__name__":=by decide) (NT:(x==("__debug__":Str))=false:=by decide)
  (he:starEach (e::es) X.env=(false,eval e X.env)::starEach es X.env:=by rfl) (MT:(backTo pos (starEach es X.env)).any (·.1)=false:=by rfl):PE X (.Call (.Name x p) (e::es) [] pos) (lA r t):=by
 intro pins s σ H Q I h
 refine DZ (Gn I hg hm hv ?_ hn NT)
 exact DX (Yf (ha pos pins s σ H _ I h) λus s1 ⟨vs,H1,I1,r1,q1⟩=>hc pins s1 σ H1 vs us Q I1 r1 q1) he MT
end
end L2
namespace HT
open PySem PyProof.Rows
section
variable {prog:Program}{w:World}{A:Around}{E:Value->Shared->Prop}{s:Shared}
def cat_tup {t b:Addr}{vs ws:List Value}{Q:Value->Shared->Prop}(ht:IsTup s.heap t vs.toArray)(hb:IsTup s.heap b ws.toArray)(hv:vs≠[])(h1:ws=[]->Q (.ref t) s) (h2:ws≠[]->Q (.ref s.heap.objs.size) {s with heap:=s.heap.push {cls:=.type "tuple", data:=.seq (vs++ws).toArray}})
  (hsz:vs.length+ws.length<=sizeLine):wpAny (model prog w) A (binaryOp .Add (.ref t) (.ref b)) Q E s:=by
 obtain⟨⟨cls,dd,data,sl⟩,ho,hc,n,hd⟩:=id ht
 obtain⟨⟨iG,dP,data2,XJ⟩,ZD,ZO,n2,hd2⟩:=id hb
 simp only at hc hd ZO hd2
 subst hc hd ZO hd2
 have e:vs.toArray++ws.toArray=(vs++ws).toArray:=by simp
 by_cases hw:ws=[]
 .exact KU ⟨_,ho,rfl⟩ ⟨_,ZD,rfl⟩ noFill_tuple_add seq_tuple_add IX IM (IH _ _)
   (tuple_addW1 t b vs.toArray ws.toArray n n2 dd dP sl XJ (by simpa using hv) (by simp[hw])) ⟨ho,ZD,h1 hw⟩
 .refine KU ⟨_,ho,rfl⟩ ⟨_,ZD,rfl⟩ noFill_tuple_add seq_tuple_add IX IM (IH _ _)
   (tuple_addW2 t b vs.toArray ws.toArray n n2 dd dP sl XJ (by simpa using hv) (by simpa using hw) (by rw[AL,AL];exact hsz)) ⟨ho,ZD,?_⟩
  rw[e]
  exact h2 hw
def sIx (n d:Nat):Option Int->Nat
 |none=>d
 |some v=>if v<0 then(v+(n:Int)).toNat else min v.toNat n
def sIx_nat (n d k:Nat):sIx n d (some (k:Int))=min k n:=by
 show(if(k:Int)<0 then((k:Int)+(n:Int)).toNat else min (k:Int).toNat n)=min k n
 rw[AD (by omega),HG]
def xF (n d:Nat)(hd:d<=n)(o:Option Int):sIx n d o<=n:=by
 cases o with
 |none=>exact hd
 |some v=>
  show(if v<0 then(v+(n:Int)).toNat else min v.toNat n)<=n
  by_cases hv:v<0
  .rw[AC hv];omega
  .rw[AD hv];exact Nat.min_le_right _ _
def Fi (v:Int)(n d:Nat):(if v<0 then max (v+(n:Int)) 0 else min v (n:Int))=((sIx n d (some v):Nat):Int):=by
 show(if v<0 then max (v+(n:Int)) 0 else min v (n:Int))=(((if v<0 then(v+(n:Int)).toNat else min v.toNat n):Nat):Int)
 by_cases hv:v<0
 .simp only[AC hv];omega
 .simp only[AD hv];omega
def Dh (lo hi:Option Int)(n:Nat):Builtin.Slice.sliceAdjust lo hi 1 (n:Int)=(((sIx n 0 lo:Nat):Int),((sIx n n hi:Nat):Int)):=by
 have h1:¬((1:Int)<0):=by omega
 unfold Builtin.Slice.sliceAdjust
 simp only[h1,DQ]
 refine Prod.ext ?_ ?_
 .cases lo with
  |none=>rfl
  |some v=>exact Fi v n 0
 .cases hi with
  |none=>rfl
  |some v=>exact Fi v n n
def Di (i j:Nat):Builtin.Slice.slicePlaces (i:Int) (j:Int) 1=j-i:=by
 unfold Builtin.Slice.slicePlaces
 have h1:(1:Int) > 0:=by omega
 simp only[h1,EB,Int.ediv_one]
 split<;>omega
def Rh {v:Value}{o:Option Int}{Q:Option Int->Shared->Prop}(p:IsPart v o)(h:Q o s):wpAny (model prog w) A (Builtin.Slice.slicePartIndex v) Q E s:=by
 cases p with
 |none=>exact slicePart_none h
 |int i t=>exact slicePart_int h
def Gs {sl:Addr}{vl vu:Value}{lo hi:Option Int}{n:Nat}{Q:Int×Int×Nat->Shared->Prop}(hs:s.heap.IsSliceOf sl vl vu .none)(pl:IsPart vl lo)(pu:IsPart vu hi)(h:Q (((sIx n 0 lo:Nat):Int),1,sIx n n hi-sIx n 0 lo) s):wpAny (model prog w) A (Builtin.Slice.sliceApplied (.ref sl) (pure (n:Int))) Q E s:=by
 obtain⟨os,bR,dF,dE⟩:=id hs
 unfold Builtin.Slice.sliceApplied Builtin.Slice.sliceFields
 refine AA (AA (BV bR dE (x:=vl) rfl (AA (BV bR dE (x:=vu) rfl (AA (BV bR dE (x:=.none) rfl (AE ?_)))))))
 refine AA (slicePart_none ?_)
 show wpAny _ _ (if((1:Int)==0)=true then _ else _) _ _ s
 rw[AD (by decide)]
 refine AA (Rh pl (AA (Rh pu (AA (AE ?_)))))
 show wpAny _ _ (match Builtin.Slice.sliceAdjust lo hi 1 (n:Int) with|(lo,hi)=>pure (lo,(1:Int),Builtin.Slice.slicePlaces lo hi 1)) _ _ s
 rw[Dh lo hi n]
 show wpAny _ _ (pure (((sIx n 0 lo:Nat):Int),(1:Int),Builtin.Slice.slicePlaces ((sIx n 0 lo:Nat):Int) ((sIx n n hi:Nat):Int) 1)) _ _ s
 rw[Di]
 exact AE h
def Za6 (xs:Array Value)(i k:Nat):((List.range k).filterMap fun(m:Nat)=>xs[((i:Int)+(m:Int)*1).toNat]?).toArray=((xs.toList.drop i).take k).toArray:=by
 have e:(fun(m:Nat)=>xs[((i:Int)+(m:Int)*1).toNat]?)=λm=>xs[i+m]?:=by
  funext m
  have:((i:Int)+(m:Int)*1).toNat=i+m:=by omega
  rw[this]
 rw[e]
 have:=pick_run xs i k
 rw[List.filterMap_map] at this
 have e2:((λx=>xs[x]?)∘λx=>i+x)=λm=>xs[i+m]?:=rfl
 rw[e2] at this
 rw[this]
def getItem_tuple_cut {t sl:Addr}{items:Array Value}{vl vu:Value}{lo hi:Option Int}{Q:Value->Shared->Prop}(ht:IsTup s.heap t items)(hs:s.heap.IsSliceOf sl vl vu .none)(pl:IsPart vl lo)(pu:IsPart vu hi)(hw:¬(sIx items.size 0 lo=0/\sIx items.size items.size hi=items.size))
  (h:Q (.ref s.heap.objs.size) {s with heap:=s.heap.push {cls:=.type "tuple", data:=.seq ((items.toList.drop (sIx items.size 0 lo)).take (sIx items.size items.size hi-sIx items.size 0 lo)).toArray}})
  (hsz:items.size<=sizeLine):wpAny (model prog w) A (getItem (.ref t) (.ref sl)) Q E s:=by
 have SO:sizeOk (.seq ((items.toList.drop (sIx items.size 0 lo)).take (sIx items.size items.size hi-sIx items.size 0 lo)).toArray):=by
  show((items.toList.drop (sIx items.size 0 lo)).take (sIx items.size items.size hi-sIx items.size 0 lo)).toArray.size<=sizeLine
  rw[AL,FX,HK,EK]
  omega
 have hj:sIx items.size items.size hi<=items.size:=xF _ _ (AO _) hi
 obtain⟨os,bR,dF,dE⟩:=id hs
 have rF:s.TypeIs (.ref sl) "slice":=⟨os,bR,dF⟩
 unfold getItem
 try with_reducible refine BY ?_
 first|refine AA (AE ?_)|skip
 refine AA (wpAny_sequenceKey ht.typeIs (by decide) ?_)
 refine AA (CW (name:=Str.ofString "__getitem__") ht.typeIs EY
  (DI EY ht.typeIs entry_tuple_getitem ?_ (args_tuple_getitem _ _)))
 show wpAny _ _ (Builtin.Tuple.tupleItemsOf (.ref t)>>=_) _ _ s
 refine AA (tupleItemsOf_ ht ?_)
 refine AA (KQ rF ?_)
 rw[AC (by decide)]
 refine AA (Gs hs pl pu ?_)
 have OU:¬((((sIx items.size 0 lo:Nat):Int)==0&&(1:Int)==1&&(sIx items.size items.size hi-sIx items.size 0 lo)==items.size)=true):=by
  intro q
  rw[BC,BC] at q
  have q1:((sIx items.size 0 lo:Nat):Int)=0:=eq_of_beq q.1.1
  have q2:sIx items.size items.size hi-sIx items.size 0 lo=items.size:=eq_of_beq q.2
  exact hw ⟨by omega,by omega⟩
 show wpAny _ _ (if(((sIx items.size 0 lo:Nat):Int)==0&&(1:Int)==1&&(sIx items.size items.size hi-sIx items.size 0 lo)==items.size)=true then _ else _) _ _ s
 rw[AD OU,Za6]
 first
  |exact AA (m:=Builtin.Tuple.tupleExact _) (DC (AE ⟨_,rfl,AE h⟩) SO)
  |exact AA (m:=Builtin.Tuple.tupleExact _) (DC (AA (AE (AE ⟨_,rfl,AE h⟩))) SO)
  |exact AA (AA (m:=Builtin.Tuple.tupleExact _) (DC (AE (AE ⟨_,rfl,AE h⟩)) SO))
  |exact AA (AA (m:=Builtin.Tuple.tupleExact _) (DC (AE ⟨_,rfl,AE h⟩) SO))
end
end HT
namespace L2
open PySem PySem.Spec PyProof.Rows
abbrev TO:=St->Hp->(Option Int->Hp->Prop)->Prop
def PO (X:Cx)(e:Option Expr)(t:TO):Prop:=
 ∀(pins:List (Addr×Obj)) (s:Shared) (σ:St) (H:Hp) (Q:Option Int->Hp->Prop),Inv X pins σ H s->t σ H Q ->
  wpAny (model X.prog X.w) X.A (evalPart e X.env) (λu s'=>∃o H',Inv X pins σ H' s'/\IsPart u o/\Q o H') X.xe s
def zR:TO:=λ_ H Q=>Q none H
def uw (t:TE):TO:=λσ H Q=>t σ H λx H1=>∃i,x=.int i/\Q (some i) H1
def Dj {ns:List Int}:∀{us:List Value},Vals (ns.map V.int) us->IntsAre us ns:=by
 induction ns with
 |nil=>intro us r;rw[FH] at r;cases r;exact .nil
 |cons n ns ih=>
  intro us r
  rw[BA] at r
  cases r with
  |cons r1 r2=>
   obtain⟨t,e⟩:=r1
   subst e
   exact .cons n t (ih r2)
section
variable {X:Cx}{e:Expr}{te:TE}{lo hi:Option Expr}{tl th:TO}{pos p2:Pos}
def zQ:PO X none zR:=by
 intro pins s σ H Q I h
 rw[evalPart_none]
 exact AE ⟨none,H,I,.none,h⟩
def zP (h:PE X e te):PO X (some e) (uw te):=by
 intro pins s σ H Q I hw
 rw[evalPart_some]
 refine Yf (h pins s σ H _ I hw) λu s1 ⟨x,H1,I1,r1,q1⟩=>?_
 obtain⟨i,rfl,q⟩:=q1
 obtain⟨t,rfl⟩:=r1
 exact⟨some i,H1,I1,.int i t,q⟩
def SlR (X:Cx)(r:V->Option Int->Option Int->Hp->VK->Prop):Prop:=
 ∀(pins:List (Addr×Obj)) (s:Shared) (σ:St) (H:Hp) (x:V) (v vl vu:Value) (lo hi:Option Int) (sl:Addr) (Q:VK),Inv X pins σ H s->RelV x v->s.heap.IsSliceOf sl vl vu .none->IsPart vl lo->IsPart vu hi->r x lo hi H Q ->
  ∃T id,typeLookup (.type T) "__getitem__"=pure (some (.builtin id))/\s.TypeIs v T/\wpAny (model X.prog X.w) X.A (getItem v (.ref sl)) (EP X pins σ Q) X.xe s
def SlR.or {r r':V->Option Int->Option Int->Hp->VK->Prop}(h:SlR X r)(h':SlR X r'):SlR X (λx lo hi H Q=>r x lo hi H Q\/r' x lo hi H Q):=by
 intro pins s σ H x v vl vu lo hi sl Q I rx hs pl pu q
 rcases q with q|q
 .exact h pins s σ H x v vl vu lo hi sl Q I rx hs pl pu q
 .exact h' pins s σ H x v vl vu lo hi sl Q I rx hs pl pu q
def sX (r:V->Option Int->Option Int->Hp->VK->Prop)(te:TE)(tl th:TO):TE:=λσ H Q=>te σ H λx H1=>tl σ H1 λl H2=>th σ H2 λu H3=>r x l u H3 Q
def Za7 {r:V->Option Int->Option Int->Hp->VK->Prop}(hr:SlR X r)(he:PE X e te)(hl:PO X lo tl)(hu:PO X hi th):PE X (.Subscript e (.Slice lo hi none p2) pos) (sX r te tl th):=by
 intro pins s σ H Q I h
 refine Subscript_ (Yf (he pins s σ H _ I h) λv s1 ⟨x,H1,I1,r1,q1⟩=>?_)
 refine wpAny_Slice (Yf (hl pins s1 σ H1 _ I1 q1) λvl s2 ⟨l,H2,I2,pl,q2⟩=>Yf (hu pins s2 σ H2 _ I2 q2) λvu s3 ⟨u,H3,I3,pu,q3⟩=>?_)
 rw[evalPart_none]
 refine AE ?_
 have I4:Inv X pins σ H3 {s3 with heap:=s3.heap.push {cls:=.type "slice", data:=.fields #[vl,vu,.none]}}:=I3.kept (t':=s3.toks) λb ob q=>AB _ q
 obtain⟨T,id,hT,ht,hg⟩:=hr pins {s3 with heap:=s3.heap.push {cls:=.type "slice", data:=.fields #[vl,vu,.none]}} σ H3 x v vl vu l u s3.heap.objs.size Q I4 r1 (Heap.IsSliceOf.new ..) pl pu q3
 show wpAny (model X.prog X.w) X.A (subscriptTail e (.Slice lo hi none p2) v (.ref s3.heap.objs.size)) (EP X pins σ Q) X.xe {s3 with heap:=s3.heap.push {cls:=.type "slice", data:=.fields #[vl,vu,.none]}}
 exact tail_any (ops:=[.ref s3.heap.objs.size,v]) ht hT hg (by with_unfolding_all rfl)
def B5 (xs:List V)(lo hi:Option Int):List V:=(xs.drop (HT.sIx xs.length 0 lo)).take (HT.sIx xs.length xs.length hi-HT.sIx xs.length 0 lo)
def N7 (xs:List V)(lo hi:Option Int):(B5 xs lo hi).length<=xs.length:=by
 unfold B5
 rw[FX,HK]
 omega
def uQ (K:PySem.W.Frag):V->Option Int->Option Int->Hp->VK->Prop:=λx lo hi H Q=>∃a xs,x=.ref a/\SqT K H a xs /\
 ¬(HT.sIx xs.length 0 lo=0/\HT.sIx xs.length xs.length hi=xs.length)/\∀p,H p=none->Q (.ref p) (upd H p (.tup (B5 xs lo hi)))
def xE:SlR X (uQ X.K):=by
 intro pins s σ H x v vl vu lo hi sl Q I rx hs pl pu h
 obtain⟨a,xs,rfl,hx,hw,q⟩:=h
 cases rx
 obtain⟨its,r,ht,hz⟩:=I.tuple hx
 have hlen:its.toArray.size=xs.length:=by rw[AL];exact r.length.symm
 refine⟨"tuple", _,EY.lookup,ht.typeIs,?_⟩
 refine HT.getItem_tuple_cut ht hs pl pu (by rw[hlen];exact hw) ?_ (by rw[hlen];exact hz)
 rw[hlen]
 refine⟨.ref s.heap.objs.size,_,I.laid (t':=s.toks) (o:=.tup (B5 xs lo hi)) (λb ob q=>AB _ q) (AO _) ?_,rfl,q _ (I.hok.fresh (AO _))⟩
 exact⟨AV (N7 xs lo hi) hz,_,(r.drop (HT.sIx xs.length 0 lo)).take (HT.sIx xs.length xs.length hi-HT.sIx xs.length 0 lo),IsTup.new _ _⟩
def uv (K:PySem.W.Frag):R2:=λx y H Q=>∃a b xs ys,x=.ref a/\y=.ref b/\SqT K H a xs/\SqT K H b ys/\xs≠[]/\xs.length+ys.length<=sizeLine /\
 (ys=[]->Q (.ref a) H)/\(ys≠[]->∀p,H p=none->Q (.ref p) (upd H p (.tup (xs++ys))))
def Vals.nil_iff {xs:List V}{us:List Value}(r:Vals xs us):us=[]↔xs=[]:=by
 cases r with
 |nil=>simp
 |cons _ _=>simp
def op_catT:OpR X (binaryOp .Add) (uv X.K):=by
 intro pins s σ H x y v u Q I rx ry h
 obtain⟨a,b,xs,ys,rfl,rfl,ha,hb,hx,hz,q1,q2⟩:=h
 cases rx
 cases ry
 obtain⟨its,r1,p1,_⟩:=I.tuple ha
 obtain⟨its2,r2,p2,_⟩:=I.tuple hb
 refine HT.cat_tup p1 p2 (λz=>hx (r1.nil_iff.mp z)) (λz=>⟨.ref a,H,I,rfl,q1 (r2.nil_iff.mp z)⟩) (λz=>?_) (by rw[<-r1.length,<-r2.length];exact hz)
 refine⟨.ref s.heap.objs.size,_,I.laid (t':=s.toks) (o:=.tup (xs++ys)) (λb ob q=>AB _ q) (AO _) ?_,rfl,q2 (λw=>z (r2.nil_iff.mpr w)) _ (I.hok.fresh (AO _))⟩
 exact⟨by rw[BE];exact hz,_,r1.append r2,IsTup.new _ _⟩
end
def aE (n:Nat)(i:Int):Option Nat:=if 0<=i then(if i<n then some i.toNat else none) else if -(n:Int)<=i then some (i+n).toNat else none
def Ri {α:Type}(xs:List α)(i:Int):Option α:=(aE xs.length i).bind λj=>xs[j]?
def zO {n:Nat}{i:Int}{j:Nat}(h:aE n i=some j):seqIndex? i n=some j/\j<n/\-(n:Int)<=i/\i<n:=by
 unfold aE at h
 by_cases h0:0<=i
 .rw[AC h0] at h
  by_cases h1:i<n
  .rw[AC h1] at h
   have e:i.toNat=j:=BD h
   exact⟨by rw[seqIndex_of h0 h1,e],by omega,by omega,h1⟩
  .rw[AD h1] at h;cases h
 .rw[AD h0] at h
  by_cases h1:-(n:Int)<=i
  .rw[AC h1] at h
   have e:(i+n).toNat=j:=BD h
   exact⟨by rw[seqIndex_neg (by omega) h1,e],by omega,h1,by omega⟩
  .rw[AD h1] at h;cases h
def L8 {α:Type}{xs:List α}{i:Int}{v:α}(h:Ri xs i=some v):∃j,seqIndex? i xs.length=some j/\xs[j]?=some v/\j<xs.length/\-(xs.length:Int)<=i/\i<xs.length:=by
 unfold Ri at h
 cases e:aE xs.length i with
 |none=>rw[e] at h;cases h
 |some j=>
  rw[e] at h
  obtain⟨h1,h2,h3,h4⟩:=zO e
  exact⟨j,h1,h,h2,h3,h4⟩
def Pv {α:Type}{xs:List α}{j:Nat}{v:α}(h:xs[j]?=some v):Ri xs (j:Int)=some v:=by
 have hj:j<xs.length:=(AG.mp h).1
 have e:aE xs.length (j:Int)=some j:=by
  unfold aE
  rw[AC (by omega),AC (by omega)];simp
 unfold Ri;rw[e];exact h
def Fj (b:Expr):Prop:=∀o i,subscripted b false o i=operate [o,i] (getItem o i)
def IxR (X:Cx)(r:R2):Prop:=
 ∀(value slice:Expr) (pins:List (Addr×Obj)) (s:Shared) (σ:St) (H:Hp) (x y:V) (v u:Value) (Q:VK),Inv X pins σ H s->RelV x v->RelV y u->r x y H Q ->
  subscripted slice false v u=operate [v,u] (getItem v u)->wpAny (model X.prog X.w) X.A (subscriptTail value slice v u) (EP X pins σ Q) X.xe s
def sV (X:Cx)(id:String)(r:V->List V->Hp->VK->Prop):Prop:=
 ∀(pins:List (Addr×Obj)) (s:Shared) (σ:St) (H:Hp) (x:V) (xs:List V) (v:Value) (us:List Value) (Q:VK),Inv X pins σ H s->RelV x v->Vals xs us->r x xs H Q ->
  wpAny (model X.prog X.w) X.A (call (.builtin id) (v::us)) (EP X pins σ Q) X.xe s
section
variable {X:Cx}{a b:Expr}{ta tb:TE}{pos:Pos}
def IxR.or {r r':R2}(h:IxR X r)(h':IxR X r'):IxR X (λx y H Q=>r x y H Q\/r' x y H Q):=by
 intro value slice pins s σ H x y v u Q I rx ry q hs
 rcases q with q|q
 .exact h value slice pins s σ H x y v u Q I rx ry q hs
 .exact h' value slice pins s σ H x y v u Q I rx ry q hs
def uu {r:R2}(hr:IxR X r)(ha:PE X a ta)(hb:PE X b tb)(hs:Fj b):PE X (.Subscript a b pos) (au r ta tb):=by
 intro pins s σ H Q I h
 exact Subscript_ (il ha hb I h λv u s2 x y H2 I2 rx ry q=>hr a b pins s2 σ H2 x y v u Q I2 rx ry q (hs _ _))
def lZ (K:PySem.W.Frag):R2:=λx y H Q=>∃p xs i v,x=.ref p/\y=.int i/\SqL K H p xs/\Ri xs i=some v/\Q v H
def lY (K:PySem.W.Frag):R2:=λx y H Q=>∃p xs i v,x=.ref p/\y=.int i/\SqT K H p xs/\Ri xs i=some v/\Q v H
def lX:R2:=λx y H Q=>∃z i c,x=.str z/\y=.int i/\z.length<=sizeLine/\Ri z.cps.toList i=some c/\Q (.str ⟨#[c]⟩) H
def ix_list:IxR X (lZ X.K):=by
 intro value slice pins s σ H x y v u Q I rx ry h hs
 obtain⟨p,xs,i,z,rfl,rfl,hq,he,q⟩:=h
 cases rx
 obtain⟨t,rfl⟩:=ry
 obtain⟨its,r,pl,hz⟩:=I.list hq
 obtain⟨j,h1,h2,h3,h4,h5⟩:=L8 he
 obtain⟨w,ew,PM⟩:=r.get h2
 have hl:=r.length
 have hn:=Rb
 have fin:EP X pins σ Q w s:=⟨z,H,I,PM,q⟩
 by_cases h0:0<=i
 .have hj:i.toNat=j:=by
   rw[seqIndex_of h0 h5] at h1
   exact BD h1
  exact item_listR pl.isList h0 (by omega) (by rw[hj];simpa using ew) fin hs
 .have hj:(i+(its.toArray.size:Int)).toNat=j:=by
   rw[seqIndex_neg (by omega) h4] at h1
   rw[AL,<-hl]
   exact BD h1
  exact subscriptTail_builtinR (x:=w) pl.isList.typeIs slot_list_getitem.lookup
   (wpAny_getItem_list_neg (Q:=λr s'=>r=w/\EP X pins σ Q r s') pl.isList (by omega) (by rw[AL]<;>omega) (by omega) (by rw[hj];simpa using ew) ⟨rfl,fin⟩) hs
def ix_tup:IxR X (lY X.K):=by
 intro value slice pins s σ H x y v u Q I rx ry h hs
 obtain⟨p,xs,i,z,rfl,rfl,hq,he,q⟩:=h
 cases rx
 obtain⟨t,rfl⟩:=ry
 obtain⟨its,r,pl,hz⟩:=I.tuple hq
 obtain⟨j,h1,h2,h3,h4,h5⟩:=L8 he
 obtain⟨w,ew,PM⟩:=r.get h2
 have hl:=r.length
 have hn:=Rb
 have fin:EP X pins σ Q w s:=⟨z,H,I,PM,q⟩
 exact subscriptTail_builtinR (x:=w) pl.typeIs slot_tuple_getitem.lookup
  (getItem_tuple (j:=j) (Q:=λr s'=>r=w/\EP X pins σ Q r s') pl (by omega) (by omega) (by rw[AL,<-hl];exact h1) (by simpa using ew) ⟨rfl,fin⟩) hs
def x9:IxR X lX:=by
 intro value slice pins s σ H x y v u Q I rx ry h hs
 obtain⟨z,i,c,rfl,rfl,hz,he,q⟩:=h
 obtain⟨t,rfl⟩:=rx
 obtain⟨t',rfl⟩:=ry
 obtain⟨j,h1,h2,h3,h4,h5⟩:=L8 he
 have hl:z.cps.toList.length=z.length:=by simp[Str.length]
 rw[hl] at h1 h4 h5
 have hn:=Rb
 exact tail_any (typeIs_str s z t) slot_str_getitem.lookup (getItem_str (c:=c) (by
  have e1:decide (i < -(2 ^ 63:Int))=false:=AR (by omega)
  have e2:decide (i ≥ 2 ^ 63)=false:=AR (by omega)
  rw[e1,e2,GU]) (by rw[h1];simpa using h2) ⟨.str ⟨#[c]⟩,H,I.tok _,⟨_,rfl⟩,q⟩) hs
def sU (K:PySem.W.Frag):R2:=λx y H Q=>lZ K x y H Q\/lY K x y H Q\/lX x y H Q
def x8:IxR X (sU X.K):=ix_list.or (ix_tup.or x9)
def L9 (lo hi:Option Int)(n:Nat):(sliceBounds lo hi none n).1=((HT.sIx n 0 lo:Nat):Int)/\(sliceBounds lo hi none n).2.1=((HT.sIx n n hi:Nat):Int)/\(sliceBounds lo hi none n).2.2=1:=by
 refine⟨?_,?_,rfl⟩
 .cases lo with
  |none=>simp[sliceBounds,HT.sIx]
  |some i=>
   simp only[sliceBounds,HT.sIx,KZ,show(1:Int) > 0 by decide,EB]
   by_cases h:i<0
   .simp only[h,EB]<;>omega
   .simp only[h,DQ]<;>omega
 .cases hi with
  |none=>simp[sliceBounds,HT.sIx]
  |some i=>
   simp only[sliceBounds,HT.sIx,KZ,show(1:Int) > 0 by decide,EB]
   by_cases h:i<0
   .simp only[h,EB]<;>omega
   .simp only[h,DQ]<;>omega
def S3 (its:List Value)(lo hi:Option Int):slicePick its.toArray lo hi none=((its.drop (HT.sIx its.length 0 lo)).take (HT.sIx its.length its.length hi-HT.sIx its.length 0 lo)).toArray:=by
 obtain⟨h1,h2,h3⟩:=L9 lo hi its.toArray.size
 unfold slicePick
 rw[h1,h2,h3]
 simp only[sliceRange_one,pick_run,AL]<;>rfl
def uP (K:PySem.W.Frag):V->Option Int->Option Int->Hp->VK->Prop:=λx lo hi H Q=>∃a xs,x=.ref a/\SqL K H a xs/\∀p,H p=none->Q (.ref p) (upd H p (.lst (B5 xs lo hi)))
def sl_list:SlR X (uP X.K):=by
 intro pins s σ H x v vl vu lo hi sl Q I rx hs pl pu h
 obtain⟨a,xs,rfl,hx,q⟩:=h
 cases rx
 obtain⟨its,r,ht,hz⟩:=I.list hx
 have hlen:=r.length
 refine⟨"list", _,slot_list_getitem.lookup,ht.isList.typeIs,?_⟩
 refine wpAny_getItem_list_slice ht.isList hs pl pu .none (by simp) ?_ (by rw[AL]<;>omega)
 rw[S3,<-hlen]
 refine⟨.ref s.heap.objs.size,_,I.laid (t':=s.toks) (o:=.lst (B5 xs lo hi)) (λb ob q=>AB _ q) (AO _) ?_,rfl,q _ (I.hok.fresh (AO _))⟩
 exact⟨AV (N7 xs lo hi) hz,_,0,(r.drop (HT.sIx xs.length 0 lo)).take (HT.sIx xs.length xs.length hi-HT.sIx xs.length 0 lo),AH _ rfl⟩
def Vy:V->Bool
 |.non=>true
 |.bl _=>true
 |.int _=>true
 |.str _=>true
 |_=>false
def YN:V->V->Bool
 |.non,.non=>true
 |.bl a,.bl b=>a==b
 |.bl a,.int b=>(if a then 1 else 0)==b
 |.int a,.bl b=>a==(if b then 1 else 0)
 |.int a,.int b=>a==b
 |.str a,.str b=>a==b
 |_,_=>false
def xw {A:Around}{s:Shared}{y x:V}{u v:Value}(ry:RelV y u)(rx:RelV x v)(fy:Vy y=true)(fx:Vy x=true):SeqAt.EqAt A s u v (YN y x):=by
 cases y with
 |non=>
  cases ry
  cases x with
  |non=>cases rx;exact SeqAt.EqAt.same _
  |bl b=>cases rx;exact SeqAt.EqAt.none_bool b
  |int b=>obtain⟨t,rfl⟩:=rx;exact SeqAt.EqAt.none_int b t
  |str b=>obtain⟨t,rfl⟩:=rx;exact SeqAt.EqAt.none_str b t
  |_=>exact absurd (show false=true from fx) AY
 |bl a=>
  cases ry
  cases x with
  |non=>cases rx;exact SeqAt.EqAt.bool_none a
  |bl b=>cases rx;exact SeqAt.EqAt.bool_bool a b
  |int b=>obtain⟨t,rfl⟩:=rx;exact SeqAt.EqAt.bool_int a b t
  |str b=>obtain⟨t,rfl⟩:=rx;exact SeqAt.EqAt.bool_str a b t
  |_=>exact absurd (show false=true from fx) AY
 |int a=>
  obtain⟨t',rfl⟩:=ry
  cases x with
  |non=>cases rx;exact SeqAt.EqAt.int_none a t'
  |bl b=>cases rx;exact SeqAt.EqAt.int_bool a t' b
  |int b=>obtain⟨t,rfl⟩:=rx;exact SeqAt.EqAt.int_int a t' b t
  |str b=>obtain⟨t,rfl⟩:=rx;exact SeqAt.EqAt.int_str a t' b t
  |_=>exact absurd (show false=true from fx) AY
 |str a=>
  obtain⟨t',rfl⟩:=ry
  cases x with
  |non=>cases rx;exact SeqAt.EqAt.str_none a t'
  |bl b=>cases rx;exact SeqAt.EqAt.str_bool a t' b
  |int b=>obtain⟨t,rfl⟩:=rx;exact SeqAt.EqAt.str_int a t' b t
  |str b=>obtain⟨t,rfl⟩:=rx;exact SeqAt.EqAt.str_str a t' b t
  |_=>exact absurd (show false=true from fx) AY
 |_=>exact absurd (show false=true from fy) AY
def XM (x:V)(u:Value):Bool:=match u with
 |.none=>YN .non x
 |.bool b=>YN (.bl b) x
 |.int i _=>YN (.int i) x
 |.str z _=>YN (.str z) x
 |_=>false
def oA {x y:V}{u:Value}(r:RelV y u)(f:Vy y=true):XM x u=YN y x:=by
 cases y with
 |non=>cases r;rfl
 |bl b=>cases r;rfl
 |int i=>obtain⟨t,rfl⟩:=r;rfl
 |str z=>obtain⟨t,rfl⟩:=r;rfl
 |_=>exact absurd (show false=true from f) AY
theorem Ma {x:V}:∀{xs:List V}{us:List Value},Vals xs us->xs.all Vy=true->us.any (XM x)=xs.any λy=>YN y x
 |_,_,.nil,_=>rfl
 |y::xs,u::us,.cons r t,f=>by
  rw[DV,BC] at f
  rw[CP,CP,oA r f.1,Ma t f.2]
theorem Rj {A:Around}{s:Shared}{x:V}{v:Value}(rx:RelV x v)(fx:Vy x=true):∀{xs:List V}{us:List Value},Vals xs us->xs.all Vy=true->∀u∈us,SeqAt.EqAt A s u v (XM x u)
 |_,_,.nil,_=>λu hu=>by cases hu
 |y::xs,u::us,.cons r t,f=>λu' hu=>by
  rw[DV,BC] at f
  rcases AZ.mp hu with rfl|hu
  .rw[oA r f.1];exact xw r rx f.1 fx
  .exact Rj rx fx t f.2 u' hu
def dr (x:V)(xs:List V):Bool:=xs.any λy=>YN y x
def sT (K:PySem.W.Frag)(neg:Bool):R2:=λx y H Q=>∃p xs,y=.ref p/\(SqL K H p xs\/SqT K H p xs)/\Vy x=true/\xs.all Vy=true/\Q (.bl (if neg then !dr x xs else dr x xs)) H
def Mb:OpR X (compareOp .NotIn) (sT X.K true):=by
 intro pins s σ H x y v u Q I rx ry h
 obtain⟨p,xs,rfl,hq,fx,fs,q⟩:=h
 cases ry
 rcases hq with hq|hq
 .obtain⟨its,r,pl,hz⟩:=I.list hq
  refine SeqAt.notIn_listAt (XM x) pl.isList (λw hw=>Rj rx fx r fs w (by simpa using hw)) ⟨.bl _,H,I,rfl,?_⟩
  rw[show its.toArray.any (XM x)=its.any (XM x) by simp,Ma r fs]
  exact q
 .obtain⟨its,r,pl,hz⟩:=I.tuple hq
  refine SeqAt.notIn_tupleAt (XM x) pl (λw hw=>Rj rx fx r fs w (by simpa using hw)) ⟨.bl _,H,I,rfl,?_⟩
  rw[show its.toArray.any (XM x)=its.any (XM x) by simp,Ma r fs]
  exact q
def call_len_seq:CallR X (.builtin "len") (λxs H Q=>∃p ys,xs=[.ref p]/\(SqL X.K H p ys\/SqT X.K H p ys)/\Q (.int ys.length) H):=by
 intro pins s σ H xs us Q I r h
 obtain⟨p,ys,rfl,hq,q⟩:=h
 obtain⟨u,rfl,rx⟩:=Vx r
 cases rx
 have hn:=Rb
 rcases hq with hq|hq
 .obtain⟨its,r',pl,hz⟩:=I.list hq
  have hlen:=r'.length
  exact Calls.call_len_list pl.isList (by simp only[AL]<;>omega) ⟨.int ys.length,H,I.tok _,⟨s.toks+1,by rw[AL,hlen]⟩,q⟩
 .obtain⟨its,r',pl,hz⟩:=I.tuple hq
  have hlen:=r'.length
  exact len_tuple pl (by simp only[AL]<;>omega) ⟨.int ys.length,H,I.tok _,⟨s.toks+1,by rw[AL,hlen]⟩,q⟩
def Mc:CallR X (.builtin "len") (λxs H Q=>∃z,xs=[.str z]/\z.length<=sizeLine/\Q (.int z.length) H):=by
 intro pins s σ H xs us Q I r h
 obtain⟨z,rfl,hz,q⟩:=h
 obtain⟨u,rfl,t,rfl⟩:=Vx r
 have hn:=Rb
 exact len_str (by omega) ⟨.int z.length,H,I.tok _,⟨_,rfl⟩,q⟩
def CallR.or {f:Value}{r r':List V->Hp->VK->Prop}(h:CallR X f r)(h':CallR X f r'):CallR X f (λxs H Q=>r xs H Q\/r' xs H Q):=by
 intro pins s σ H xs us Q I rs q
 rcases q with q|q
 .exact h pins s σ H xs us Q I rs q
 .exact h' pins s σ H xs us Q I rs q
def S4:CallR X (.type "tuple") (λxs H Q=>∃p ys,xs=[.ref p]/\((SqL X.K H p ys/\∀l,H l=none->Q (.ref l) (upd H l (.tup ys)))\/(SqT X.K H p ys/\Q (.ref p) H))):=by
 intro pins s σ H xs us Q I r h
 obtain⟨p,ys,rfl,h⟩:=h
 obtain⟨u,rfl,rx⟩:=Vx r
 cases rx
 rcases h with⟨hq,q⟩|⟨hq,q⟩
 .obtain⟨its,r',pl,hz⟩:=I.list hq
  have hlen:=r'.length
  refine call_tuple_list pl.isList (λh' kp=>?_) (by simp only[AL]<;>omega)
  have I1:Inv X pins σ H {s with heap:=h'}:=I.kept (t':=s.toks) kp
  have I2:Inv X pins σ (upd H h'.objs.size (.tup ys)) {s with heap:=h'.push {cls:=.type "tuple", data:=.seq its.toArray}}:=
   I1.laid (t':=s.toks) (λb o e=>AB _ e) (AO _) (show ObjOk X.prog X.w _ _ _ (.tup ys) from⟨hz,its,r',IsTup.new _ _⟩)
  exact⟨.ref h'.objs.size,_,I2,rfl,q _ (I1.hok.fresh (AO _))⟩
 .obtain⟨its,r',pl,hz⟩:=I.tuple hq
  exact call_tuple_same pl ⟨.ref p,H,I,rfl,q⟩
def k9 (K:PySem.W.Frag)(T:String)(x:V)(H:Hp):Prop:=match x with
 |.str _=>T="str"
 |.int _=>T="int"
 |.ref p=>(T="list"/\∃xs,SqL K H p xs)\/(T="tuple"/\∃o,K.lookup p=some o/\o.cls=.type "tuple"/\o.dict=none) \/
   (T="dict"/\((∃kvs,H p=some (.dK kvs))\/∃kvs,H p=some (.dT kvs)))\/(T="set"/\∃S n,H p=some (.set S n))
 |_=>False
def xv {pins:List (Addr×Obj)}{σ:St}{H:Hp}{s:Shared}{T:String}{x:V}{v:Value}(I:Inv X pins σ H s)(r:RelV x v)(ty:k9 X.K T x H):
  s.TypeIs v T/\∀a,v=.ref a->∃ob,s.heap.get? a=some ob/\ob.dict=none:=by
 cases x with
 |str z=>
  obtain⟨t,rfl⟩:=r
  cases (show T="str" from ty)
  exact⟨typeIs_str s z t,λ_ e=>nomatch e⟩
 |int i=>
  obtain⟨t,rfl⟩:=r
  cases (show T="int" from ty)
  exact⟨typeIs_int s i t,λ_ e=>nomatch e⟩
 |ref p=>
  cases r
  rcases ty with⟨rfl,xs,hq⟩|⟨rfl,o,hk,hc,hd⟩|⟨rfl,hk⟩|⟨rfl,S,n,hk⟩
  .obtain⟨its,_,pl,_⟩:=I.list hq
   refine⟨pl.isList.typeIs,λa e=>?_⟩
   cases e
   obtain⟨o,n,e,c,hd,_⟩:=pl
   exact⟨o,e,hd⟩
  .refine⟨⟨o,I.kIn p o hk,hc⟩,λa e=>?_⟩
   cases e
   exact⟨o,I.kIn _ o hk,hd⟩
  .have z:∃o,s.heap.get? p=some o/\o.ExactDict:=by
    rcases hk with⟨kvs,hk⟩|⟨kvs,hk⟩
    .obtain⟨_,_,_,_,o,_,_,e,ex,_⟩:=I.hok p _ hk
     exact⟨o,e,ex⟩
    .obtain⟨_,_,_,_,o,_,_,e,ex,_⟩:=I.hok p _ hk
     exact⟨o,e,ex⟩
   obtain⟨o,e,ex⟩:=z
   refine⟨⟨o,e,ex.1⟩,λa e2=>?_⟩
   cases e2
   exact⟨o,e,ex.2.1⟩
  .obtain⟨o,_,_,_,e,ex,_⟩:=I.hok p _ hk
   refine⟨⟨o,e,ex.1⟩,λa e2=>?_⟩
   cases e2
   exact⟨o,e,ex.2.1⟩
 |_=>exact False.elim ty
def sS (K:PySem.W.Frag)(T:String)(r:V->List V->Hp->VK->Prop)(to:TE)(t:TA):TE:=λσ H Q=>to σ H λx H1=>k9 K T x H1/\t σ H1 λxs H2=>r x xs H2 Q
variable {o e:Expr}{es:List Expr}{to:TE}{t:TA}{name:Str}{apos cpos:Pos}{T id:String}{r:V->List V->Hp->VK->Prop}
def mO (pa:PlainAttrs T)(slot:Slot T name id) (qA:typeOf (.builtin id)=pure (.type "method_descriptor")) (hm:sV X id r) (ho:PE X o to) (ha:PA X (e::es) t)
  (UX:attributeBase o name X.env (eval o X.env)=eval o X.env:=by rfl)
  (hfew:((backTo cpos (starEach (e::es) X.env)).all (λx=>!x.1)&&(backToKw cpos (keywordEach [] X.env)).all (λx=>x.1.isSome)
   && decide ((e::es).length+([]:List Keyword).length+(if([]:List Keyword).isEmpty then 0 else 1)<30))=true:=by rfl)
  (hline:(apos.endLine==cpos.line)=true:=by rfl) (hs:starEach (e::es) X.env=(false,eval e X.env)::starEach es X.env:=by rfl) (SC:(backTo cpos (starEach es X.env)).any (·.1)=false:=by rfl):
  PE X (.Call (.Attribute o name apos) (e::es) [] cpos) (sS X.K T r to t):=by
 intro pins s σ H Q I h
 refine wpAny_Call_method_late UX hfew hline rfl (Yf (ho pins s σ H _ I h) λv s1 ⟨x,H1,I1,r1,ty,q1⟩=>?_)
 obtain⟨h1,h2⟩:=xv I1 r1 ty
 refine⟨T,id,pa,slot,qA,h1,h2,?_⟩
 have hA:=ha cpos pins s1 σ H1 _ I1 q1
 rw[hs] at hA ⊢
 refine GR (by show(false||(backTo cpos (starEach es X.env)).any (·.1))=false;rw[SC]<;>rfl) (HH ?_)
 exact Yf hA λus s2 ⟨vs,H2,I2,r2,q2⟩=>hm pins s2 σ H2 x vs v us Q I2 r1 r2 q2
end
def sR (X:Cx)(id:String)(r:V->List V->Hp->VK->Prop):Prop:=
 ∀(pins:List (Addr×Obj)) (s:Shared) (σ:St) (H:Hp) (x:V) (xs:List V) (v:Value) (us:List Value) (Q:VK),Inv X pins σ H s->RelV x v->Vals xs us->r x xs H Q ->
  wpAny (model X.prog X.w) X.A (call (.builtin id) (v::us)) (EP X pins σ Q) X.xe s
def Vals.one:∀{x:V}{us:List Value},Vals [x] us->∃u,us=[u]/\RelV x u
 |_,_,.cons r .nil=>⟨_,rfl,r⟩
section
variable {X:Cx}{pins:List (Addr×Obj)}{σ:St}{H:Hp}{s:Shared}{l b:Addr}{xs ys zs:List V}
def Inv.lset {its its':List Value}{n:Nat}{f:Array Value->Array Value}{t':Nat}(I:Inv X pins σ H s)(hH:H l=some (.lst xs))
  (e:s.heap.get? l=some {cls:=.type "list", data:=.seq its.toArray n}) (hf:f its.toArray=its'.toArray) (hv:Vals ys its') (hz:ys.length<=sizeLine):
  Inv X pins σ (upd H l (.lst ys)) {s with heap:=s.heap.update l (Obj.mapSeq f),toks:=t'}:=by
 have q:=PySem.IsL.update e f
 rw[hf] at q
 refine I.write (x:=l) (e:=l) (by rw[hH];exact trivial) (.inl rfl) (λb' u hb hu=>(CD s.heap (Obj.mapSeq f) (CQ hb)).trans hu) ⟨_,q⟩ ?_
 exact⟨hz,its',_,hv,q⟩
def Inv.lnew {its:List Value}{t':Nat}(I:Inv X pins σ H s)(hv:Vals ys its)(hz:ys.length<=sizeLine):
  Inv X pins σ (upd H s.heap.objs.size (.lst ys)) {s with heap:=s.heap.push {cls:=.type "list", data:=.seq its.toArray},toks:=t'}:=
 I.laid (λ_ _ q=>AB _ q) (AO _) ⟨hz,its,0,hv,AH _ rfl⟩
theorem Inv.fresh (I:Inv X pins σ H s):H s.heap.objs.size=none:=I.hok.fresh (AO _)
def Inv.lstM (I:Inv X pins σ H s)(hH:H l=some (.lst xs)):xs.length<=sizeLine/\∃(its:List Value) (n:Nat),Vals xs its/\xs.length=its.length/\s.heap.get? l=some {cls:=.type "list", data:=.seq its.toArray n}:=by
 obtain⟨z,its,n,r,e⟩:=I.hok l _ hH
 exact⟨z,its,n,r,r.length,e⟩
end
section
variable {X:Cx}
def zp:V->List V->Hp->VK->Prop:=λx vs H Q=>∃l xs y,x=.ref l/\vs=[y]/\H l=some (.lst xs)/\xs.length<sizeLine/\Q .non (upd H l (.lst (xs++[y])))
def Gu:sR X "list.append" zp:=by
 intro pins s σ H x vs v us Q I rx rv h
 obtain⟨l,xs,y,rfl,rfl,hH,hz,q⟩:=h
 cases rx
 obtain⟨u,rfl,ru⟩:=rv.one
 obtain⟨z,its,n,r,hl,e⟩:=I.lstM hH
 refine call_meets F.slot_list_append ⟨_,e,rfl⟩ F.entry_list_append (F.args_list_append_2 _ _) (PySem.list_append l its.toArray n u (by rw[AL];omega)) ⟨e,?_⟩
 refine⟨.non,_,I.lset (its':=its++[u]) hH e (by simp) (r.append (.cons ru .nil)) ?_,rfl,q⟩
 rw[BE,DD]
 omega
end
section
variable {κ:Type} [DecidableEq κ]
def Y7 (kvs:List (κ×V))(k:κ):Option V:=(kvs.find? λkv=>decide (kv.1=k)).map (·.2)
def Ja (kvs:List (κ×V))(k:κ)(v:V):List (κ×V):=
 if(kvs.any λkv=>decide (kv.1=k))=true then kvs.map (λkv=>if kv.1=k then(kv.1,v) else kv) else kvs++[(k,v)]
def Y0 {p:κ×V}{r:List (κ×V)}{k:κ}(e:p.1=k):Y7 (p::r) k=some p.2:=by simp[Y7,BX,e]
def Ym {p:κ×V}{r:List (κ×V)}{k:κ}(e:¬p.1=k):Y7 (p::r) k=Y7 r k:=by simp[Y7,BX,e]
theorem Va (k:κ):∀kvs:List (κ×V),(kvs.any λkv=>decide (kv.1=k))=(Y7 kvs k).isSome
 |[]=>rfl
 |p::r=>by
  rw[CP]
  by_cases e:p.1=k
  .simp only[Y0 e,AS e,Bool.true_or,Option.isSome_some]
  .rw[Ym e,AR e,Bool.false_or];exact Va k r
theorem B6 (k j:κ)(y:V):∀kvs:List (κ×V),Y7 (kvs.map λkv=>if kv.1=k then(kv.1,y) else kv) j=(Y7 kvs j).map λx=>if j=k then y else x
 |[]=>rfl
 |p::r=>by
  have ih:=B6 k j y r
  rw[BA]
  by_cases h:p.1=k
  .rw[AC h]
   by_cases e:p.1=j
   .rw[Y0 (p:=(p.1,y)) e,Y0 e,GG,AC (e.symm.trans h)]
   .rw[Ym (p:=(p.1,y)) e,Ym e,ih]
  .rw[AD h]
   by_cases e:p.1=j
   .rw[Y0 (p:=p) e,Y0 e,GG,AD (λz=>h (e.trans z))]
   .rw[Ym (p:=p) e,Ym e,ih]
theorem Tv (k j:κ)(y:V):∀kvs:List (κ×V),Y7 kvs k=none->Y7 (kvs++[(k,y)]) j=if j=k then some y else Y7 kvs j
 |[],_=>by
  by_cases e:k=j
  .rw[AC e.symm];exact Y0 (p:=(k,y)) e
  .rw[AD (λz=>e z.symm)];exact Ym (p:=(k,y)) e
 |p::r,hn=>by
  rw[LF]
  have hk:¬p.1=k:=λz=>by rw[Y0 z] at hn;cases hn
  rw[Ym hk] at hn
  have ih:=Tv k j y r hn
  by_cases e:p.1=j
  .rw[Y0 e,Y0 e,AD (λz=>hk (e.trans z))]
  .rw[Ym e,Ym e,ih]
def Za9 (kvs:List (κ×V))(k j:κ)(y:V):Y7 (Ja kvs k y) j=if j=k then some y else Y7 kvs j:=by
 unfold Ja
 by_cases a:(kvs.any λkv=>decide (kv.1=k))=true
 .rw[AC a,B6]
  rw[Va] at a
  by_cases e:j=k
  .obtain⟨x,hx⟩:=FO.mp a
   rw[AC e,e,hx,GG,AC rfl]
  .rw[AD e]
   cases Y7 kvs j with
   |none=>rfl
   |some x=>rw[GG,AD e]
 .rw[AD a]
  refine Tv k j y kvs ?_
  rw[Va] at a
  cases q:Y7 kvs k with
  |none=>rfl
  |some x=>rw[q] at a;exact(a rfl).elim
def Kq (kvs:List (κ×V))(k:κ)(v:V):(Ja kvs k v).length<=kvs.length+1:=by
 unfold Ja
 split
 .rw[BM];omega
 .rw[BE,AW,FF];omega
def RelO.isSome_eq {o:Option V}{u:Option Value}(r:RelO o u):o.isSome=u.isSome:=by
 cases o with
 |none=>cases u with
  |none=>rfl
  |some _=>exact(show False from r).elim
 |some _=>cases u with
  |none=>exact(show False from r).elim
  |some _=>rfl
theorem RelO.getD {o:Option V}{u:Option Value}{d:V}{d':Value}(r:RelO o u)(rd:RelV d d'):RelV (o.getD d) (u.getD d'):=by
 cases o with
 |none=>cases u with
  |none=>exact rd
  |some _=>exact(show False from r).elim
 |some _=>cases u with
  |none=>exact(show False from r).elim
  |some _=>exact r
def KV.val {kvs:List (κ×V)}{vs:List (κ×Value)}(r:KV kvs vs)(k:κ):RelO (Y7 kvs k) (valueAt vs k):=by
 unfold KV at r
 induction r with
 |nil=>exact True.intro
 | @cons p q ps qs h t ih=>
  obtain⟨h1,h2⟩:=h
  by_cases e:p.1=k
  .have e':q.1=k:=h1.symm.trans e
   have b:valueAt (q::qs) k=some q.2:=by simp[valueAt,BX,e']
   rw[Y0 e,b];exact h2
  .have e':¬q.1=k:=λz=>e (h1.trans z)
   have b:valueAt (q::qs) k=valueAt qs k:=by simp[valueAt,BX,e']
   rw[Ym e,b];exact ih
theorem KV.any {kvs:List (κ×V)}{vs:List (κ×Value)}(r:KV kvs vs)(k:κ):(kvs.any λkv=>decide (kv.1=k))=vs.any λkv=>decide (kv.1=k):=by
 unfold KV at r
 induction r with
 |nil=>rfl
 |cons h t ih=>rw[CP,CP,ih,h.1]
def KV.repl {kvs:List (κ×V)}{vs:List (κ×Value)}(r:KV kvs vs)(k:κ){y:V}{u:Value}(ry:RelV y u):
  KV (kvs.map λkv=>if kv.1=k then(kv.1,y) else kv) (vs.map λkv=>if kv.1=k then(kv.1,u) else kv):=by
 unfold KV at r ⊢
 induction r with
 |nil=>exact .nil
 | @cons p q ps qs h t ih=>
  rw[BA,BA]
  refine .cons ?_ ih
  obtain⟨h1,h2⟩:=h
  by_cases e:p.1=k
  .rw[AC e,AC (h1.symm.trans e)];exact⟨h1,ry⟩
  .rw[AD e,AD (λz=>e (h1.trans z))];exact⟨h1,h2⟩
def KV.put {kvs:List (κ×V)}{vs:List (κ×Value)}(r:KV kvs vs)(k:κ){y:V}{u:Value}(ry:RelV y u):KV (Ja kvs k y) (stored vs k u):=by
 unfold Ja stored
 rw[r.any k]
 by_cases e:(vs.any λkv=>decide (kv.1=k))=true
 .rw[AC e,AC e];exact r.repl k ry
 .rw[AD e,AD e];exact LR r ⟨rfl,ry⟩
theorem KV.length {kvs:List (κ×V)}{vs:List (κ×Value)}(r:KV kvs vs):kvs.length=vs.length:=DN r
end
def Tw {P:Program}{w:World}{k:Q9}{u:Value}(r:RelV (kV k) u):(Yw P w).is k u=true:=by
 cases k with
 |inl i=>obtain⟨t,e⟩:=(show ∃t,u=Value.int i t from r);subst e;exact Bz P w i t
 |inr x=>obtain⟨t,e⟩:=(show ∃t,u=Value.str x t from r);subst e;exact B0 P w x t
theorem Tx {P:Program}{w:World}:∀{ks:List Q9}{us:List Value},Vals (ks.map kV) us->ItemsAre (Yw P w) ks us
 |[],_,r=>by rw[FH] at r;cases r;exact .nil
 |k::ks,_,r=>by
  rw[BA] at r
  cases r with
  |cons h t=>exact .cons (Tw h) (Tx t)
abbrev KT (H:Hp):List (List Q9×V)->List (List Q9×Addr×Value)->Prop:=Paired λp q=>p.1=q.1/\H q.2.1=some (.tup (p.1.map kV))/\RelV p.2 q.2.2
def KT.val {H:Hp}{kvs:List (List Q9×V)}{xs:List (List Q9×Addr×Value)}(r:KT H kvs xs)(k:List Q9):RelO (Y7 kvs k) ((atKey xs k).map (·.2)):=by
 induction r with
 |nil=>exact True.intro
 | @cons p q ps qs h t ih=>
  obtain⟨h1,_,h2⟩:=h
  by_cases e:p.1=k
  .have e':q.1=k:=h1.symm.trans e
   have b:atKey (q::qs) k=some q.2:=by simp[atKey,BX,e']
   rw[Y0 e,b];exact h2
  .have e':¬q.1=k:=λz=>e (h1.trans z)
   have b:atKey (q::qs) k=atKey qs k:=by simp[atKey,BX,e']
   rw[Ym e,b];exact ih
def KT.repl {H:Hp}{kvs:List (List Q9×V)}{xs:List (List Q9×Addr×Value)}(r:KT H kvs xs)(k:List Q9){y:V}{u:Value}(ry:RelV y u):
  KT H (kvs.map λkv=>if kv.1=k then(kv.1,y) else kv) (xs.map (putAt k u)):=by
 induction r with
 |nil=>exact .nil
 | @cons p q ps qs h t ih=>
  rw[BA,BA]
  refine .cons ?_ ih
  obtain⟨h1,h2,h3⟩:=h
  unfold putAt
  by_cases e:p.1=k
  .rw[AC e,AC (h1.symm.trans e)];exact⟨h1,h2,ry⟩
  .rw[AD e,AD (λz=>e (h1.trans z))];exact⟨h1,h2,h3⟩
def KT.put {H:Hp}{kvs:List (List Q9×V)}{xs:List (List Q9×Addr×Value)}(r:KT H kvs xs)(k:List Q9){b:Addr}{y:V}{u:Value}(hb:H b=some (.tup (k.map kV)))(ry:RelV y u):
  KT H (Ja kvs k y) (storedH xs k b u):=by
 have e:(kvs.any λkv=>decide (kv.1=k))=(atKey xs k).isSome:=by
  rw[Va,(r.val k).isSome_eq,HD]
 unfold Ja storedH
 rw[e]
 by_cases q:(atKey xs k).isSome=true
 .rw[AC q,AC q];exact r.repl k ry
 .rw[AD q,AD q];exact LR r ⟨rfl,hb,ry⟩
def KT.keeps {H H':Hp}{kvs:List (List Q9×V)}{xs:List (List Q9×Addr×Value)}(r:KT H kvs xs)(ht:∀b ys,H b=some (.tup ys)->H' b=some (.tup ys)):KT H' kvs xs:=
 Paired.mapP r λ_ _ z=>⟨z.1,ht _ _ z.2.1,z.2.2⟩
section
variable {P:Program}{w:World}{H:Hp}{h:Heap}{a:Addr}
def mM {u:HO}(ok:HOk P w H h)(e:Rd H a u):ObjOk P w H h a u:=e.ok ok
def Rk {kvs:List (Q9×V)}(ok:HOk P w H h)(e:Rd H a (.dK kvs)):kvs.length<=sizeLine/\(a==sysModules)=false/\∃vs,KV kvs vs/\h.DictOf (Yw P w) a vs:=
 show ObjOk P w H h a (.dK kvs) from mM ok e
def ur {kvs:List (Q9×V)}(ok:HOk P w H h)(e:H a=some (.dK kvs)):kvs.length<=sizeLine/\(a==sysModules)=false/\∃vs,KV kvs vs/\h.DictOf (Yw P w) a vs:=Rk ok (.inl e)
def Wa {ks:List Q9}(ok:HOk P w H h)(e:H a=some (.tup (ks.map kV))):(tupleKind (Yw P w)).is h ks a:=by
 obtain⟨_,its,r,o,h1,h2,n,h3⟩:=(show ObjOk P w H h a (.tup (ks.map kV)) from ok a _ e)
 exact⟨o,its.toArray,n,h1,h2,h3,by simpa using Tx r⟩
def Rl {kvs:List (List Q9×V)}(ok:HOk P w H h)(e:Rd H a (.dT kvs)):kvs.length<=sizeLine/\(a==sysModules)=false /\
  ∃xs,KT H kvs xs/\h.DictOfH (tupleKind (Yw P w)) a xs:=by
 obtain⟨z,y,xs,r,o,es,ep,h1,h2,h3,h4,h5⟩:=(show ObjOk P w H h a (.dT kvs) from mM ok e)
 refine⟨z,y,xs,r,o,es,ep,h1,h2,h3,h4,λx hx=>?_,h5⟩
 have all:∀{l:List (List Q9×V)}{m:List (List Q9×Addr×Value)},KT H l m->∀x∈m,(tupleKind (Yw P w)).is h x.1 x.2.1:=by
  intro l m q
  induction q with
  |nil=>intro x hx;exact nomatch hx
  | @cons p q ps qs hq t ih=>
   intro x hx
   rcases AZ.mp hx with e|hx
   .subst e
    exact Wa ok (by rw[<-hq.1];exact hq.2.1)
   .exact ih x hx
 exact all r x hx
def mK {kvs:List (List Q9×V)}(ok:HOk P w H h)(e:H a=some (.dT kvs)):kvs.length<=sizeLine/\(a==sysModules)=false /\
  ∃xs,KT H kvs xs/\h.DictOfH (tupleKind (Yw P w)) a xs:=Rl ok (.inl e)
end
def DGet (H:Hp)(a:Addr)(y:V)(r:Option V):Prop:=
 (∃kvs k,Rd H a (.dK kvs)/\y=kV k/\r=Y7 kvs k)\/∃kvs k b,Rd H a (.dT kvs)/\y=.ref b/\H b=some (.tup (k.map kV))/\r=Y7 kvs k
def DPut (H:Hp)(a:Addr)(y v:V)(H':Hp):Prop:=
 (∃kvs k,H a=some (.dK kvs)/\y=kV k/\kvs.length<sizeLine/\H'=upd H a (.dK (Ja kvs k v))) \/
 ∃kvs k b,H a=some (.dT kvs)/\y=.ref b/\H b=some (.tup (k.map kV))/\kvs.length<sizeLine/\H'=upd H a (.dT (Ja kvs k v))
theorem DGet.k {H:Hp}{a:Addr}{kvs:List (Q9×V)}{k:Q9}(e:H a=some (.dK kvs)):DGet H a (kV k) (Y7 kvs k):=.inl ⟨kvs,k,.inl e,rfl,rfl⟩
def DGet.t {H:Hp}{a b:Addr}{kvs:List (List Q9×V)}{k:List Q9}(e:H a=some (.dT kvs))(eb:H b=some (.tup (k.map kV))):DGet H a (.ref b) (Y7 kvs k):=.inr ⟨kvs,k,b,.inl e,rfl,eb,rfl⟩
theorem DPut.k {H:Hp}{a:Addr}{kvs:List (Q9×V)}{k:Q9}{v:V}(e:H a=some (.dK kvs))(hl:kvs.length<sizeLine):DPut H a (kV k) v (upd H a (.dK (Ja kvs k v))):=.inl ⟨kvs,k,e,rfl,hl,rfl⟩
def DPut.t {H:Hp}{a b:Addr}{kvs:List (List Q9×V)}{k:List Q9}{v:V}(e:H a=some (.dT kvs))(eb:H b=some (.tup (k.map kV)))(hl:kvs.length<sizeLine):
  DPut H a (.ref b) v (upd H a (.dT (Ja kvs k v))):=.inr ⟨kvs,k,b,e,rfl,eb,hl,rfl⟩
section
variable {X:Cx}{pins:List (Addr×Obj)}{σ:St}{H:Hp}{s:Shared}{a:Addr}{y v:V}{u r:Value}{o:Option V}{A:Around}{E:Value->Shared->Prop}
def Inv.big (I:Inv X pins σ H s):sysModules<s.heap.objs.size:=by
 have h:mainGlobals<s.heap.objs.size:=(I.mod.glob.keeps I.bk).lt
 exact Nat.lt_trans (by decide) h
def Oc {Q:Value->Shared->Prop}(hu:A.units+1<cLine)(I:Inv X pins σ H s)(g:DGet H a y (some v))(ry:RelV y u)(h:∀w' s',Inv X pins σ H s'->RelV v w'->Q w' s'):
  wpAny (model X.prog X.w) A (getItem (.ref a) u) Q E s:=by
 rcases g with⟨kvs,k,e,ey,l⟩|⟨kvs,k,b,e,ey,eb,l⟩
 .subst ey
  obtain⟨z,hd,vs,rel,dd⟩:=Rk I.hok e
  obtain⟨w',hw,PM⟩:=RelO.some_of (v:=v) (o:=valueAt vs k) (by rw[l];exact rel.val k)
  exact wpAny_getItem_of (Tw ry) dd.mapOf hw (h w' _ (I.tok _) PM)
 .subst ey
  cases (show u=Value.ref b from ry)
  obtain⟨z,hd,xs,rel,dd⟩:=Rl I.hok e
  obtain⟨w',hw,PM⟩:=RelO.some_of (v:=v) (o:=(atKey xs k).map (·.2)) (by rw[l];exact rel.val k)
  obtain⟨p,hp,WN⟩:=CY.mp hw
  refine wpAny_getItem_heap (Do hu) (Wa I.hok eb) dd hp ?_
  rw[WN]
  exact h w' _ (I.tok _) PM
def uO {Q:Value->Shared->Prop}(hu:A.units+1<cLine)(I:Inv X pins σ H s)(g:DGet H a y o)(ry:RelV y u)(h:∀s',Inv X pins σ H s'->Q (.bool o.isSome) s'):
  wpAny (model X.prog X.w) A (compareOp .In u (.ref a)) Q E s:=by
 rcases g with⟨kvs,k,e,ey,l⟩|⟨kvs,k,b,e,ey,eb,l⟩
 .subst ey
  obtain⟨z,hd,vs,rel,dd⟩:=Rk I.hok e
  refine wpAny_in_of (Tw ry) hd dd.mapOf ?_
  rw[<-(rel.val k).isSome_eq,<-l]
  exact h _ (I.tok _)
 .subst ey
  cases (show u=Value.ref b from ry)
  obtain⟨z,hd,xs,rel,dd⟩:=Rl I.hok e
  refine wpAny_in_heap (Do hu) (Wa I.hok eb) hd dd ?_
  have q:=(rel.val k).isSome_eq
  rw[HD] at q
  rw[<-q,<-l]
  exact h _ (I.tok _)
def zo {Q:Value->Shared->Prop}(hu:A.units+1<cLine)(I:Inv X pins σ H s)(g:DGet H a y o)(ry:RelV y u)(h:∀s',Inv X pins σ H s'->Q (.bool (!o.isSome)) s'):
  wpAny (model X.prog X.w) A (compareOp .NotIn u (.ref a)) Q E s:=by
 rcases g with⟨kvs,k,e,ey,l⟩|⟨kvs,k,b,e,ey,eb,l⟩
 .subst ey
  obtain⟨z,hd,vs,rel,dd⟩:=Rk I.hok e
  refine wpAny_notIn_of (Tw ry) hd dd.mapOf ?_
  rw[<-(rel.val k).isSome_eq,<-l]
  exact h _ (I.tok _)
 .subst ey
  cases (show u=Value.ref b from ry)
  obtain⟨z,hd,xs,rel,dd⟩:=Rl I.hok e
  refine wpAny_notIn_heap (Do hu) (Wa I.hok eb) hd dd ?_
  have q:=(rel.val k).isSome_eq
  rw[HD] at q
  rw[<-q,<-l]
  exact h _ (I.tok _)
def Md {h':Heap}{t':Nat}{ob:HO}(I:Inv X pins σ H s)(mu:cM (H a))(hs:Heap.SameBut a s.heap h')(he:∃q,h'.get? a=some q)(new:ObjOk X.prog X.w (upd H a ob) h' a ob):
  Inv X pins σ (upd H a ob) {s with heap:=h',toks:=t'}:=
 I.write (x:=a) (e:=a) mu (.inl rfl) (λb q hb z=>(hs.2 b hb).trans z) he new
def xu {P:Program}{w:World}{H':Hp}{h':Heap}{kvs:List (Q9×V)}{vs:List (Q9×Value)}(z:kvs.length<=sizeLine)(hd:(a==sysModules)=false)(rel:KV kvs vs)(dd:h'.DictOf (Yw P w) a vs):
  ObjOk P w H' h' a (.dK kvs):=⟨z,hd,vs,rel,dd⟩
def Od {H':Hp}{Q:Unit->Shared->Prop}(hu:A.units+1<cLine)(I:Inv X pins σ H s)(g:DPut H a y v H')(ry:RelV y u)(rv:RelV v r)(h:∀s',Inv X pins σ H' s'->Q () s'):
  wpAny (model X.prog X.w) A (setItem (.ref a) u r) Q E s:=by
 rcases g with⟨kvs,k,e,ey,l,eH⟩|⟨kvs,k,b,e,ey,eb,l,eH⟩
 .subst ey eH
  obtain⟨z,hd,vs,rel,dd⟩:=ur I.hok e
  have hz:vs.length<=sizeLine:=by rw[<-rel.length];exact z
  have hl:(Ja kvs k v).length<=sizeLine:=by have:=Kq kvs k v;omega
  refine wpAny_setItem_pairs (hsz:=hz) (Tw ry) dd λh' aW hs=>h _ ?_
  have he:∃q,h'.get? a=some q:=let ⟨q,_,_,hq,_⟩:=aW;⟨q,hq⟩
  exact Md I (by rw[e];exact True.intro) hs he (xu hl hd (rel.put k rv) aW)
 .subst ey eH
  cases (show u=Value.ref b from ry)
  obtain⟨z,hd,xs,rel,dd⟩:=mK I.hok e
  have hz:xs.length<=sizeLine:=by rw[<-DN rel];exact z
  have hl:(Ja kvs k v).length<=sizeLine:=by have:=Kq kvs k v;omega
  refine wpAny_setItem_heap (hsz:=hz) (Do hu) (Wa I.hok eb) dd λh' aW hs=>h _ ?_
  obtain⟨q,es,ep,hq,h2,h3,h4,_,h5⟩:=aW
  refine Md I (by rw[e];exact True.intro) hs ⟨q,hq⟩ ⟨hl,hd,_,(rel.put k eb rv).keeps λc ys ec=>?_,q,es,ep,hq,h2,h3,h4,h5⟩
  rw[Zl (mj ec e (λz=>nomatch z))]
  exact ec
end
def lW (i:Expr):Prop:=∀ov iv,subscripted i false ov iv=operate [ov,iv] (getItem ov iv)
def zm {prog:Program}{w:World}{A:Around}{E:Value->Shared->Prop}{s:Shared}{env:Env}{value slice:Expr}{pos:Pos}{T id:String}{Q:Value->Shared->Prop}
  (hl:typeLookup (.type T) "__getitem__"=pure (some (.builtin id))) (hs:lW slice)
  (h:wpAny (model prog w) A (eval value env) (λo s₁=>wpAny (model prog w) A (eval slice env) (λi s₂=>s₂.TypeIs o T/\wpAny (model prog w) A (getItem o i) Q E s₂) E s₁) E s):
  wpAny (model prog w) A (eval (.Subscript value slice pos) env) Q E s:=by
 refine Subscript_ (CB h (λo s₁ h₁=>CB h₁ (λi s₂ h₂=>?_) λ_ _ x=>x) λ_ _ x=>x)
 obtain⟨hT,h₂⟩:=h₂
 unfold subscriptTail
 refine AA ?_
 rw[getitemInPython_of_ne hT.not_modules]
 refine AA (IV hT hl ?_)
 have fin:wpAny (model prog w) A (subscripted slice false o i) (λr s₃=>wpAny (model prog w) A (letTemporaryGo value o r>>=λ_=>pure r) Q E s₃) E s₂:=by
  rw[hs o i]
  exact wpAny_operating (CB h₂ (λr s₃ h₃=>AA (wpAny_letTemporaryGo (AE h₃))) λ_ _ x=>x)
 first
  |exact AE (AA fin)
  |exact AA (AE (AA fin))
  |exact AA fin
def B7 {X:Cx}{pins:List (Addr×Obj)}{σ:St}{H:Hp}{s:Shared}{a:Addr}{y:V}{o:Option V}(I:Inv X pins σ H s)(g:DGet H a y o):s.TypeIs (.ref a) "dict":=by
 rcases g with⟨kvs,k,e,_,_⟩|⟨kvs,k,b,e,_,_,_⟩
 .obtain⟨_,_,vs,_,dd⟩:=Rk I.hok e
  exact dd.typeIs
 .obtain⟨_,_,xs,_,dd⟩:=Rl I.hok e
  exact dd.typeIs
def uq (td ty:TE):TE:=λσ H Q=>td σ H λx H1=>ty σ H1 λy H2=>∃a v,x=.ref a/\DGet H2 a y (some v)/\Q v H2
def uN (ty td:TE):TE:=λσ H Q=>ty σ H λy H1=>td σ H1 λx H2=>∃a o,x=.ref a/\DGet H2 a y o/\Q (.bl o.isSome) H2
def zk (ty td:TE):TE:=λσ H Q=>ty σ H λy H1=>td σ H1 λx H2=>∃a o,x=.ref a/\DGet H2 a y o/\Q (.bl (!o.isSome)) H2
def QP (td ty tv:TE):TS:=λD σ H=>tv σ H λv H1=>td σ H1 λx H2=>ty σ H2 λy H3=>∃a H4,x=.ref a/\DPut H3 a y v H4/\D.nx σ H4
section
variable {X:Cx}{o i e value:Expr}{pos pos' WB:Pos}{td ty tv:TE}
def zj (hu:X.A.units+1<cLine)(ho:PE X o td)(hi:PE X i ty)(hs:lW i):PE X (.Subscript o i pos) (uq td ty):=by
 intro pins s σ H Q I h
 refine zm PySem.F.slot_dict_getitem.lookup hs (Yf (ho pins s σ H _ I h) λu s1 ⟨x,H1,I1,rx,q1⟩=>Yf (hi pins s1 σ H1 _ I1 q1) λiv s2 ⟨y,H2,I2,ry,a,v,ex,g,q2⟩=>?_)
 subst ex
 obtain rfl:u=Value.ref a:=rx
 exact⟨B7 I2 g,Oc hu I2 g ry λw' s3 I3 PM=>⟨v,H2,I3,PM,q2⟩⟩
def xq (hu:X.A.units+1<cLine)(hi:PE X i ty)(ho:PE X o td):PC X .In i o (uN ty td):=by
 intro pins s σ H Q I h
 refine Yf (hi pins s σ H _ I h) λiv s1 ⟨y,H1,I1,ry,q1⟩=>Yf (ho pins s1 σ H1 _ I1 q1) λu s2 ⟨x,H2,I2,rx,a,ov,ex,g,q2⟩=>?_
 subst ex
 obtain rfl:u=Value.ref a:=rx
 exact uO hu I2 g ry λs3 I3=>⟨.bl ov.isSome,H2,I3,rfl,q2⟩
def Oe (hu:X.A.units+1<cLine)(hi:PE X i ty)(ho:PE X o td):PC X .NotIn i o (zk ty td):=by
 intro pins s σ H Q I h
 refine Yf (hi pins s σ H _ I h) λiv s1 ⟨y,H1,I1,ry,q1⟩=>Yf (ho pins s1 σ H1 _ I1 q1) λu s2 ⟨x,H2,I2,rx,a,ov,ex,g,q2⟩=>?_
 subst ex
 obtain rfl:u=Value.ref a:=rx
 exact zo hu I2 g ry λs3 I3=>⟨.bl (!ov.isSome),H2,I3,rfl,q2⟩
def Fk (hu:X.A.units+1<cLine)(ho:PE X o td)(hi:PE X i ty)(hv:PE X value tv)(hs:swapsWith value (some (.Subscript o i pos')) pos.line X.env=pure false):
  PS X (.Assign [.Subscript o i pos'] value pos) (QP td ty tv):=by
 intro pins s σ H D I h
 refine wpAny_Assign_Subscript (Yf (hv pins s σ H _ I h) λr s1 ⟨v,H1,I1,rv,q1⟩=>Yf (ho pins s1 σ H1 _ I1 q1) λu s2 ⟨x,H2,I2,rx,q2⟩=>Yf (hi pins s2 σ H2 _ I2 q2) λiv s3 ⟨y,H3,I3,ry,a,H4,ex,g,q3⟩=>?_) hs
 subst ex
 obtain rfl:u=Value.ref a:=rx
 exact Od hu I3 g ry rv λs4 I4=>⟨σ,H4,I4,q3⟩
end
def Zba {P:Program}{w:World}{H:Hp}(h:Heap)(hb:sysModules<h.objs.size):ObjOk P w H (h.push {cls:=.type "dict", data:=.dict #[]}) h.objs.size (.dT []):=
 ⟨CI _,CK.mpr (CQ (AI hb)),[],.nil,_,#[],0,AH _ rfl,⟨rfl,rfl,rfl⟩,rfl,rfl,List.nodup_nil⟩
def xo:TE:=λ_ H Q=>∀p,H p=none->Q (.ref p) (upd H p (.dT []))
section
variable {X:Cx}{pos:Pos}
def Rm:PE X (.Dict [] [] pos) xo:=λpins s σ H Q I h=>
 wpAny_Dict_empty ⟨.ref s.heap.objs.size,_,I.laid (a:=s.heap.objs.size) (o:=.dT []) (t':=s.toks) (λ_ _ q=>AB _ q) (AO _) (Zba s.heap I.big),rfl,h _ (I.hok.fresh (AO _))⟩
end
structure M2 (X:Cx) (o:Expr) (m:Str) (apos:Pos) (e f:Expr) (cpos:Pos):Prop where
 base:attributeBase o m X.env (eval o X.env)=eval o X.env
 few:((backTo cpos (starEach [e,f] X.env)).all (λx=>!x.1)&&(backToKw cpos (keywordEach [] X.env)).all (λx=>x.1.isSome)
  && decide (([e,f]:List Expr).length+([]:List Keyword).length+(if([]:List Keyword).isEmpty then 0 else 1)<30))=true
 line:(apos.endLine==cpos.line)=true
 trees:backTo cpos (starEach [e,f] X.env)=[(false,eval e X.env),(false,eval f X.env)]
def iW (H:Hp)(a:Addr):Prop:=(∃kvs,Rd H a (.dK kvs))\/∃kvs,Rd H a (.dT kvs)
def nj {X:Cx}{pins:List (Addr×Obj)}{σ:St}{H:Hp}{s:Shared}{a:Addr}(I:Inv X pins σ H s)(d:iW H a):
  s.TypeIs (.ref a) "dict"/\(∀b,Value.ref a=.ref b->∃ob,s.heap.get? b=some ob/\ob.dict=none)/\(a==sysModules)=false:=by
 rcases d with⟨kvs,e⟩|⟨kvs,e⟩
 .obtain⟨_,hd,vs,_,dd⟩:=Rk I.hok e
  refine⟨dd.typeIs,λb q=>?_,hd⟩
  cases q
  obtain⟨ob,_,_,h1,h2,_⟩:=dd
  exact⟨ob,h1,h2.2.1⟩
 .obtain⟨_,hd,xs,_,dd⟩:=Rl I.hok e
  refine⟨dd.typeIs,λb q=>?_,hd⟩
  cases q
  obtain⟨ob,_,_,h1,h2,_⟩:=dd
  exact⟨ob,h1,h2.2.1⟩
section
variable {X:Cx}{pins:List (Addr×Obj)}{σ:St}{H:Hp}{s:Shared}{a:Addr}{y d:V}{u r:Value}{o:Option V}{A:Around}{E:Value->Shared->Prop}
def xm {Q:Value->Shared->Prop}(hu:A.units+1<cLine)(I:Inv X pins σ H s)(g:DGet H a y o)(ry:RelV y u)(rd:RelV d r)(h:∀w' s',Inv X pins σ H s'->RelV (o.getD d) w'->Q w' s'):
  wpAny (model X.prog X.w) A (call (.builtin "dict.get") [.ref a,u,r]) Q E s:=by
 rcases g with⟨kvs,k,e,ey,l⟩|⟨kvs,k,b,e,ey,eb,l⟩
 .subst ey
  obtain⟨z,hd,vs,rel,dd⟩:=Rk I.hok e
  refine KW GJ dd.typeIs IY (IQ _ _ _) (meets_dict_get_default (Yw X.prog X.w) a (Tw ry) hd r) ⟨_,dd.mapOf,h _ _ (I.tok _) ?_⟩
  rw[l]
  exact(rel.val k).getD rd
 .subst ey
  cases (show u=Value.ref b from ry)
  obtain⟨z,hd,xs,rel,dd⟩:=Rl I.hok e
  refine KW GJ dd.typeIs IY (IQ _ _ _) (meetsH_dict_get_default (tupleKind (Yw X.prog X.w)) a b hd r) ⟨Do hu,k,xs,Wa I.hok eb,dd,h _ _ (I.tok _) ?_⟩
  rw[l]
  exact(rel.val k).getD rd
end
def xj (td ty tx:TE):TE:=λσ H Q=>td σ H λx H1=>∃a,x=.ref a/\iW H1 a/\ty σ H1 λy H2=>tx σ H2 λz H3=>∃o,DGet H3 a y o/\Q (o.getD z) H3
section
variable {X:Cx}{o e f:Expr}{apos cpos:Pos}{td ty tx:TE}
def Zbc (hu:X.A.units+1<cLine)(ho:PE X o td)(he:PE X e ty)(hf:PE X f tx) (m:M2 X o "get" apos e f cpos):PE X (.Call (.Attribute o "get" apos) [e,f] [] cpos) (xj td ty tx):=by
 intro pins s σ H Q I h
 refine wpAny_Call_method m.base m.few m.line IL GJ PySem.F.type_dict_get (Yf (ho pins s σ H _ I h) λu s1 ⟨x,H1,I1,rx,a,ex,d,q1⟩=>?_)
 subst ex
 obtain rfl:u=Value.ref a:=rx
 obtain⟨t1,t2,_⟩:=nj I1 d
 refine⟨t1,t2,?_⟩
 rw[m.trees]
 refine GR rfl (HH (EZ (Yf (he pins s1 σ H1 _ I1 q1) λiv s2 ⟨y,H2,I2,ry,q2⟩=>
  EZ (Yf (hf pins s2 σ H2 _ I2 q2) λfv s3 ⟨z,H3,I3,rz,ov,g,q3⟩=>HZ ?_))))
 exact xm hu I3 g ry rz λw' s4 I4 PM=>⟨_,H3,I4,PM,q3⟩
end
end L2
namespace Att
open PySem PySem.W PySem.Calls PyProof.Rows
def Pi {P:Params}{h:Heap}:∀(ns:List Int) (vs:List Value),WellAll P h vs (ns.map WData.int)->IntsAre vs ns:=by
 intro ns
 induction ns with
 |nil=>
  intro vs w
  rw[FH] at w
  cases w
  exact .nil
 |cons n ns ih=>
  intro vs w
  rw[BA] at w
  cases w with
  |cons a b=>
   cases a
   exact .cons _ _ (ih _ b)
def Of {l:OpenLaw}{n:Nat}(hn:l.most=some n){P:Params}{h:Heap}{args:List WData}{vals:List Value}(WM:l.row.toRowW.claim.pre args=true)(fq:WellAll P h vals args):
  ∃a vs ns,vals=[Value.ref a]/\args=[WData.list (ns.map WData.int)]/\h.get? a=some {cls:=.type "list", data:=.seq vs.toArray}/\IntsAre vs ns/\ns.length<=n:=by
 have qG:WShape.hasAll [] args [.list .int]=true:=(pre_splitW WM).1
 have hc:l.pre.holds [] {args:=args}=true:=(pre_splitW WM).2
 obtain⟨d,r,rfl,h1,h2⟩:=hasAllW_cons qG
 obtain rfl:=hasAllW_nil h2
 obtain⟨xs,rfl,h3⟩:=hasW_list h1
 obtain⟨ns,rfl⟩:=items_int h3
 have hlen:ns.length<=n:=by
  unfold OpenLaw.pre at hc
  have h4:(WTm.not (.lt (.lit (.int (n:Int))) (.len (.arg 0)))).holds [] {args:=[.list (ns.map .int)]}=true:=by
   have h4:=(holds_andW hc).1
   rw[hn] at h4
   exact h4
  have h5:=condW_of h4 (w_not (w_lt w_lit (w_len_list (w_arg rfl))))
  rw[BM] at h5
  refine FU λq=>?_
  have q':(n:Int)<((ns.length:Nat):Int):=by omega
  first
   |(rw[AS q'] at h5;exact absurd h5 (by decide))
   |(simp at h5;omega)
 cases fq with
 |cons w1 w2=>
  cases w2
  cases w1 with
  |list ho hall=>exact⟨_,_,ns,rfl,rfl,ho,Pi ns _ hall,hlen⟩
def Og (l:OpenLaw)(args:List WData):l.row.toRowW.claim.post args (.bool true) args=true:=
 postW_of (r:=l.row.toRowW) (X:=(true==true))
  (show WShape.has [] (.bool true) .bool=true by first|rfl|decide|simp[WShape.has,WShape.arms,WShape.armsAll])
  (show(WTm.eq .res (.lit (.bool true))).value [] {args:=args,res:=some (.bool true),after:=args}=some (.bool (true==true)) from w_eq_bool (w_res rfl) w_lit) rfl
def attach_call {l:OpenLaw}{n:Nat}{q:Program}{loose:List Str}{XP:(Str->Option Value)->Heap->Prop}{YP:World->Heap->Prop}{d:DefRec}(hn:l.most=some n)(bZ:d.params.defaults=[])
  (call:∀(w:World) (s₀ s₁:Shared) (mg mb:Str->Option Value) (fa:Addr) (o:Obj) (pm cd doc:Value) (a:Addr) (vs:List Value) (ns:List Int),
   Ground q loose [] XP w s₀ mg mb s₁.heap->YP w s₁.heap ->
   s₁.heap.get? fa=some o->o.data=.func (docDef d.name d.params d.body d.scope pm cd doc)->s₁.heap.CodeRec cd d.name->mg d.name=some (.ref fa) ->
   s₁.heap.get? a=some {cls:=.type "list", data:=.seq vs.toArray}->IntsAre vs ns->ns.length<=n->s₁.gens=#[] ->
   codeAny (model l.prog w) callerA (.call (.ref fa) ⟨[.ref a],[]⟩) (λr s'=>r=.ok (.ret (.bool true))/\OldK s₁.heap s'.heap/\s'.os=s₁.os/\AllBare s'.gens) s₁):
  WalkO q loose XP YP l.row.toRowW d [] (λf vs=>PySem.call f vs):=by
 intro w s₀ s₁ mg mb G Y fa o pm cd doc dV kV ho hd MV hD hmg hg args vals as WM qS hrd fq hlo
 obtain rfl:dV=.none:=Dflts.none hD bZ
 obtain rfl:kV=.none:=Dflts.noKw hD
 obtain⟨a,vs,ns,rfl,rfl,YZ,hints,hlen⟩:=Of hn WM fq
 refine enter_call (FC (call w s₀ s₁ mg mb fa o pm cd doc a vs ns G Y ho (fd_plain hd) MV hmg YZ hints hlen hg) λr s' hq=>?_)
 obtain⟨rfl,h2,h3,h4⟩:=hq
 exact⟨.inl ⟨.bool true,.bool true,[],rfl,λ_=>rfl,.bool true,Og l _,λ_=>⟨List.Pairwise.nil,λ_ hm=>(nomatch hm)⟩⟩,h2,h3,h4⟩
end Att
namespace L2
open PySem PySem.Spec PyProof.Rows
theorem Gv:∀{vs:List Value}{ns:List Int},IntsAre vs ns->Vals (ns.map V.int) vs
 |_,_,.nil=>.nil
 |_,_,.cons n t h=>.cons ⟨t,rfl⟩ (Gv h)
def ie (H:Hp):Prop:=∀b,H b=none\/∃o xs,H b=some (.frz o (.lst xs))
def Zbd {P:Program}{w:World}{K:PySem.W.Frag}{mg mb:Str->Option Value}{CX:VL}{k:Nat}{fa a:Addr}{fd:FuncData}{x:Str}{sp:Sp}{s₁:Shared}{vs:List Value}{ns:List Int}(KX:K.In s₁.heap)(SY:s₁.heap.Ns mainGlobals mg)(hb:s₁.heap.Ns builtinsNs mb) (rB:∀x:Str,x ≠ "__name__"->mb x=bootBuiltins x) (gQ:s₁.heap.NoLimit) (hg:s₁.gens=#[])
  (ha:s₁.heap.get? a=some {cls:=.type "list", data:=.seq vs.toArray}) (hi:IntsAre vs ns) (hl:ns.length<=sizeLine) (hr:Room k callerA)
  (F:∀base:Heap,K.In base->base.Ns mainGlobals mg->MC P w K mg base CX k fa fd [x] sp) (bj:∀(s:Shared) (u:Value),BindsTo s fd ⟨[u],[]⟩ [(x,u)])
  (hsp:∀H:Hp,ie H->SqL K H a (ns.map V.int)->sp [.ref a] H (λv _=>v=.bl true) λ_ _ _=>False)
  (hCX:∀H e s',CX [] H s₁ (λ_ _ _=>False) e s'->False):
  codeAny (model P w) callerA (.call (.ref fa) ⟨[.ref a],[]⟩) (λr s'=>r=.ok (.ret (.bool true))/\OldK s₁.heap s'.heap/\s'.os=s₁.os/\AllBare s'.gens) s₁:=by
 have rv:=Gv hi
 have fX:=hi.length
 have core:∀H:Hp,ie H->SqL K H a (ns.map V.int)->HOk P w H s₁.heap->(∀b,H b≠none->b=a)->(H a≠none->K.lookup a=none) ->
   codeAny (model P w) callerA (.call (.ref fa) ⟨[.ref a],[]⟩) (λr s'=>r=.ok (.ret (.bool true))/\OldK s₁.heap s'.heap/\s'.os=s₁.os/\AllBare s'.gens) s₁:=by
  intro H hO hS hok hA hK
  have base_of:∀{b:Addr}{o:Obj},s₁.heap.get? b=some o->H b=none->(Lx s₁.heap H).get? b=some o:=λe n=>Zaq e n
  have noA:∀{b:Addr}{o:Obj}{es:Array DictEntry}{ep:Nat},s₁.heap.get? b=some o->o.data=.dict es ep->H b=none:=λ{b o es ep} e d=>by
   cases q:H b with
   |none=>rfl
   |some u=>
    have e':b=a:=hA b (by rw[q];simp)
    subst e'
    rw[ha] at e;cases e
    have d':Data.seq vs.toArray _=Data.dict es ep:=d
    cases d'
  have cy:∀{b:Addr}{m:Str->Option Value},s₁.heap.Ns b m->(Lx s₁.heap H).Ns b m:=λ{b m} ⟨o,es,ep,e,d,r⟩=>⟨o,es,ep,base_of e (noA e d),d,r⟩
  have kI:K.In (Lx s₁.heap H):=λb o e=>base_of (KX b o e) (by
   cases q:H b with
   |none=>rfl
   |some u=>
    have e':b=a:=hA b (by rw[q];simp)
    subst e'
    rw[hK (by rw[q];simp)] at e;cases e)
  have hM:Mod K mg (Lx s₁.heap H):=⟨kI,cy SY,⟨mb,cy hb,rB⟩,let ⟨mc,h1,h2⟩:=gQ;⟨mc,cy h1,h2⟩⟩
  have e0:Env0 P w K mg (Lx s₁.heap H) callerA [] s₁ H:=⟨rfl,hM,λb o e=>ze e,JA (Ir _ _),trivial,λb hb=>absurd (show b∈([]:List Addr) from hb) (by simp),hok,.of_eq hg⟩
  refine FC ((F _ kI (cy SY)).run callerA [] s₁ H ⟨[.ref a],[]⟩ [.ref a] [.ref a] _ _ hr e0 (bj s₁ (.ref a)) (.cons rfl .nil) (hsp H hO hS)) λr s' h=>?_
  cases r with
  |error e=>exact(hCX H e s' h).elim
  |ok fl=>
   cases fl with
   |next=>exact False.elim h
   |brk=>exact False.elim h
   |cont=>exact False.elim h
   |ret u=>
    obtain⟨v,H',os,bare,un,gJ,r',q⟩:=h
    have q':v=.bl true:=q
    subst q'
    obtain rfl:u=Value.bool true:=r'
    refine⟨rfl,OldK.of_keep λb o e=>?_,os,bare⟩
    cases q:H b with
    |none=>exact un.keep b o e q (by intro z;exact absurd (show b∈([]:List Addr) from z) (by simp)) (by simp)
    |some u=>
     rcases hO b with z|⟨ob,xs,z⟩
     .rw[q] at z;cases z
     .have z2:=un.frzs b ob _ z
      obtain⟨e1,_⟩:=hok b _ z
      obtain⟨e2,_⟩:=gJ b _ z2
      rw[e] at e1;cases e1
      exact e2
 cases hk:K.lookup a with
 |some o=>
  have e:=KX a o hk
  rw[ha] at e
  cases e
  refine core (λ_=>none) (λ_=>.inl rfl) (.inr ⟨_,vs.toArray,_,hk,rfl,rfl,rfl,by rw[AL,fX];exact hl,by simpa using rv⟩) (λb u z=>by have z':(none:Option HO)=some u:=z;cases z') (λb z=>absurd rfl z) λz=>absurd rfl z
 |none=>
  refine core (λb=>if b=a then some (.frz {cls:=.type "list", data:=.seq vs.toArray} (.lst (ns.map V.int))) else none) (λb=>?_) (.inl (.inr ⟨{cls:=.type "list", data:=.seq vs.toArray},AC rfl⟩)) (λb u z=>?_) (λb z=>?_) λ_=>hk
  .by_cases hb:b=a
   .exact .inr ⟨_,_,AC hb⟩
   .exact .inl (AD hb)
  .by_cases hb:b=a
   .have z':=(AC hb).symm.trans z
    cases z'
    subst hb
    exact⟨ha,by rw[BM];exact hl,vs,_,rv,ha⟩
   .have z':=(AD hb).symm.trans z
    cases z'
  .by_cases hb:b=a
   .exact hb
   .exact absurd (AD hb) z
def Ze5 {l:PySem.W.OpenLaw}{n k:Nat}{q:Program}{loose:List Str}{XP:(Str->Option Value)->Heap->Prop}{YP:World->Heap->Prop}{d:DefRec}{K:Params->PySem.W.Frag}{CX:World->VL}{sp:World->Sp}{x:Str}(hn:l.most=some n)(hn2:n<=sizeLine)(bZ:d.params.defaults=[])(hr:Room k callerA)(hY:∀(w:World) (h:Heap),YP w h->(K w.params).In h)(F:∀(w:World) (mg:Str->Option Value) (fa:Addr) (h:Heap),(K w.params).In h->h.Ns mainGlobals mg->mg d.name=some (.ref fa) ->
   ∃fd:FuncData,(∀(s:Shared) (u:Value),BindsTo s fd ⟨[u],[]⟩ [(x,u)]) /\
    ∀base:Heap,(K w.params).In base->base.Ns mainGlobals mg->MC l.prog w (K w.params) mg base (CX w) k fa fd [x] (sp w))(hsp:∀(w:World) (H:Hp) (a:Addr) (ns:List Int),ns.length<=n->ie H->SqL (K w.params) H a (ns.map V.int)->sp w [.ref a] H (λv _=>v=.bl true) λ_ _ _=>False)(hCX:∀(w:World) (H:Hp) (s:Shared) (e:Value) (s':Shared),CX w [] H s (λ_ _ _=>False) e s'->False):
  PySem.W.WalkO q loose XP YP l.row.toRowW d [] (λf vs=>PySem.call f vs):=by
 refine Att.attach_call hn bZ λw s₀ s₁ mg mb fa o pm cd doc a vs ns G Y ho hd MV hmg YZ hints hlen hg=>?_
 have KX:=hY w _ Y
 obtain⟨fd,hb,hF⟩:=F w mg fa _ KX G.T.g hmg
 exact Zbd KX G.T.g G.T.b G.T.builtins G.T.nolimit hg YZ hints (AV hlen hn2) hr hF hb (λH hO hS=>hsp w H a ns hlen hO hS) λH e s'=>hCX w H s₁ e s'
def Xz (s:Stmt):Arguments:=match s with
 |.FunctionDef _ a _ _ _ _ _ _ _ _=>a
 |_=>{posonlyargs:=[],args:=[],vararg:=none,kwonlyargs:=[],kw_defaults:=[],kwarg:=none,defaults:=[]}
def Qz (s:Stmt):List Stmt:=match s with
 |.FunctionDef _ _ b _ _ _ _ _ _ _=>b
 |_=>[]
def Zg (s:Stmt):Scope:=match s with
 |.FunctionDef _ _ _ _ _ _ sc _ _ _=>sc
 |_=>{kind:=.function,names:=[],isGenerator:=false,isCoroutine:=false}
abbrev Yi:VL:=λ_ _ _ _ _ _=>False
abbrev E0:XK:=λ_ _ _=>False
def Kf {X:Cx}:U9 Yi X E0:=λ_ _ _ _ _ _ _ h=>h.elim
structure Fun (K:PySem.W.Frag) (x qual:Str) (st:Stmt) (f:Addr) (fd:FuncData):Prop where
 ex:∃(oc:Value) (od:Option Addr) (kV doc pm:Value) (an:Option Addr) (ME ct:Value) (WD:Array (Option Value)),
  fd=PySem.W.fnOf x qual (Xz st) (Qz st) (Zg st) .none kV doc pm an ME ct/\K.lookup f=some ⟨oc,od,.func fd,WD⟩/\PySem.W.codeIn K ME qual=true
 kp:PySem.W.keepIn K (.ref f)=true
section
variable {P:Program}{w:World}{K:PySem.W.Frag}{mg:Str->Option Value}{base:Heap}
def Fun.ok {x qual:Str}{st:Stmt}{f:Addr}{fd:FuncData}{N ps:List Str}{k:Nat}{sp:Sp}(F:Fun K x qual st f fd)(S:MA N ps (Zg st))(len:∀vs H Q E,sp vs H Q E->vs.length=ps.length)(ND:∀(ME:Value) (A:Around) (outer:List Env) (s:Shared) (H:Hp) (vs:List V) (Q:VK) (E:XK),Room k (A.deeper (envOfC qual (Zg st) s.heap.objs.size f ME))->sp vs H Q E ->
   ∃t,PSs (Jl Yi P w K mg base N qual (Zg st) f ME A outer s H E).nox (Qz st) t/\t {nx:=λ_ H'=>Q .non H',rt:=Q} (Y6 N vs) H):MC P w K mg base Yi (k+1) f fd ps sp:=by
 obtain⟨oc,od,kV,doc,pm,an,ME,ct,WD,rfl,lk,MV⟩:=F.ex
 refine mZ lk MV S len λA outer s H vs Q E hr hsp=>?_
 obtain⟨t,h,q⟩:=ND ME A outer s H vs Q E hr hsp
 exact⟨t,h.nox,q⟩
def Fun.binds {x qual:Str}{st:Stmt}{f:Addr}{fd:FuncData}{ps:List Str}(F:Fun K x qual st f fd)(h:∀(kV doc pm:Value) (an:Option Addr) (ME ct:Value) (us:List Value),us.length=ps.length->bindArgs (PySem.W.fnOf x qual (Xz st) (Qz st) (Zg st) .none kV doc pm an ME ct) ⟨us,[]⟩=pure (ps.zip us)):Binds K fd ps []:=by
 obtain⟨oc,od,kV,doc,pm,an,ME,ct,WD,rfl,lk,MV⟩:=F.ex
 exact .all (h kV doc pm an ME ct)
def Dk {x qual:Str}{st:Stmt}{f:Addr}{oc:Value}{od an:Option Addr}{WD:Array (Option Value)}{kV doc pm ME ct:Value}(l:K.lookup f=some ⟨oc,od,.func (PySem.W.fnOf x qual (Xz st) (Qz st) (Zg st) .none kV doc pm an ME ct),WD⟩)(c:PySem.W.codeIn K ME qual=true)(k:PySem.W.keepIn K (.ref f)=true):Fun K x qual st f (PySem.W.fnOf x qual (Xz st) (Qz st) (Zg st) .none kV doc pm an ME ct):=⟨⟨oc,od,kV,doc,pm,an,ME,ct,WD,rfl,l,c⟩,k⟩
end
def Same (H H':Hp):Prop:=∀b o,H b=some o->H' b=some o
def Same.refl (H:Hp):Same H H:=λ_ _ h=>h
def Same.trans {H H1 H2:Hp}(a:Same H H1)(b:Same H1 H2):Same H H2:=λc o h=>b c o (a c o h)
def Same.free {H H':Hp}(e:Same H H'){l:Addr}(h:H' l=Option.none):H l=Option.none:=by
 cases q:H l with
 |none=>rfl
 |some o=>
  rw[e l o q] at h
  cases h
def Same.seq {K:PySem.W.Frag}{H H':Hp}{a:Addr}{xs:List V}(e:Same H H')(h:SqL K H a xs):SqL K H' a xs:=by
 rcases h with(h|⟨o,h⟩)|h
 .exact .inl (.inl (e _ _ h))
 .exact .inl (.inr ⟨o,e _ _ h⟩)
 .exact .inr h
end L2
namespace DL
open PySem PySem.Spec PyProof.Rows L2
inductive D where
 |non|bl (b:Bool)|int (i:Int)|str (x:Str)|tup (ds:List D)|lst (ds:List D)
structure XV where
 cls:Str
 ns:List Str
 ds:List D
inductive M (α:Type) where
 |ok (a:α)|ex (x:XV)|bad
def M.bind {α β:Type}(r:M α)(k:α->M β):M β:=match r with
 |.ok a=>k a
 |.ex x=>.ex x
 |.bad=>.bad
@[simp] theorem M.bind_ok {α β:Type}(a:α)(k:α->M β):(M.ok a).bind k=k a:=rfl
@[simp] theorem M.bind_ex {α β:Type}(x:XV)(k:α->M β):(M.ex x:M α).bind k=.ex x:=rfl
@[simp] theorem M.bind_bad {α β:Type}(k:α->M β):(M.bad:M α).bind k=.bad:=rfl
inductive S where
 |im (d:D)|ow (ds:List D)|od (kvs:List (List Q9×D))|dk (kvs:List (Q9×D))|xc (x:XV)|fn (x:Str)|ob (a:Addr) (c:Str) (r:List (Str×D))|fl (a:Addr) (hall:D) (sqs:List (List Q9×D))
def S.own:S->Bool
 |.im _=>false
 |.xc _=>false
 |.fn _=>false
 |.ob _ _ _=>false
 |.fl _ _ _=>false
 |_=>true
abbrev Zf:=List (Option S)
section
variable (K:PySem.W.Frag) (H:Hp)
mutual
def Rep:D->V->Prop
 |.non,v=>v=.non
 |.bl b,v=>v=.bl b
 |.int i,v=>v=.int i
 |.str x,v=>v=.str x
 |.tup ds,v=>∃a xs,v=.ref a/\H a=some (.tup xs)/\Reps ds xs
 |.lst ds,v=>∃a xs,v=.ref a/\SqL K H a xs/\Reps ds xs
def Reps:List D->List V->Prop
 |[],xs=>xs=[]
 |d::ds,xs=>∃x r,xs=x::r/\Rep d x/\Reps ds r
end
end
def RepKV (K:PySem.W.Frag)(H:Hp){κ:Type}:List (κ×D)->List (κ×V)->Prop:=Paired λp q=>p.1=q.1/\Rep K H p.2 q.2
def S.at (K:PySem.W.Frag)(Hf H:Hp)(p:Addr):S->Prop
 |.im _=>False
 |.xc _=>False
 |.fn _=>False
 |.ob _ _ _=>False
 |.fl _ _ _=>False
 |.ow ds=>∃xs,H p=some (.lst xs)/\Reps K Hf ds xs
 |.od kvs=>∃ys,H p=some (.dT ys)/\RepKV K Hf kvs ys
 |.dk kvs=>∃ys,H p=some (.dK ys)/\RepKV K Hf kvs ys
def _root_.L2.Same.seqT {K:PySem.W.Frag}{H H':Hp}{a:Addr}{xs:List V}(e:Same H H')(h:SqT K H a xs):SqT K H' a xs:=by
 rcases h with(h|⟨o,h⟩)|h
 .exact .inl (.inl (e _ _ h))
 .exact .inl (.inr ⟨o,e _ _ h⟩)
 .exact .inr h
section
variable {K:PySem.W.Frag}{H H':Hp}
mutual
theorem Rep.mono (e:Same H H'):∀{d:D}{v:V},Rep K H d v->Rep K H' d v
 |.non,_,h=>by unfold Rep at h ⊢;exact h
 |.bl _,_,h=>by unfold Rep at h ⊢;exact h
 |.int _,_,h=>by unfold Rep at h ⊢;exact h
 |.str _,_,h=>by unfold Rep at h ⊢;exact h
 |.tup ds,_,h=>by
  unfold Rep at h ⊢
  obtain⟨a,xs,e1,e2,e3⟩:=h
  exact⟨a,xs,e1,e _ _ e2,Reps.mono e e3⟩
 |.lst ds,_,h=>by
  unfold Rep at h ⊢
  obtain⟨a,xs,e1,e2,e3⟩:=h
  exact⟨a,xs,e1,e.seq e2,Reps.mono e e3⟩
theorem Reps.mono (e:Same H H'):∀{ds:List D}{xs:List V},Reps K H ds xs->Reps K H' ds xs
 |[],_,h=>by unfold Reps at h ⊢;exact h
 |d::ds,_,h=>by
  unfold Reps at h ⊢
  obtain⟨x,r,e1,e2,e3⟩:=h
  exact⟨x,r,e1,Rep.mono e e2,Reps.mono e e3⟩
end
def rep_non {v:V}:Rep K H .non v↔v=.non:=by unfold Rep;exact GM
def rep_bl {b:Bool}{v:V}:Rep K H (.bl b) v↔v=.bl b:=by unfold Rep;exact GM
def rep_int {i:Int}{v:V}:Rep K H (.int i) v↔v=.int i:=by unfold Rep;exact GM
def rep_str {x:Str}{v:V}:Rep K H (.str x) v↔v=.str x:=by unfold Rep;exact GM
def rep_tup {ds:List D}{v:V}:Rep K H (.tup ds) v↔∃a xs,v=.ref a/\H a=some (.tup xs)/\Reps K H ds xs:=by rw[Rep]
def Qg {ds:List D}{v:V}(h:Rep K H (.tup ds) v):∃a xs,v=.ref a/\SqT K H a xs/\Reps K H ds xs:=by
 obtain⟨a,xs,e1,e2,e3⟩:=rep_tup.mp h
 exact⟨a,xs,e1,SqT.of e2,e3⟩
def rep_lst {ds:List D}{v:V}:Rep K H (.lst ds) v↔∃a xs,v=.ref a/\SqL K H a xs/\Reps K H ds xs:=by rw[Rep]
def reps_nil {xs:List V}:Reps K H [] xs↔xs=[]:=by rw[Reps]
def reps_cons {d:D}{ds:List D}{xs:List V}:Reps K H (d::ds) xs↔∃x r,xs=x::r/\Rep K H d x/\Reps K H ds r:=by rw[Reps]
def Reps.nil:Reps K H [] []:=reps_nil.mpr rfl
def Reps.cons {d:D}{ds:List D}{x:V}{xs:List V}(h:Rep K H d x)(t:Reps K H ds xs):Reps K H (d::ds) (x::xs):=reps_cons.mpr ⟨x,xs,rfl,h,t⟩
theorem Reps.length:∀{ds:List D}{xs:List V},Reps K H ds xs->ds.length=xs.length
 |[],_,h=>by rw[reps_nil.mp h];rfl
 |d::ds,_,h=>by
  obtain⟨x,r,rfl,_,t⟩:=reps_cons.mp h
  rw[AW,AW,Reps.length t]
theorem Reps.get:∀{ds:List D}{xs:List V}{i:Nat}{d:D},Reps K H ds xs->ds[i]?=some d->∃x,xs[i]?=some x/\Rep K H d x
 |[],_,_,_,_,e=>by simp at e
 |_::ds,_,0,_,h,e=>by
  obtain⟨x,r,rfl,q,t⟩:=reps_cons.mp h
  simp at e;subst e;exact⟨x,rfl,q⟩
 |_::ds,_,i+1,_,h,e=>by
  obtain⟨x,r,rfl,q,t⟩:=reps_cons.mp h
  obtain⟨y,e1,e2⟩:=Reps.get (i:=i) t (by simpa using e)
  exact⟨y,by simpa using e1,e2⟩
theorem Reps.append:∀{ds es:List D}{xs ys:List V},Reps K H ds xs->Reps K H es ys->Reps K H (ds++es) (xs++ys)
 |[],_,_,_,h,t=>by rw[reps_nil.mp h];exact t
 |_::ds,_,_,_,h,t=>by
  obtain⟨x,r,rfl,q,u⟩:=reps_cons.mp h
  exact .cons q (Reps.append u t)
theorem Reps.take:∀{ds:List D}{xs:List V} (n:Nat),Reps K H ds xs->Reps K H (ds.take n) (xs.take n)
 |_,_,0,_=>by simpa using Reps.nil
 |[],_,n+1,h=>by rw[reps_nil.mp h];simpa using Reps.nil
 |_::ds,_,n+1,h=>by
  obtain⟨x,r,rfl,q,u⟩:=reps_cons.mp h
  exact .cons q (Reps.take n u)
theorem Reps.drop:∀{ds:List D}{xs:List V} (n:Nat),Reps K H ds xs->Reps K H (ds.drop n) (xs.drop n)
 |_,_,0,h=>by simpa using h
 |[],_,n+1,h=>by rw[reps_nil.mp h];simpa using Reps.nil
 |_::ds,_,n+1,h=>by
  obtain⟨x,r,rfl,q,u⟩:=reps_cons.mp h
  exact Reps.drop n u
def Reps.none_of {ds:List D}{xs:List V}{i:Nat}(h:Reps K H ds xs)(e:ds[i]?=none):xs[i]?=none:=by
 have:=h.length
 rw[BH] at e ⊢
 lia
end
theorem RepKV.mono {K:PySem.W.Frag}{H H':Hp}(e:Same H H'){κ:Type}{a:List (κ×D)}{b:List (κ×V)}(r:RepKV K H a b):RepKV K H' a b:=Paired.mapP r λ_ _ q=>⟨q.1,q.2.mono e⟩
def Me {K:PySem.W.Frag}{Hf H:Hp}{p:Addr}{s:S}(h:S.at K Hf H p s):∃o,H p=some o:=by
 cases s with
 |im d=>exact h.elim
 |xc x=>exact h.elim
 |fn x=>exact h.elim
 |ob a c r=>exact h.elim
 |fl a g q=>exact h.elim
 |ow ds=>obtain⟨xs,e,_⟩:=h;exact⟨_,e⟩
 |od kvs=>obtain⟨ys,e,_⟩:=h;exact⟨_,e⟩
 |dk kvs=>obtain⟨ys,e,_⟩:=h;exact⟨_,e⟩
def Vf {K:PySem.W.Frag}{Hf LZ H H':Hp}{p:Addr}{s:S}(h:S.at K Hf H p s)(e:Same Hf LZ)(q:∀o,H p=some o->H' p=some o):S.at K LZ H' p s:=by
 cases s with
 |im d=>exact h.elim
 |xc x=>exact h.elim
 |fn x=>exact h.elim
 |ob a c r=>exact h.elim
 |fl a g q=>exact h.elim
 |ow ds=>obtain⟨xs,e1,e2⟩:=h;exact⟨xs,q _ e1,e2.mono e⟩
 |od kvs=>obtain⟨ys,e1,e2⟩:=h;exact⟨ys,q _ e1,e2.mono e⟩
 |dk kvs=>obtain⟨ys,e1,e2⟩:=h;exact⟨ys,q _ e1,e2.mono e⟩
def XO (a:Addr)(C:Addr)(dx:Option Addr):HO:=.ext λh=>∃oe vs,h.get? a=some oe/\oe.cls=.ref C/\oe.dict=dx/\oe.data=.fields vs
def XF (Hf:Hp)(ns:List Str)(xs:List V):Option Addr->Prop
 |none=>ns=[]/\xs=[]
 |some dx=>Hf dx=some (.xd (ns.zip xs))/\ns.length=xs.length
def XF.mono {H H':Hp}(e:Same H H'){ns:List Str}{xs:List V}:∀{dx:Option Addr},XF H ns xs dx->XF H' ns xs dx
 |none,h=>h
 |some _,h=>⟨e _ _ h.1,h.2⟩
def RepE (K:PySem.W.Frag)(Hf:Hp)(x:XV)(v:V):Prop:=
 ∃a C dx xs,v=.ref a/\Hf a=some (XO a C dx)/\PySem.W.nsIn K mainGlobals x.cls=some (some (.ref C))/\XF Hf x.ns xs dx/\Reps K Hf x.ds xs
theorem RepE.mono {K:PySem.W.Frag}{H H':Hp}(e:Same H H'){x:XV}{v:V}(h:RepE K H x v):RepE K H' x v:=by
 obtain⟨a,C,dx,xs,e1,e2,e3,e4,e5⟩:=h
 exact⟨a,C,dx,xs,e1,e _ _ e2,e3,e4.mono e,e5.mono e⟩
def RepO (K:PySem.W.Frag)(Hf:Hp)(a:Addr)(c:Str)(r:List (Str×D))(v:V):Prop:=∃C dx gs,v=.ref a/\PySem.W.nsIn K mainGlobals c=some (some (.ref C))/\Hf a=some (.ins C dx gs)/\RepKV K Hf r gs
theorem RepO.mono {K:PySem.W.Frag}{H H':Hp}(e:Same H H'){a:Addr}{c:Str}{r:List (Str×D)}{v:V}(h:RepO K H a c r v):RepO K H' a c r v:=by
 obtain⟨C,dx,gs,e1,e2,e3,e4⟩:=h
 exact⟨C,dx,gs,e1,e2,e _ _ e3,e4.mono e⟩
structure FlG (K:PySem.W.Frag) (Hf:Hp) (g:D) (d q:Addr) (gs:List (Str×V)):Prop where
 hall:∃v,gs.lookup ("hall":Str)=some v/\Rep K Hf g v
 sq:gs.lookup ("by_square":Str)=some (.ref d)
 kn:gs.lookup ("known_faces":Str)=some (.ref q)
 m1:gs.lookup ("people_at":Str)=none
 m2:gs.lookup ("faces_at":Str)=none
theorem FlG.mono {K:PySem.W.Frag}{H H':Hp}(e:Same H H'){g:D}{d q:Addr}{gs:List (Str×V)}(h:FlG K H g d q gs):FlG K H' g d q gs:=⟨let ⟨v,e1,e2⟩:=h.hall;⟨v,e1,e2.mono e⟩,h.sq,h.kn,h.m1,h.m2⟩
def RepFl (K:PySem.W.Frag)(Hf:Hp)(a:Addr)(g:D)(q:List (List Q9×D))(v:V):Prop:=∃C dx gs d k ys,v=.ref a/\PySem.W.nsIn K mainGlobals "Floor"=some (some (.ref C))/\Hf a=some (.ins C dx gs)/\FlG K Hf g d k gs/\Hf d=some (.dT ys)/\RepKV K Hf q ys
theorem RepFl.mono {K:PySem.W.Frag}{H H':Hp}(e:Same H H'){a:Addr}{g:D}{q:List (List Q9×D)}{v:V}(h:RepFl K H a g q v):RepFl K H' a g q v:=by
 obtain⟨C,dx,gs,d,k,ys,e1,e2,e3,e4,e5,e6⟩:=h
 exact⟨C,dx,gs,d,k,ys,e1,e2,e _ _ e3,e4.mono e,e _ _ e5,e6.mono e⟩
def RepS (K:PySem.W.Frag)(Hf:Hp):S->V->Prop
 |.im d,v=>Rep K Hf d v
 |.xc x,v=>RepE K Hf x v
 |.fn x,v=>∃a,v=.ref a/\PySem.W.nsIn K mainGlobals x=some (some (.ref a))
 |.ob a c r,v=>RepO K Hf a c r v
 |.fl a g q,v=>RepFl K Hf a g q v
 |_,_=>True
theorem RepS.mono {K:PySem.W.Frag}{H H':Hp}(e:Same H H'){t:S}{v:V}(h:RepS K H t v):RepS K H' t v:=by
 cases t with
 |im d=>exact Rep.mono e h
 |xc x=>exact RepE.mono e h
 |fn x=>exact h
 |ob a c r=>exact RepO.mono e h
 |fl a g q=>exact RepFl.mono e h
 |_=>trivial
def Lv (H:Hp)(a:Addr):Prop:=∃o,H a=some o/\∀xs,o≠.tup xs
def Lv.nn {H:Hp}{a:Addr}(h:Lv H a):H a≠none:=by
 obtain⟨o,e,_⟩:=h
 rw[e];simp
theorem Lv.lst {H:Hp}{a:Addr}{xs:List V}(e:H a=some (.lst xs)):Lv H a:=⟨_,e,λ_ q=>by cases q⟩
def _root_.L2.Same.lv {H H':Hp}(e:Same H H'){a:Addr}(h:Lv H a):Lv H' a:=let ⟨o,q,n⟩:=h;⟨o,e a o q,n⟩
def mJ {K:PySem.W.Frag}{Hf H:Hp}{p:Addr}{s:S}(h:S.at K Hf H p s):Lv H p:=by
 cases s with
 |im d=>exact h.elim
 |xc x=>exact h.elim
 |fn x=>exact h.elim
 |ob a c r=>exact h.elim
 |fl a g q=>exact h.elim
 |ow ds=>obtain⟨xs,e,_⟩:=h;exact⟨_,e,λ_ q=>by cases q⟩
 |od kvs=>obtain⟨xs,e,_⟩:=h;exact⟨_,e,λ_ q=>by cases q⟩
 |dk kvs=>obtain⟨xs,e,_⟩:=h;exact⟨_,e,λ_ q=>by cases q⟩
structure Gr (Hf H LZ H':Hp):Prop where
 fz:Same Hf LZ
 sub:Same LZ H'
 all:Same H H'
 ban:∀a,Lv H a->Hf a=none->LZ a=none
theorem Gr.refl {Hf H:Hp}(h:Same Hf H):Gr Hf H Hf H:=⟨Same.refl _,h,Same.refl _,λ_ _ e=>e⟩
def _root_.L2.Same.ne {H H':Hp}(e:Same H H'){a:Addr}(h:H a≠none):H' a≠none:=by
 cases q:H a with
 |none=>exact absurd q h
 |some o=>rw[e a o q];simp
theorem Gr.trans {Hf H MB H1 MI H2:Hp}(a:Gr Hf H MB H1)(b:Gr MB H1 MI H2):Gr Hf H MI H2:=
 ⟨a.fz.trans b.fz,b.sub,a.all.trans b.all,λc h e=>b.ban c (a.all.lv h) (a.ban c h e)⟩
def Qa {H:Hp}{p:Addr}(h:H p=none)(o:HO):Same H (upd H p o):=λb u q=>by rw[Zl (Zt q h)];exact q
theorem _root_.L2.Same.upd {Hf H:Hp}(e:Same Hf H)(p:Addr)(o:HO):Same (L2.upd Hf p o) (L2.upd H p o):=λb u q=>by
 by_cases hb:b=p
 .subst hb;rw[Zo] at q ⊢;exact q
 .rw[Zl hb] at q ⊢;exact e b u q
def Gr.alloc {Hf H:Hp}(e:Same Hf H){p:Addr}(h:H p=none)(o:HO):Gr Hf H (upd Hf p o) (upd H p o):=
 ⟨Qa (e.free h) o,Same.upd e p o,Qa h o,λa ha ea=>by
  have:a≠p:=λz=>ha.nn (z▸h)
  rw[Zl this];exact ea⟩
structure SR (K:PySem.W.Frag) (H0:Hp) (B:Addr->Prop) (Hf:Hp) (sd:Zf) (σ:L2.St) (H:Hp):Prop where
 sub:Same Hf H
 all:Same H0 H
 ban:∀a,B a->Hf a=none
 bt:∀a,B a->Lv H0 a
 len:sd.length=σ.length
 imS:∀(i:Nat) (t:S),sd[i]?=some (some t)->t.own=false->∃v,σ[i]?=some (some v)/\RepS K Hf t v
 ow:∀(i:Nat) (t:S),sd[i]?=some (some t)->t.own=true->∃p,σ[i]?=some (some (.ref p))/\H0 p=none/\Hf p=none/\S.at K Hf H p t
 sep:∀(i j:Nat) (t u:S) (p:Addr),i≠j->sd[i]?=some (some t)->t.own=true->sd[j]?=some (some u)->u.own=true->σ[i]?=some (some (.ref p))->σ[j]?=some (some (.ref p))->False
section
variable {K:PySem.W.Frag}{H0 Hf LZ H H':Hp}{B:Addr->Prop}{sd:Zf}{σ:L2.St}
theorem SR.im (r:SR K H0 B Hf sd σ H):∀(i:Nat) (d:D),sd[i]?=some (some (.im d))->∃v,σ[i]?=some (some v)/\Rep K Hf d v:=λi _ e=>r.imS i _ e rfl
def SR.gr (r:SR K H0 B Hf sd σ H)(g:Gr Hf H LZ H'):SR K H0 B LZ sd σ H' where
 sub:=g.sub
 all:=r.all.trans g.all
 ban:=λa h=>g.ban a (r.all.lv (r.bt a h)) (r.ban a h)
 bt:=r.bt
 len:=r.len
 imS:=λi d e z=>let ⟨v,e1,e2⟩:=r.imS i d e z;⟨v,e1,e2.mono g.fz⟩
 ow:=λi t e ho=>by
  obtain⟨p,e1,e2,e3,e4⟩:=r.ow i t e ho
  obtain⟨o,eo⟩:=Me e4
  exact⟨p,e1,e2,g.ban p (mJ e4) e3,Vf e4 g.fz λo h=>g.all _ _ h⟩
 sep:=r.sep
def SR.set_st (r:SR K H0 B Hf sd σ H)(i:Nat){d:S}{v:V}(hd:d.own=false)(h:RepS K Hf d v):SR K H0 B Hf (sd.set i (some d)) (σ.set i (some v)) H where
 sub:=r.sub
 all:=r.all
 ban:=r.ban
 bt:=r.bt
 len:=by rw[CA,CA];exact r.len
 imS:=λj d' e z=>by
  by_cases hj:i=j
  .subst hj
   have hi:i<sd.length:=by
    have:=(AG.mp e).1;simpa using this
   rw[AK hi] at e
   cases e
   exact⟨v,by rw[AK (by rw[<-r.len];exact hi)],h⟩
  .rw[AF hj] at e ⊢
   exact r.imS j d' e z
 ow:=λj t e ho=>by
  by_cases hj:i=j
  .subst hj
   have hi:i<sd.length:=by
    have:=(AG.mp e).1;simpa using this
   rw[AK hi] at e
   cases e
   rw[hd] at ho;cases ho
  .rw[AF hj] at e ⊢
   exact r.ow j t e ho
 sep:=λj k t u p hjk e1 o1 e2 o2 e3 e4=>by
  have ne:∀{l:Nat}{fs:S},(sd.set i (some d))[l]?=some (some fs)->fs.own=true->i≠l:=λ{l fs} e o z=>by
   subst z
   have hi:i<sd.length:=by
    have:=(AG.mp e).1;simpa using this
   rw[AK hi] at e
   cases e
   rw[hd] at o;cases o
  have n1:=ne e1 o1
  have n2:=ne e2 o2
  rw[AF n1] at e1 e3
  rw[AF n2] at e2 e4
  exact r.sep j k t u p hjk e1 o1 e2 o2 e3 e4
def SR.set_im (r:SR K H0 B Hf sd σ H)(i:Nat){d:D}{v:V}(h:Rep K Hf d v):SR K H0 B Hf (sd.set i (some (.im d))) (σ.set i (some v)) H:=r.set_st (d:=.im d) i rfl h
def SR.set_own (r:SR K H0 B Hf sd σ H)(i:Nat){p:Addr}{o:HO}{t:S}(hp:H p=none)(ho:t.own=true)(h:S.at K Hf (upd H p o) p t):SR K H0 B Hf (sd.set i (some t)) (σ.set i (some (.ref p))) (upd H p o) where
 sub:=r.sub.trans (Qa hp _)
 all:=r.all.trans (Qa hp _)
 ban:=r.ban
 bt:=r.bt
 len:=by rw[CA,CA];exact r.len
 imS:=λj d' e z=>by
  by_cases hj:i=j
  .subst hj
   have hi:i<sd.length:=by
    have:=(AG.mp e).1;simpa using this
   rw[AK hi] at e
   cases e
   rw[ho] at z;cases z
  .rw[AF hj] at e ⊢
   exact r.imS j d' e z
 ow:=λj u e hu=>by
  by_cases hj:i=j
  .subst hj
   have hi:i<sd.length:=by
    have:=(AG.mp e).1;simpa using this
   rw[AK hi] at e
   cases e
   exact⟨p,by rw[AK (by rw[<-r.len];exact hi)],r.all.free hp,r.sub.free hp,h⟩
  .rw[AF hj] at e ⊢
   obtain⟨q,e1,e2,e3,e4⟩:=r.ow j u e hu
   exact⟨q,e1,e2,e3,Vf e4 (Same.refl _) λo h=>Qa hp _ _ _ h⟩
 sep:=λj k u w q hjk e1 o1 e2 o2 e3 e4=>by
  have new:∀{l:Nat},i=l->(σ.set i (some (V.ref p)))[l]?=some (some (.ref q))->q=p:=λ{l} z e=>by
   subst z
   have hi:i<σ.length:=by
    have:=(AG.mp e).1;simpa using this
   rw[AK hi] at e
   cases e;rfl
  have old:∀{l:Nat}{u:S},i≠l->(sd.set i (some t))[l]?=some (some u)->u.own=true->(σ.set i (some (V.ref p)))[l]?=some (some (.ref q))->q≠p:=λ{l u} n e ou z=>by
   rw[AF n] at e z
   obtain⟨q',e1,_,_,e4⟩:=r.ow l u e ou
   rw[z] at e1
   cases e1
   obtain⟨o,eo⟩:=Me e4
   exact Zt eo hp
  by_cases n1:i=j
  .have n2:i≠k:=λz=>hjk (n1.symm.trans z)
   exact old n2 e2 o2 e4 (new n1 e3)
  .by_cases n2:i=k
   .exact old n1 e1 o1 e3 (new n2 e4)
   .rw[AF n1] at e1 e3
    rw[AF n2] at e2 e4
    exact r.sep j k u w q hjk e1 o1 e2 o2 e3 e4
def SR.change (r:SR K H0 B Hf sd σ H){i:Nat}{p:Addr}{o:HO}{t u:S}(ht:sd[i]?=some (some t))(ot:t.own=true)(hi:σ[i]?=some (some (.ref p)))(ou:u.own=true)(h:S.at K Hf (upd H p o) p u):SR K H0 B Hf (sd.set i (some u)) σ (upd H p o):=by
 obtain⟨p',z1,z2,z3,z4⟩:=r.ow i t ht ot
 rw[hi] at z1
 cases z1
 have hl:i<sd.length:=(AG.mp ht).1
 have back:∀{j:Nat}{w:S},i≠j->(sd.set i (some u))[j]?=some (some w)->sd[j]?=some (some w):=λ{j w} n e=>by rwa[AF n] at e
 refine⟨λb v q=>?_,λb v q=>?_,r.ban,r.bt,by rw[CA];exact r.len,λj d e z=>?_,λj w e ow=>?_,λj k w x q hjk e1 o1 e2 o2 e3 e4=>?_⟩
 .rw[Zl (Zt q z3)];exact r.sub b v q
 .rw[Zl (Zt q z2)];exact r.all b v q
 .by_cases n:i=j
  .subst n
   rw[AK hl] at e
   cases e
   rw[ou] at z;cases z
  .exact r.imS j d (back n e) z
 .by_cases n:i=j
  .subst n
   rw[AK hl] at e
   cases e
   exact⟨p,hi,z2,z3,h⟩
  .obtain⟨q,e1,e2,e3,e4⟩:=r.ow j w (back n e) ow
   refine⟨q,e1,e2,e3,Vf e4 (Same.refl _) λo' h'=>?_⟩
   have:q≠p:=λz=>by
    subst z
    exact r.sep i j t w q n ht ot (back n e) ow hi e1
   rw[Zl this];exact h'
 .have get:∀{l:Nat}{w:S},(sd.set i (some u))[l]?=some (some w)->w.own=true->∃w',sd[l]?=some (some w')/\w'.own=true:=λ{l w} e ow=>by
   by_cases n:i=l
   .subst n;exact⟨t,ht,ot⟩
   .exact⟨w,back n e,ow⟩
  obtain⟨w',a1,a2⟩:=get e1 o1
  obtain⟨x',b1,b2⟩:=get e2 o2
  exact r.sep j k w' x' q hjk a1 a2 b1 b2 e3 e4
def SR.freeze (r:SR K H0 B Hf sd σ H){i:Nat}{ds:List D}(ht:sd[i]?=some (some (.ow ds))):∃LZ,Same Hf LZ/\SR K H0 B LZ (sd.set i (some (.im (.lst ds)))) σ H:=by
 obtain⟨p,z1,z2,z3,xs,z4,z5⟩:=r.ow i _ ht rfl
 have hl:i<sd.length:=(AG.mp ht).1
 have back:∀{j:Nat}{w:S},i≠j->(sd.set i (some (S.im (.lst ds))))[j]?=some (some w)->sd[j]?=some (some w):=λ{j w} n e=>by rwa[AF n] at e
 have sm:=Qa z3 (.lst xs)
 refine⟨upd Hf p (.lst xs),sm,λb v q=>?_,r.all,λa h=>?_,r.bt,by rw[CA];exact r.len,λj d e z=>?_,λj w e ow=>?_,λj k w x q hjk e1 o1 e2 o2 e3 e4=>?_⟩
 .by_cases hb:b=p
  .subst hb;rw[Zo] at q;rw[z4];exact q
  .rw[Zl hb] at q;exact r.sub b v q
 .have:a≠p:=λz=>(r.bt a h).nn (z▸z2)
  rw[Zl this];exact r.ban a h
 .by_cases n:i=j
  .subst n
   rw[AK hl] at e
   cases e
   exact⟨_,z1,(rep_lst.mpr ⟨p,xs,rfl,SqL.of Zo,z5.mono sm⟩:Rep K _ (.lst ds) _)⟩
  .obtain⟨v,e1,e2⟩:=r.imS j d (back n e) z
   exact⟨v,e1,e2.mono sm⟩
 .by_cases n:i=j
  .subst n
   rw[AK hl] at e
   cases e
   cases ow
  .obtain⟨q,e1,e2,e3,e4⟩:=r.ow j w (back n e) ow
   refine⟨q,e1,e2,?_,Vf e4 sm λo' h'=>h'⟩
   have:q≠p:=λz=>by
    subst z
    exact r.sep i j _ w q n ht rfl (back n e) ow z1 e1
   rw[Zl this];exact e3
 .have ne:∀{l:Nat}{w:S},(sd.set i (some (S.im (.lst ds))))[l]?=some (some w)->w.own=true->i≠l:=λ{l w} e o z=>by
   subst z
   rw[AK hl] at e
   cases e
   cases o
  exact r.sep j k w x q hjk (back (ne e1 o1) e1) o1 (back (ne e2 o2) e2) o2 e3 e4
end
def cU (K:PySem.W.Frag)(Hf _H:Hp)(x:XV)(c:Value)(dx:Option Addr):Prop:=
 ∃C xs,c=.ref C/\PySem.W.nsIn K mainGlobals x.cls=some (some (.ref C))/\XF Hf x.ns xs dx/\Reps K Hf x.ds xs
def Po (K:PySem.W.Frag)(E:XK){α β:Type}(R:Hp->Hp->α->β->Prop)(Hf H:Hp)(r:M α)(Q:β->Hp->Prop):Prop:=match r with
 |.ok a=>∀b LZ H',Gr Hf H LZ H'->R LZ H' a b->Q b H'
 |.ex x=>∀c dx LZ H',Gr Hf H LZ H'->cU K LZ H' x c dx->E c dx H'
 |.bad=>False
def rV (K:PySem.W.Frag)(Hf _H:Hp)(d:D)(v:V):Prop:=Rep K Hf d v
def rA (K:PySem.W.Frag)(Hf _H:Hp)(ds:List D)(vs:List V):Prop:=Reps K Hf ds vs
def rQ {α:Type}(_Hf _H:Hp)(a b:α):Prop:=a=b
section
variable {K:PySem.W.Frag}{E:XK}{α β γ δ:Type}{R:Hp->Hp->α->β->Prop}{T:Hp->Hp->γ->δ->Prop}{Hf H MB H1:Hp}
def Po.weak {r:M α}{Q:β->Hp->Prop}(g:Gr Hf H MB H1)(h:Po K E R Hf H r Q):Po K E R MB H1 r Q:=by
 cases r with
 |ok a=>exact λb LZ H' g' q=>h b LZ H' (g.trans g') q
 |ex x=>exact λc dx LZ H' g' q=>h c dx LZ H' (g.trans g') q
 |bad=>exact h
theorem Po.bind {r:M α}{k:α->M γ}{Q:δ->Hp->Prop}{Q1:β->Hp->Prop}(h:Po K E T Hf H (r.bind k) Q)(s:∀a b MB H1,r=.ok a->Gr Hf H MB H1->R MB H1 a b->Po K E T MB H1 (k a) Q->Q1 b H1):Po K E R Hf H r Q1:=by
 cases r with
 |ok a=>exact λb LZ H' g q=>s a b LZ H' rfl g q (Po.weak g h)
 |ex x=>exact h
 |bad=>exact h
def Po.ret {a:α}{b:β}{Q:β->Hp->Prop}(e:Same Hf H)(h:Po K E R Hf H (.ok a) Q)(q:R Hf H a b):Q b H:=h b Hf H (Gr.refl e) q
end
def Yt (X:Cx)(E:XK)(e:Expr)(f:Zf->M D):Prop:=
 ∃t:TE,PE X e t/\∀(H0:Hp) (B:Addr->Prop) (Hf:Hp) (sd:Zf) (σ:L2.St) (H:Hp) (Q:VK),SR X.K H0 B Hf sd σ H->Po X.K E (rV X.K) Hf H (f sd) Q->t σ H Q
def S2 (X:Cx)(E:XK)(es:List Expr)(f:Zf->M (List D)):Prop:=
 ∃t:TA,PA X es t/\∀(H0:Hp) (B:Addr->Prop) (Hf:Hp) (sd:Zf) (σ:L2.St) (H:Hp) (Q:List V->Hp->Prop),SR X.K H0 B Hf sd σ H->Po X.K E (rA X.K) Hf H (f sd) Q->t σ H Q
def B8 (X:Cx)(E:XK)(e:Expr)(f:Zf->M Bool):Prop:=
 ∃t:TT,PT X e t/\∀(H0:Hp) (B:Addr->Prop) (Hf:Hp) (sd:Zf) (σ:L2.St) (H:Hp) (Q:Bool->Hp->Prop),SR X.K H0 B Hf sd σ H->Po X.K E rQ Hf H (f sd) Q->t σ H Q
def PWd (X:Cx)(E:XK)(e:Expr)(f:Zf->M Bool):Prop:=
 ∃t:TT,PW X e t/\∀(H0:Hp) (B:Addr->Prop) (Hf:Hp) (sd:Zf) (σ:L2.St) (H:Hp) (Q:Bool->Hp->Prop),SR X.K H0 B Hf sd σ H->Po X.K E rQ Hf H (f sd) Q->t σ H Q
def dj (X:Cx)(E:XK)(e:Option Expr)(f:Zf->M (Option Int)):Prop:=
 ∃t:TO,PO X e t/\∀(H0:Hp) (B:Addr->Prop) (Hf:Hp) (sd:Zf) (σ:L2.St) (H:Hp) (Q:Option Int->Hp->Prop),SR X.K H0 B Hf sd σ H->Po X.K E rQ Hf H (f sd) Q->t σ H Q
inductive O where
 |nx (sd:Zf)|rt (s:S)|bk (sd:Zf)|ct (sd:Zf)
structure RU (H0:Hp) (B:Addr->Prop) (Hf H:Hp):Prop where
 sub:Same Hf H
 all:Same H0 H
 ban:∀a,B a->Hf a=none
def RS (K:PySem.W.Frag)(H0 Hf H:Hp):S->V->Prop
 |.im d,v=>Rep K Hf d v
 |.xc x,v=>RepE K Hf x v
 |t,v=>∃p,v=.ref p/\H0 p=none/\Hf p=none/\S.at K Hf H p t
def PoS (K:PySem.W.Frag)(E:XK)(H0:Hp)(B:Addr->Prop)(Hf:Hp)(r:M O)(D:Ends):Prop:=match r with
 |.ok (.nx sd')=>∀σ' LZ H',Same Hf LZ->SR K H0 B LZ sd' σ' H'->D.nx σ' H'
 |.ok (.bk sd')=>∀σ' LZ H',Same Hf LZ->SR K H0 B LZ sd' σ' H'->D.bk σ' H'
 |.ok (.ct sd')=>∀σ' LZ H',Same Hf LZ->SR K H0 B LZ sd' σ' H'->D.ct σ' H'
 |.ok (.rt s)=>∀v LZ H',Same Hf LZ->RU H0 B LZ H'->RS K H0 LZ H' s v->D.rt v H'
 |.ex x=>∀c dx LZ H',Same Hf LZ->RU H0 B LZ H'->cU K LZ H' x c dx->E c dx H'
 |.bad=>False
def SR.fin {K:PySem.W.Frag}{H0 Hf H:Hp}{B:Addr->Prop}{sd:Zf}{σ:L2.St}(r:SR K H0 B Hf sd σ H):RU H0 B Hf H:=⟨r.sub,r.all,r.ban⟩
def Wq (X:Cx)(E:XK)(st:Stmt)(f:Zf->M O):Prop:=
 ∃t:TS,PS X st t/\∀(H0:Hp) (B:Addr->Prop) (Hf:Hp) (sd:Zf) (σ:L2.St) (H:Hp) (D:Ends),SR X.K H0 B Hf sd σ H->PoS X.K E H0 B Hf (f sd) D->t D σ H
def U3 (X:Cx)(E:XK)(st:List Stmt)(f:Zf->M O):Prop:=
 ∃t:TS,PSs X st t/\∀(H0:Hp) (B:Addr->Prop) (Hf:Hp) (sd:Zf) (σ:L2.St) (H:Hp) (D:Ends),SR X.K H0 B Hf sd σ H->PoS X.K E H0 B Hf (f sd) D->t D σ H
def PoS.weak {K:PySem.W.Frag}{E:XK}{H0 Hf MB:Hp}{B:Addr->Prop}{r:M O}{D:Ends}(g:Same Hf MB)(h:PoS K E H0 B Hf r D):PoS K E H0 B MB r D:=by
 cases r with
 |ok o=>
  cases o with
  |nx sd=>exact λσ' LZ H' e q=>h σ' LZ H' (g.trans e) q
  |bk sd=>exact λσ' LZ H' e q=>h σ' LZ H' (g.trans e) q
  |ct sd=>exact λσ' LZ H' e q=>h σ' LZ H' (g.trans e) q
  |rt s=>exact λv LZ H' e q=>h v LZ H' (g.trans e) q
 |ex x=>exact λc dx LZ H' e q=>h c dx LZ H' (g.trans e) q
 |bad=>exact h
theorem PoS.bind {K:PySem.W.Frag}{E:XK}{H0 Hf H:Hp}{B:Addr->Prop}{sd:Zf}{σ:L2.St}{α β:Type}{R:Hp->Hp->α->β->Prop}{r:M α}{k:α->M O}{D:Ends}{Q1:β->Hp->Prop}(sr:SR K H0 B Hf sd σ H)(h:PoS K E H0 B Hf (r.bind k) D)(s:∀a b MB H1,r=.ok a->Gr Hf H MB H1->SR K H0 B MB sd σ H1->R MB H1 a b->PoS K E H0 B MB (k a) D->Q1 b H1):Po K E R Hf H r Q1:=by
 cases r with
 |ok a=>exact λb LZ H' g q=>s a b LZ H' rfl g (sr.gr g) q (PoS.weak g.fz h)
 |ex x=>exact λc dx LZ H' g q=>h c dx LZ H' g.fz (sr.gr g).fin q
 |bad=>exact h
section
variable {X:Cx}{E:XK}{pos:Pos}{a b:Expr}
def Zd (i:Nat)(sd:Zf):M D:=match sd[i]? with
 |some (some (.im d))=>.ok d
 |_=>.bad
def Zc (i:Nat){x:Str}(hN:X.N[i]?=some x:=by rfl)(hv:Gm X.env.scope x:=by trivial) (hd:(x==("__debug__":Str))=false:=by decide)
  (MV:(x==("__classdict__":Str))=false:=by decide):Yt X E (.Name x pos) (Zd i):=by
 refine⟨_,Z6 hN hv hd MV,λH0 B Hf sd σ H Q sr h=>?_⟩
 unfold Zd at h
 split at h
 .rename_i d e
  obtain⟨v,e1,e2⟩:=sr.im i d e
  exact⟨v,e1,Po.ret sr.sub h e2⟩
 .exact h.elim
def eC (d:D)(_:Zf):M D:=.ok d
def Zj {i:Int}{j}:Yt X E (.Constant (.int i) j pos) (eC (.int i)):=⟨_,xZ,λ_ _ _ _ _ _ _ sr h=>Po.ret sr.sub h (rep_int.mpr rfl)⟩
def U5 {i:Bool}{j}:Yt X E (.Constant (.bool i) j pos) (eC (.bl i)):=⟨_,vH,λ_ _ _ _ _ _ _ sr h=>Po.ret sr.sub h (rep_bl.mpr rfl)⟩
def Y8 {j}:Yt X E (.Constant .none j pos) (eC .non):=⟨_,xY,λ_ _ _ _ _ _ _ sr h=>Po.ret sr.sub h (rep_non.mpr rfl)⟩
def Qb {x}{j}:Yt X E (.Constant (.str x) j pos) (eC (.str x)):=⟨_,xX,λ_ _ _ _ _ _ _ sr h=>Po.ret sr.sub h (rep_str.mpr rfl)⟩
def Rn (X:Cx)(E:XK)(f:Value->Value->Sem Value)(g:D->D->M D):Prop:=
 ∃r:R2,OpR X f r/\∀(Hf H:Hp) (x y:V) (dx dy:D) (Q:VK),Same Hf H->Rep X.K Hf dx x->Rep X.K Hf dy y->Po X.K E (rV X.K) Hf H (g dx dy) Q->r x y H Q
def Zp (g:D->D->M D)(fa fb:Zf->M D)(sd:Zf):M D:=(fa sd).bind λx=>(fb sd).bind λy=>g x y
def two {fa fb:Zf->M D}{g:D->D->M D}{ta tb:TE}{r:R2}{H0:Hp}{B:Addr->Prop}{Hf:Hp}{sd:Zf}{σ:L2.St}{H:Hp}{Q:VK}(ha:∀(H0:Hp) (B:Addr->Prop) (Hf:Hp) (sd:Zf) (σ:L2.St) (H:Hp) (Q:VK),SR X.K H0 B Hf sd σ H->Po X.K E (rV X.K) Hf H (fa sd) Q->ta σ H Q)(hb:∀(H0:Hp) (B:Addr->Prop) (Hf:Hp) (sd:Zf) (σ:L2.St) (H:Hp) (Q:VK),SR X.K H0 B Hf sd σ H->Po X.K E (rV X.K) Hf H (fb sd) Q->tb σ H Q)(hr:∀(Hf H:Hp) (x y:V) (dx dy:D) (Q:VK),Same Hf H->Rep X.K Hf dx x->Rep X.K Hf dy y->Po X.K E (rV X.K) Hf H (g dx dy) Q->r x y H Q)(sr:SR X.K H0 B Hf sd σ H)(h:Po X.K E (rV X.K) Hf H (Zp g fa fb sd) Q):au r ta tb σ H Q:=by
 refine ha H0 B Hf sd σ H _ sr (Po.bind h λdx x MB H1 _ g1 rx h1=>?_)
 have sr1:=sr.gr g1
 refine hb H0 B MB sd σ H1 _ sr1 (Po.bind h1 λdy y MI H2 _ g2 ry h2=>?_)
 exact hr MI H2 x y dx dy Q g2.sub (Rep.mono g2.fz rx) ry h2
def Zr {op:Operator}{g:D->D->M D}{fa fb:Zf->M D}(ho:Rn X E (binaryOp op) g)(ha:Yt X E a fa)(hb:Yt X E b fb):Yt X E (.BinOp a op b pos) (Zp g fa fb):=by
 obtain⟨r,hr,qr⟩:=ho
 obtain⟨ta,pa,qa⟩:=ha
 obtain⟨tb,pb,qb⟩:=hb
 exact⟨_,mh hr pa pb,λH0 B Hf sd σ H Q sr h=>two qa qb qr sr h⟩
def Je {op:CmpOp}{g:D->D->M D}{fa fb:Zf->M D}(ho:Rn X E (compareOp op) g)(ha:Yt X E a fa)(hb:Yt X E b fb)(hm:behindInMarks op b=false):Yt X E (.Compare a [op] [b] pos) (Zp g fa fb):=by
 obtain⟨r,hr,qr⟩:=ho
 obtain⟨ta,pa,qa⟩:=ha
 obtain⟨tb,pb,qb⟩:=hb
 exact⟨_,zW hr pa pb hm,λH0 B Hf sd σ H Q sr h=>two qa qb qr sr h⟩
def gI (c:Int->Int->Bool)(g:Int->Int->D):D->D->M D
 |.int i,.int j=>if c i j then .ok (g i j) else .bad
 |_,_=>.bad
def Fl (g:Int->Int->D):D->D->M D
 |.int i,.int j=>.ok (g i j)
 |_,_=>.bad
def B9 {f:Value->Value->Sem Value}{gv:Int->Int->V}{gd:Int->Int->D}(h:OpR X f (XQ gv))(hg:∀i j (H:Hp),Rep X.K H (gd i j) (gv i j)):Rn X E f (Fl gd):=by
 refine⟨_,h,λHf H x y dx dy Q e rx ry q=>?_⟩
 unfold Fl at q
 split at q
 .rename_i i j
  exact⟨i,j,rep_int.mp rx,rep_int.mp ry,Po.ret e q (hg i j Hf)⟩
 .exact q.elim
def fC {f:Value->Value->Sem Value}{C:Int->Int->Prop}{c:Int->Int->Bool}{gv:Int->Int->V}{gd:Int->Int->D}(h:OpR X f (rI C gv))(hc:∀i j,c i j=true->C i j)(hg:∀i j (H:Hp),Rep X.K H (gd i j) (gv i j)):Rn X E f (gI c gd):=by
 refine⟨_,h,λHf H x y dx dy Q e rx ry q=>?_⟩
 unfold gI at q
 split at q
 .rename_i i j
  split at q
  .rename_i dG
   exact⟨i,j,rep_int.mp rx,rep_int.mp ry,hc i j dG,Po.ret e q (hg i j Hf)⟩
  .exact q.elim
 .exact q.elim
def Ko:D->D->M D:=Fl λi j=>.int (i-j)
def XR:D->D->M D:=Fl λi j=>.bl (decide (i<j))
def iV:D->D->M D:=Fl λi j=>.bl (decide (i<=j))
def S5:D->D->M D:=Fl λi j=>.bl (decide (j<i))
def cK:D->D->M D:=Fl λi j=>.bl (decide (j<=i))
def X0:Rn X E (binaryOp .Sub) Ko:=B9 xK λ_ _ _=>rep_int.mpr rfl
def jH:Rn X E (compareOp .Lt) XR:=B9 u4 λ_ _ _=>rep_bl.mpr rfl
def mI:Rn X E (compareOp .LtE) iV:=B9 u3 λ_ _ _=>rep_bl.mpr rfl
def Ty:Rn X E (compareOp .Gt) S5:=B9 uz λ_ _ _=>rep_bl.mpr rfl
def uo:Rn X E (compareOp .GtE) cK:=B9 uy λ_ _ _=>rep_bl.mpr rfl
end
section
variable {X:Cx}{E:XK}{pos:Pos}{a b:Expr}
def Fm {i:Int}(h:i.natAbs<2 ^ 4000):Builtin.Int.intBits i<=2 ^ 20:=by
 unfold Builtin.Int.intBits
 split
 .exact CI _
 .rename_i hz
  have hn:i.natAbs≠0:=λz=>hz (by rw[Int.natAbs_eq_zero.mp z];rfl)
  have:i.natAbs.log2<4000:=(Nat.log2_lt hn).mpr h
  have e:(2:Nat) ^ 20=1048576:=rfl
  lia
def tZ (i j:Int):Prop:=i.natAbs<2 ^ 4000/\j.natAbs<2 ^ 4000
def sQ (_i j:Int):Prop:=j≠0/\j.natAbs<2 ^ 4000
def wz {j:Int}(h:j.natAbs<2 ^ 4000):j.natAbs.log2<9000:=by
 by_cases hn:j.natAbs=0
 .rw[hn];decide
 .have:j.natAbs.log2<4000:=(Nat.log2_lt hn).mpr h
  lia
def zi:OpR X (binaryOp .Mult) (rI tZ λi j=>.int (i*j)):=dw λ_ _ _ _ _ _ _ hc q=>mul_int q (IntMulOk.of_bits (Fm hc.1) (Fm hc.2))
def Zbg:OpR X (binaryOp .FloorDiv) (rI sQ λi j=>.int (i.fdiv j)):=dw λ_ _ _ _ _ _ _ hc q=>floordiv_int hc.1 q (.inl (PyProof.noPylong_of_log2 (wz hc.2)))
def sm (i:Int):Bool:=decide (i.natAbs<2 ^ 4000)
def sm_iff {i:Int}:sm i=true↔i.natAbs<2 ^ 4000:=decide_eq_true_iff
def lV:D->D->M D:=gI (λi j=>sm i&&sm j) λi j=>.int (i*j)
def Q4:D->D->M D:=gI (λ_ j=>j != 0&&sm j) λi j=>.int (i.fdiv j)
def Yk:D->D->M D:=gI (λ_ j=>j != 0) λi j=>.int (i.fmod j)
def ez:D->D->M D:=gI (λi j=>decide (0<=j/\j<=1000/\i.natAbs<1000)) λi j=>.int (i ^ j.toNat)
def wy:Rn X E (binaryOp .Mult) lV:=fC zi (λi j h=>by
 rw[BC] at h
 exact⟨sm_iff.mp h.1,sm_iff.mp h.2⟩) λ_ _ _=>rep_int.mpr rfl
def Yd:Rn X E (binaryOp .FloorDiv) Q4:=fC Zbg (λi j h=>by
 rw[BC] at h
 exact⟨by simpa using h.1,sm_iff.mp h.2⟩) λ_ _ _=>rep_int.mpr rfl
def Xk:Rn X E (binaryOp .Mod) Yk:=fC zY (λi j h=>by simpa using h) λ_ _ _=>rep_int.mpr rfl
def wx:Rn X E (binaryOp .Pow) ez:=fC xJ (λi j h=>by
 have h:=BK h
 refine⟨h.1,by lia,?_⟩
 have e:(2:Nat) ^ 64=18446744073709551616:=rfl
 lia) λ_ _ _=>rep_int.mpr rfl
def Fn {K:PySem.W.Frag}{H:Hp}{ds:List D}{xs:List V}{i:Int}{d:D}(r:Reps K H ds xs)(e:Ri ds i=some d):∃x,Ri xs i=some x/\Rep K H d x:=by
 unfold Ri at e ⊢
 rw[<-r.length]
 cases q:aE ds.length i with
 |none=>rw[q] at e;cases e
 |some j=>
  rw[q] at e
  exact r.get e
def Tz:D->D->M D
 |.lst ds,.int i=>match Ri ds i with
  |some d=>.ok d
  |none=>.bad
 |.tup ds,.int i=>match Ri ds i with
  |some d=>.ok d
  |none=>.bad
 |.str z,.int i=>if z.length<=sizeLine then(match Ri z.cps.toList i with
  |some c=>.ok (.str ⟨#[c]⟩)
  |none=>.bad) else .bad
 |_,_=>.bad
def Aa {fa fb:Zf->M D}(ha:Yt X E a fa)(hb:Yt X E b fb)(hs:Fj b):Yt X E (.Subscript a b pos) (Zp Tz fa fb):=by
 obtain⟨ta,pa,qa⟩:=ha
 obtain⟨tb,pb,qb⟩:=hb
 refine⟨_,uu x8 pa pb hs,λH0 B Hf sd σ H Q sr h=>two qa qb (λHf H x y dx dy Q e rx ry q=>?_) sr h⟩
 unfold Tz at q
 split at q
 .rename_i ds i
  split at q
  .rename_i d ei
   obtain⟨p,xs,rfl,hp,hr⟩:=rep_lst.mp rx
   obtain⟨v,e1,e2⟩:=Fn hr ei
   exact .inl ⟨p,xs,i,v,rfl,rep_int.mp ry,e.seq hp,e1,Po.ret e q e2⟩
  .exact q.elim
 .rename_i ds i
  split at q
  .rename_i d ei
   obtain⟨p,xs,rfl,hp,hr⟩:=Qg rx
   obtain⟨v,e1,e2⟩:=Fn hr ei
   exact .inr (.inl ⟨p,xs,i,v,rfl,rep_int.mp ry,Same.seqT e hp,e1,Po.ret e q e2⟩)
  .exact q.elim
 .rename_i z i
  split at q
  .rename_i hz
   split at q
   .rename_i c ei
    exact .inr (.inr ⟨z,i,c,rep_str.mp rx,rep_int.mp ry,hz,ei,Po.ret e q (rep_str.mpr rfl)⟩)
   .exact q.elim
  .exact q.elim
 .exact q.elim
def Zk (_:Zf):M (List D):=.ok []
def Zb (fa:Zf->M D)(fr:Zf->M (List D))(sd:Zf):M (List D):=(fa sd).bind λd=>(fr sd).bind λds=>.ok (d::ds)
def Ze:S2 X E [] Zk:=⟨_,Xs,λ_ _ _ _ _ _ _ sr h=>Po.ret sr.sub h Reps.nil⟩
def Za {es:List Expr}{fa:Zf->M D}{fr:Zf->M (List D)}(ha:Yt X E a fa)(hr:S2 X E es fr)(hs:starEach (a::es) X.env=(false,eval a X.env)::starEach es X.env:=by rfl):S2 X E (a::es) (Zb fa fr):=by
 obtain⟨ta,pa,qa⟩:=ha
 obtain⟨tr,pr,qr⟩:=hr
 refine⟨_,Qj pa pr hs,λH0 B Hf sd σ H Q sr h=>?_⟩
 refine qa H0 B Hf sd σ H _ sr (Po.bind h λd v MB H1 _ g1 rv h1=>?_)
 refine qr H0 B MB sd σ H1 _ (sr.gr g1) (Po.bind h1 λds vs MI H2 _ g2 rs h2=>?_)
 exact Po.ret g2.sub h2 (Reps.cons (Rep.mono g2.fz rv) rs)
def few (ds:List D):Bool:=decide (ds.length<=1000000)
def V7 {K:PySem.W.Frag}{H:Hp}{ds:List D}{xs:List V}(h:few ds=true)(r:Reps K H ds xs):xs.length<=sizeLine:=by
 have:=BK h
 have e:=CH
 rw[<-r.length,e]
 lia
def Qi (fs:Zf->M (List D))(sd:Zf):M D:=(fs sd).bind λds=>if few ds then .ok (.tup ds) else .bad
def X1 (fs:Zf->M (List D))(sd:Zf):M D:=(fs sd).bind λds=>if few ds then .ok (.lst ds) else .bad
theorem Gr.tup {K:PySem.W.Frag}{Hf H:Hp}{p:Addr}{ds:List D}{xs:List V}(e:Same Hf H)(hp:H p=none)(r:Reps K Hf ds xs):Rep K (upd Hf p (.tup xs)) (.tup ds) (.ref p):=
 rep_tup.mpr ⟨p,xs,rfl,Zo,r.mono (Qa (e.free hp) _)⟩
theorem Gr.lst {K:PySem.W.Frag}{Hf H:Hp}{p:Addr}{ds:List D}{xs:List V}(e:Same Hf H)(hp:H p=none)(r:Reps K Hf ds xs):Rep K (upd Hf p (.lst xs)) (.lst ds) (.ref p):=
 rep_lst.mpr ⟨p,xs,rfl,SqL.of Zo,r.mono (Qa (e.free hp) _)⟩
def Z4 {es:List Expr}{fs:Zf->M (List D)}{x1}(h:S2 X E es fs):Yt X E (.Tuple es x1 pos) (Qi fs):=by
 obtain⟨t,p,q⟩:=h
 refine⟨_,L5 p,λH0 B Hf sd σ H Q sr h=>?_⟩
 refine q H0 B Hf sd σ H _ sr (Po.bind h λds vs MB H1 _ g1 rs h1=>?_)
 split at h1
 .rename_i hf
  exact⟨V7 hf rs,λp hp=>h1 _ _ _ (Gr.alloc g1.sub hp _) (Gr.tup g1.sub hp rs)⟩
 .exact h1.elim
def Xt {es:List Expr}{fs:Zf->M (List D)}(h:S2 X E es fs):Yt X E (.List es pos) (X1 fs):=by
 obtain⟨t,p,q⟩:=h
 refine⟨_,Df p,λH0 B Hf sd σ H Q sr h=>?_⟩
 refine q H0 B Hf sd σ H _ sr (Po.bind h λds vs MB H1 _ g1 rs h1=>?_)
 split at h1
 .rename_i hf
  exact⟨V7 hf rs,λp hp=>h1 _ _ _ (Gr.alloc g1.sub hp _) (Gr.lst g1.sub hp rs)⟩
 .exact h1.elim
def Vz (X:Cx)(E:XK)(f:Value)(g:List D->M D):Prop:=
 ∃r,CallR X f r/\∀(Hf H:Hp) (xs:List V) (ds:List D) (Q:VK),Same Hf H->Reps X.K Hf ds xs->Po X.K E (rV X.K) Hf H (g ds) Q->r xs H Q
def Kr (g:List D->M D)(fs:Zf->M (List D))(sd:Zf):M D:=(fs sd).bind g
def Qx {x:Str}{id:String}{p:Pos}{g:List D->M D}{e:Expr}{es:List Expr}{fs:Zf->M (List D)}(hc:Vz X E (.builtin id) g)(hg:Gl X x)(hm:X.mg x=none)(hv:bootBuiltins x=some (.builtin id))(ha:S2 X E (e::es) fs)
  (hn:x ≠ "__name__":=by decide) (NT:(x==("__debug__":Str))=false:=by decide)
  (he:starEach (e::es) X.env=(false,eval e X.env)::starEach es X.env:=by rfl) (MT:(backTo pos (starEach es X.env)).any (·.1)=false:=by rfl):Yt X E (.Call (.Name x p) (e::es) [] pos) (Kr g fs):=by
 obtain⟨r,hr,qr⟩:=hc
 obtain⟨t,pt,qt⟩:=ha
 refine⟨_,B4 hr hg hm hv pt hn NT he MT,λH0 B Hf sd σ H Q sr h=>?_⟩
 exact qt H0 B Hf sd σ H _ sr (Po.bind h λds vs MB H1 _ g1 rs h1=>qr MB H1 vs ds Q g1.sub rs h1)
def V8 {x:Str}{T:String}{p:Pos}{g:List D->M D}{e:Expr}{es:List Expr}{fs:Zf->M (List D)}(hc:Vz X E (.type T) g)(hg:Gl X x)(hm:X.mg x=none)(hv:bootBuiltins x=some (.type T))(ha:S2 X E (e::es) fs)
  (hn:x ≠ "__name__":=by decide) (NT:(x==("__debug__":Str))=false:=by decide)
  (he:starEach (e::es) X.env=(false,eval e X.env)::starEach es X.env:=by rfl) (MT:(backTo pos (starEach es X.env)).any (·.1)=false:=by rfl):Yt X E (.Call (.Name x p) (e::es) [] pos) (Kr g fs):=by
 obtain⟨r,hr,qr⟩:=hc
 obtain⟨t,pt,qt⟩:=ha
 refine⟨_,Ob hr hg hm hv pt hn NT he MT,λH0 B Hf sd σ H Q sr h=>?_⟩
 exact qt H0 B Hf sd σ H _ sr (Po.bind h λds vs MB H1 _ g1 rs h1=>qr MB H1 vs ds Q g1.sub rs h1)
def Jw {K:PySem.W.Frag}{H:Hp}{d:D}{xs:List V}(r:Reps K H [d] xs):∃x,xs=[x]/\Rep K H d x:=by
 obtain⟨x,t,rfl,h,r2⟩:=reps_cons.mp r
 rw[reps_nil.mp r2];exact⟨x,rfl,h⟩
def mH {K:PySem.W.Frag}{H:Hp}{d e:D}{xs:List V}(r:Reps K H [d,e] xs):∃x y,xs=[x,y]/\Rep K H d x/\Rep K H e y:=by
 obtain⟨x,t,rfl,h,r2⟩:=reps_cons.mp r
 obtain⟨y,rfl,h2⟩:=Jw r2
 exact⟨x,y,rfl,h,h2⟩
def Kg:List D->M D
 |[.int i]=>.ok (.int (if i<0 then -i else i))
 |_=>.bad
def Vg:Vz X E (.builtin "abs") Kg:=by
 refine⟨_,Za0,λHf H xs ds Q e r q=>?_⟩
 unfold Kg at q
 split at q
 .obtain⟨x,rfl,h⟩:=Jw r
  rw[rep_int.mp h]
  exact⟨_,rfl,Po.ret e q (rep_int.mpr rfl)⟩
 .exact q.elim
def Oh:List D->M D
 |[.int i]=>.ok (.int i)
 |[.bl b]=>.ok (.int (if b then 1 else 0))
 |_=>.bad
def wu:Vz X E (.type "int") Oh:=by
 refine⟨_,Iy,λHf H xs ds Q e r q=>?_⟩
 unfold Oh at q
 split at q
 .obtain⟨x,rfl,h⟩:=Jw r
  rw[rep_int.mp h]
  exact .inl ⟨_,rfl,Po.ret e q (rep_int.mpr rfl)⟩
 .obtain⟨x,rfl,h⟩:=Jw r
  rw[rep_bl.mp h]
  exact .inr ⟨_,rfl,Po.ret e q (rep_int.mpr rfl)⟩
 .exact q.elim
def Oi:List D->M D
 |[.lst ds]=>.ok (.int ds.length)
 |[.tup ds]=>.ok (.int ds.length)
 |[.str z]=>if z.length<=sizeLine then .ok (.int z.length) else .bad
 |_=>.bad
def nh:Vz X E (.builtin "len") Oi:=by
 refine⟨_,call_len_seq.or Mc,λHf H xs ds Q e r q=>?_⟩
 unfold Oi at q
 split at q
 .obtain⟨x,rfl,h⟩:=Jw r
  obtain⟨p,ys,rfl,hp,hr⟩:=rep_lst.mp h
  refine .inl ⟨p,ys,rfl,.inl (e.seq hp),?_⟩
  rw[<-hr.length]
  exact Po.ret e q (rep_int.mpr rfl)
 .obtain⟨x,rfl,h⟩:=Jw r
  obtain⟨p,ys,rfl,hp,hr⟩:=Qg h
  refine .inl ⟨p,ys,rfl,.inr (Same.seqT e hp),?_⟩
  rw[<-hr.length]
  exact Po.ret e q (rep_int.mpr rfl)
 .split at q
  .rename_i hz
   obtain⟨x,rfl,h⟩:=Jw r
   rw[rep_str.mp h]
   exact .inr ⟨_,rfl,hz,Po.ret e q (rep_int.mpr rfl)⟩
  .exact q.elim
 .exact q.elim
def Gw:List D->M D
 |[.lst ds]=>.ok (.tup ds)
 |[.tup ds]=>.ok (.tup ds)
 |_=>.bad
def Wr:Vz X E (.type "tuple") Gw:=by
 refine⟨_,S4,λHf H xs ds Q e r q=>?_⟩
 unfold Gw at q
 split at q
 .obtain⟨x,rfl,h⟩:=Jw r
  obtain⟨p,ys,rfl,hp,hr⟩:=rep_lst.mp h
  exact⟨p,ys,rfl,.inl ⟨e.seq hp,λl hl=>q _ _ _ (Gr.alloc e hl _) (Gr.tup e hl hr)⟩⟩
 .obtain⟨x,rfl,h⟩:=Jw r
  obtain⟨p,ys,rfl,hp,hr⟩:=Qg h
  exact⟨p,ys,rfl,.inr ⟨Same.seqT e hp,Po.ret e q (h)⟩⟩
 .exact q.elim
def asB:D->M Bool
 |.bl b=>.ok b
 |_=>.bad
def tB (f:Zf->M D)(sd:Zf):M Bool:=(f sd).bind asB
def tN (f:Zf->M Bool)(sd:Zf):M Bool:=(f sd).bind λb=>.ok (!b)
def tA (f g:Zf->M Bool)(sd:Zf):M Bool:=(f sd).bind λb=>if b then g sd else .ok false
def tO (f g:Zf->M Bool)(sd:Zf):M Bool:=(f sd).bind λb=>if b then .ok true else g sd
def Xe {e:Expr}{f:Zf->M D}(h:Yt X E e f)(he:∀whole,isTrue e X.env whole=(do let v <-whole;standAt e.pos;holding [v] (truthy v)):=by intro _;rfl):B8 X E e (tB f):=by
 obtain⟨t,p,q⟩:=h
 refine⟨_,xW p he,λH0 B Hf sd σ H Q sr h=>?_⟩
 refine q H0 B Hf sd σ H _ sr (Po.bind h λd v MB H1 _ g1 rv h1=>?_)
 unfold asB at h1
 split at h1
 .exact⟨_,rep_bl.mp rv,Po.ret (R:=rQ) g1.sub h1 rfl⟩
 .exact h1.elim
def Zz {op:CmpOp}{g:D->D->M D}{fa fb:Zf->M D}(ho:Rn X E (compareOp op) g)(ha:Yt X E a fa)(hb:Yt X E b fb)(hm:behindInMarks op b=false):B8 X E (.Compare a [op] [b] pos) (tB (Zp g fa fb)):=by
 obtain⟨r,hr,qr⟩:=ho
 obtain⟨ta,pa,qa⟩:=ha
 obtain⟨tb,pb,qb⟩:=hb
 refine⟨_,Lz hr pa pb hm,λH0 B Hf sd σ H Q sr h=>?_⟩
 refine two qa qb qr sr (Po.bind h λd v MB H1 _ g1 rv h1=>?_)
 unfold asB at h1
 split at h1
 .exact⟨_,rep_bl.mp rv,Po.ret (R:=rQ) g1.sub h1 rfl⟩
 .exact h1.elim
def Ks {f:Zf->M Bool}(h:B8 X E a f):B8 X E (.UnaryOp .Not a pos) (tN f):=by
 obtain⟨t,p,q⟩:=h
 refine⟨_,xT p,λH0 B Hf sd σ H Q sr h=>?_⟩
 refine q H0 B Hf sd σ H _ sr (Po.bind h λb v MB H1 _ g1 rv h1=>?_)
 have e:b=v:=rv
 subst e
 exact Po.ret (R:=rQ) g1.sub h1 rfl
theorem PWd.pt {f:Zf->M Bool}{e:Expr}(h:PWd X E e f):B8 X E e f:=by
 obtain⟨t,p,q⟩:=h
 exact⟨t,p.pt,q⟩
def Ws {f:Zf->M Bool}(h:B8 X E a f):PWd X E (.BoolOp .And [a] pos) f:=by
 obtain⟨t,p,q⟩:=h
 exact⟨t,zb p,q⟩
def Vh {f:Zf->M Bool}(h:B8 X E a f):PWd X E (.BoolOp .Or [a] pos) f:=by
 obtain⟨t,p,q⟩:=h
 exact⟨t,xV p,q⟩
def Wt {rest:List Expr}{f g:Zf->M Bool}(h:B8 X E a f)(h2:PWd X E (.BoolOp .And (b::rest) pos) g):PWd X E (.BoolOp .And (a::b::rest) pos) (tA f g):=by
 obtain⟨t,p,q⟩:=h
 obtain⟨t2,p2,q2⟩:=h2
 refine⟨_,xU p p2,λH0 B Hf sd σ H Q sr h=>?_⟩
 refine q H0 B Hf sd σ H _ sr (Po.bind h λb v MB H1 _ g1 rv h1=>?_)
 have e:b=v:=rv
 subst e
 cases b with
 |true=>rw[AC rfl] at h1 ⊢;exact q2 H0 B MB sd σ H1 Q (sr.gr g1) h1
 |false=>rw[AD AY] at h1 ⊢;exact Po.ret (R:=rQ) g1.sub h1 rfl
def Wb {rest:List Expr}{f g:Zf->M Bool}(h:B8 X E a f)(h2:PWd X E (.BoolOp .Or (b::rest) pos) g):PWd X E (.BoolOp .Or (a::b::rest) pos) (tO f g):=by
 obtain⟨t,p,q⟩:=h
 obtain⟨t2,p2,q2⟩:=h2
 refine⟨_,vG p p2,λH0 B Hf sd σ H Q sr h=>?_⟩
 refine q H0 B Hf sd σ H _ sr (Po.bind h λb v MB H1 _ g1 rv h1=>?_)
 have e:b=v:=rv
 subst e
 cases b with
 |true=>rw[AC rfl] at h1 ⊢;exact Po.ret (R:=rQ) g1.sub h1 rfl
 |false=>rw[AD AY] at h1 ⊢;exact q2 H0 B MB sd σ H1 Q (sr.gr g1) h1
def Ro (f g:Zf->M D)(sd:Zf):M D:=(f sd).bind λd=>(asB d).bind λb=>if b then g sd else .ok (.bl false)
def YM (f g:Zf->M D)(sd:Zf):M D:=(f sd).bind λd=>(asB d).bind λb=>if b then .ok (.bl true) else g sd
def lU (f:Zf->M D)(sd:Zf):M D:=(f sd).bind λd=>(asB d).bind λb=>.ok (.bl (!b))
def C6 (c:Zf->M Bool)(f g:Zf->M D)(sd:Zf):M D:=(c sd).bind λb=>if b then f sd else g sd
def Gx {op}{f:Zf->M D}(h:Yt X E a f):Yt X E (.BoolOp op [a] pos) f:=by
 obtain⟨t,p,q⟩:=h
 exact⟨t,xS p,q⟩
def wq {d:D}{b:Bool}(h:asB d=.ok b):d=.bl b:=by
 unfold asB at h
 split at h
 .cases h;rfl
 .cases h
def Zbi {d:D}{x:XV}(h:asB d=.ex x):False:=by
 unfold asB at h
 split at h<;>cases h
theorem Po.asB {K:PySem.W.Frag}{α β:Type}{R:Hp->Hp->α->β->Prop}{Hf H:Hp}{d:D}{k:Bool->M α}{Q:β->Hp->Prop}(h:Po K E R Hf H ((asB d).bind k) Q):∃b,d=.bl b/\Po K E R Hf H (k b) Q:=by
 cases q:DL.asB d with
 |ok b=>rw[q] at h;exact⟨b,wq q,h⟩
 |ex x=>exact(Zbi q).elim
 |bad=>rw[q] at h;exact h.elim
def Rp {rest:List Expr}{f g:Zf->M D}(h:Yt X E a f)(h2:Yt X E (.BoolOp .And (b::rest) pos) g):Yt X E (.BoolOp .And (a::b::rest) pos) (Ro f g):=by
 obtain⟨t,p,q⟩:=h
 obtain⟨t2,p2,q2⟩:=h2
 refine⟨_,xR p p2,λH0 B Hf sd σ H Q sr h=>?_⟩
 refine q H0 B Hf sd σ H _ sr (Po.bind h λd v MB H1 _ g1 rv h1=>?_)
 obtain⟨c,rfl,h2⟩:=Po.asB h1
 refine⟨c,rep_bl.mp rv,?_⟩
 cases c with
 |true=>rw[AC rfl] at h2 ⊢;exact q2 H0 B MB sd σ H1 Q (sr.gr g1) h2
 |false=>rw[AD AY] at h2 ⊢;exact Po.ret (R:=rV X.K) g1.sub h2 (rep_bl.mpr rfl)
def mG {rest:List Expr}{f g:Zf->M D}(h:Yt X E a f)(h2:Yt X E (.BoolOp .Or (b::rest) pos) g):Yt X E (.BoolOp .Or (a::b::rest) pos) (YM f g):=by
 obtain⟨t,p,q⟩:=h
 obtain⟨t2,p2,q2⟩:=h2
 refine⟨_,vU p p2,λH0 B Hf sd σ H Q sr h=>?_⟩
 refine q H0 B Hf sd σ H _ sr (Po.bind h λd v MB H1 _ g1 rv h1=>?_)
 obtain⟨c,rfl,h2⟩:=Po.asB h1
 refine⟨c,rep_bl.mp rv,?_⟩
 cases c with
 |true=>rw[AC rfl] at h2 ⊢;exact Po.ret (R:=rV X.K) g1.sub h2 (rep_bl.mpr rfl)
 |false=>rw[AD AY] at h2 ⊢;exact q2 H0 B MB sd σ H1 Q (sr.gr g1) h2
def wo {f:Zf->M D}(h:Yt X E a f):Yt X E (.UnaryOp .Not a pos) (lU f):=by
 obtain⟨t,p,q⟩:=h
 refine⟨_,xQ p,λH0 B Hf sd σ H Q sr h=>?_⟩
 refine q H0 B Hf sd σ H _ sr (Po.bind h λd v MB H1 _ g1 rv h1=>?_)
 obtain⟨c,rfl,h2⟩:=Po.asB h1
 exact⟨c,rep_bl.mp rv,Po.ret (R:=rV X.K) g1.sub h2 (rep_bl.mpr rfl)⟩
def Kh {c:Expr}{f g:Zf->M D}{k:Zf->M Bool}(hc:B8 X E c k)(h:Yt X E a f)(h2:Yt X E b g):Yt X E (.IfExp c a b pos) (C6 k f g):=by
 obtain⟨t,p,q⟩:=hc
 obtain⟨t1,p1,q1⟩:=h
 obtain⟨t2,p2,q2⟩:=h2
 refine⟨_,B1 p p1 p2,λH0 B Hf sd σ H Q sr h=>?_⟩
 refine q H0 B Hf sd σ H _ sr (Po.bind h λc v MB H1 _ g1 rv h1=>?_)
 have e:c=v:=rv
 subst e
 cases c with
 |true=>rw[AC rfl] at h1 ⊢;exact q1 H0 B MB sd σ H1 Q (sr.gr g1) h1
 |false=>rw[AD AY] at h1 ⊢;exact q2 H0 B MB sd σ H1 Q (sr.gr g1) h1
end
section
variable {X:Cx}{E:XK}{pos:Pos}{a b:Expr}
def Ys (sd:Zf):M O:=.ok (.nx sd)
def Zw (f g:Zf->M O)(sd:Zf):M O:=(f sd).bind λo=>match o with
 |.nx sd'=>g sd'
 |o=>.ok o
def Qc:U3 X E [] Ys:=⟨_,Pt,λ_ _ Hf _ _ _ _ sr h=>h _ Hf _ (Same.refl _) sr⟩
def Zm {st:Stmt}{f:Zf->M O}(h:Wq X E st f):U3 X E [st] f:=by
 obtain⟨t,p,q⟩:=h
 exact⟨t,Xo p,q⟩
def Zi {st:Stmt}{rest:List Stmt}{f g:Zf->M O}(h:Wq X E st f)(h2:U3 X E rest g):U3 X E (st::rest) (Zw f g):=by
 obtain⟨t,p,q⟩:=h
 obtain⟨t2,p2,q2⟩:=h2
 refine⟨_,Qp p p2,λH0 B Hf sd σ H D sr h=>?_⟩
 refine q H0 B Hf sd σ H _ sr ?_
 unfold Zw at h
 cases e:f sd with
 |ok o=>
  rw[e] at h
  cases o with
  |nx sd'=>exact λσ' LZ H' e' sr'=>q2 H0 B LZ sd' σ' H' D sr' (PoS.weak e' h)
  |rt s=>exact h
  |bk sd'=>exact h
  |ct sd'=>exact h
 |ex x=>rw[e] at h;exact h
 |bad=>rw[e] at h;exact h
def Z7 (i:Nat)(f:Zf->M D)(sd:Zf):M O:=(f sd).bind λd=>.ok (.nx (sd.set i (some (.im d))))
def Zq (i:Nat){x:Str}{e:Expr}{f:Zf->M D}{pos':Pos}(hN:X.N.Nodup)(h:Yt X E e f)(hi:X.N[i]?=some x:=by rfl)(hx:VJ X.env.scope x:=by trivial)(hs:swapsWith e (some (.Name x pos')) pos.line X.env=pure false:=by rfl)(hf:X.fn x=true\/X.env.scope.names.lookup x=some .local:=by first|exact .inl rfl|exact .inr rfl|assumption):
  Wq X E (.Assign [.Name x pos'] e pos) (Z7 i f):=by
 obtain⟨t,p,q⟩:=h
 refine⟨_,V5 hN hi hx p hs hf,λH0 B Hf sd σ H D sr h=>?_⟩
 refine q H0 B Hf sd σ H _ sr (PoS.bind sr h λd v MB H1 _ g1 sr1 rv h1=>?_)
 exact h1 _ MB H1 (Same.refl _) (sr1.set_im i rv)
def Qq (f:Zf->M D)(sd:Zf):M O:=(f sd).bind λd=>.ok (.rt (.im d))
def Zs {e:Expr}{f:Zf->M D}(h:Yt X E e f):Wq X E (.Return (some e) pos) (Qq f):=by
 obtain⟨t,p,q⟩:=h
 refine⟨_,Gp p,λH0 B Hf sd σ H D sr h=>?_⟩
 refine q H0 B Hf sd σ H _ sr (PoS.bind sr h λd v MB H1 _ g1 sr1 rv h1=>?_)
 exact h1 v MB H1 (Same.refl _) sr1.fin rv
def Jt (c:Zf->M Bool)(f g:Zf->M O)(sd:Zf):M O:=(c sd).bind λb=>if b then f sd else g sd
def Qm {c:Expr}{xs ys:List Stmt}{k:Zf->M Bool}{f g:Zf->M O}(hc:B8 X E c k)(h:U3 X E xs f)(h2:U3 X E ys g):Wq X E (.If c xs ys pos) (Jt k f g):=by
 obtain⟨t,p,q⟩:=hc
 obtain⟨t1,p1,q1⟩:=h
 obtain⟨t2,p2,q2⟩:=h2
 refine⟨_,E9 p p1 p2,λH0 B Hf sd σ H D sr h=>?_⟩
 refine q H0 B Hf sd σ H _ sr (PoS.bind (R:=rQ) sr h λc v MB H1 _ g1 sr1 rv h1=>?_)
 have e:c=v:=rv
 subst e
 cases c with
 |true=>rw[AC rfl] at h1 ⊢;exact q1 H0 B MB sd σ H1 D sr1 h1
 |false=>rw[AD AY] at h1 ⊢;exact q2 H0 B MB sd σ H1 D sr1 h1
def Yg (c:Zf->M Bool)(f:Zf->M O):Nat->Zf->M O
 |0,_=>.bad
 |n+1,sd=>(c sd).bind λb=>if b then((f sd).bind λo=>match o with
   |.nx sd'=>Yg c f n sd'
   |.ct sd'=>Yg c f n sd'
   |.bk sd'=>.ok (.nx sd')
   |.rt s=>.ok (.rt s)) else .ok (.nx sd)
open Classical in
noncomputable def Gy (c:Zf->M Bool)(f:Zf->M O)(sd:Zf):M O:=if h:∃n,Yg c f n sd≠.bad then Yg c f (choose h) sd else .bad
theorem Kt (c:Zf->M Bool)(f:Zf->M O):∀(n m:Nat) (sd:Zf),n<=m->Yg c f n sd≠.bad->Yg c f m sd=Yg c f n sd
 |0,_,_,_,h=>absurd rfl h
 |n+1,0,_,hm,_=>absurd hm (by lia)
 |n+1,m+1,sd,hm,h=>by
  unfold Yg at h ⊢
  cases e:c sd with
  |ok b=>
   rw[e] at h
   simp only[M.bind_ok] at h ⊢
   cases b with
   |false=>rfl
   |true=>
    simp only[EB] at h ⊢
    cases e2:f sd with
    |ok o=>
     rw[e2] at h
     simp only[M.bind_ok] at h ⊢
     cases o with
     |nx sd'=>exact Kt c f n m sd' (by lia) h
     |ct sd'=>exact Kt c f n m sd' (by lia) h
     |bk sd'=>rfl
     |rt s=>rfl
    |ex x=>rfl
    |bad=>rfl
  |ex x=>rfl
  |bad=>rfl
def T1 {c:Zf->M Bool}{f:Zf->M O}{n:Nat}{sd:Zf}(h:Yg c f n sd≠.bad):Gy c f sd=Yg c f n sd:=by
 unfold Gy
 have hx:∃n,Yg c f n sd≠.bad:=⟨n,h⟩
 rw[dif_pos hx]
 have h2:=Classical.choose_spec hx
 rcases Nat.le_total n (Classical.choose hx) with l|l
 .exact Kt c f _ _ sd l h
 .exact(Kt c f _ _ sd l h2).symm
def T2 {c:Expr}{body:List Stmt}{k:Zf->M Bool}{f:Zf->M O}(hp:PassesOwn (model X.prog X.w) X.A X.env X.xe)(hc:B8 X E c k)(h:U3 X E body f):Wq X E (.While c body [] pos) (Gy k f):=by
 obtain⟨t,p,q⟩:=hc
 obtain⟨t1,p1,q1⟩:=h
 refine⟨_,B2 hp p p1,λH0 B Hf sd σ H D sr h=>?_⟩
 obtain⟨n,hn⟩:∃n,PoS X.K E H0 B Hf (Yg k f n sd) D:=by
  unfold Gy at h
  split at h
  .exact⟨_,h⟩
  .exact h.elim
 refine⟨λm σ' H'=>∃LZ sd',Same Hf LZ/\SR X.K H0 B LZ sd' σ' H'/\PoS X.K E H0 B LZ (Yg k f m sd') D,⟨n,Hf,sd,Same.refl _,sr,hn⟩,?_⟩
 rintro m σ1 H1 ⟨MB,sd1,e1,sr1,h1⟩
 cases m with
 |zero=>exact h1.elim
 |succ m=>
  unfold Yg at h1
  refine q H0 B MB sd1 σ1 H1 _ sr1 (PoS.bind (R:=rQ) sr1 h1 λc v MI H2 _ g2 sr2 rv h2=>?_)
  have e:c=v:=rv
  subst e
  cases c with
  |false=>
   rw[AD AY] at h2 ⊢
   exact h2 σ1 MI H2 (Same.refl _) sr2
  |true=>
   rw[AC rfl] at h2 ⊢
   refine⟨λσ' H'=>∃LZ sd',Same Hf LZ/\SR X.K H0 B LZ sd' σ' H'/\PoS X.K E H0 B LZ (Yg k f m sd') D,λσ' H' w=>⟨m,EC m,w⟩,?_⟩
   refine q1 H0 B MI sd1 σ1 H2 _ sr2 ?_
   cases e2:f sd1 with
   |ok o=>
    rw[e2] at h2
    cases o with
    |nx sd'=>exact λσ' LZ H' e' sr'=>⟨LZ,sd',e1.trans (g2.fz.trans e'),sr',PoS.weak e' h2⟩
    |ct sd'=>exact λσ' LZ H' e' sr'=>⟨LZ,sd',e1.trans (g2.fz.trans e'),sr',PoS.weak e' h2⟩
    |bk sd'=>exact h2
    |rt s=>exact h2
   |ex x=>rw[e2] at h2;exact h2
   |bad=>rw[e2] at h2;exact h2
end
section
variable {prog:Program}{w:World}{A:Around}{E:Value->Shared->Prop}
theorem T4 {it t:Addr}{items:Array Value}(hne:t≠it):∀(n i:Nat) (s:Shared) (Q:List Value->Shared->Prop),s.heap.IsListIter it t i->s.heap.IsList t items->i+n<=items.size ->
  (∀h',h'.IsListIter it t (i+n)->Heap.SameBut it s.heap h'->Q ((items.toList.drop i).take n) {s with heap:=h'})->wpAny (model prog w) A (draw (.ref it) n) Q E s
 |0,i,s,Q,hit,_,_,hQ=>by
  show wpAny _ _ (pure []) Q E s
  exact AE (by simpa using hQ s.heap hit (Heap.SameBut.refl ..))
 |n+1,i,s,Q,hit,ht,hle,hQ=>by
  have NN:i<items.size:=by lia
  show wpAny _ _ (pyNext (.ref it)>>=_) Q E s
  refine AA (KR hit ht (x:=items[i]) (by simp[NN]) λh₁ SE hs₁=>?_)
  refine AA (BY (T4 hne n (i+1) _ _ SE (ht.extBut hs₁.extBut hne) (by lia) λh₂ ZH fw=>AE ?_))
  have hd:items.toList.drop i=items[i]::items.toList.drop (i+1):=by simp[DB,NN]
  have:=hQ h₂ (by rw[show i+(n+1)=i+1+n by lia];exact ZH) (hs₁.trans fw)
  rw[hd,GP] at this
  exact this
def Gz {s:Shared}{t:Addr}{items:Array Value}{Q:List Value->Shared->Prop}(hh:A.handled=none)(ht:s.heap.IsList t items)(hQ:∀h',Heap.ExtBut s.heap.objs.size s.heap h'->Q items.toList {s with heap:=h'}):wpAny (model prog w) A (unpackItems (.ref t) items.size none) Q E s:=by
 have NN:t≠s.heap.objs.size:=by obtain⟨o,ho,_⟩:=ht;exact AI (AJ ho)
 unfold unpackItems
 refine AA ?_
 .unfold notIterableAtAll
  refine AA (IV ht.typeIs slot_list_iter.lookup ?_)
  refine AE ?_
  simp only[CS,DQ]
  refine AA (BY (EG ht ?_))
  refine AA (BY (T4 NN items.size 0 _ _ ⟨_,AH _ rfl,rfl,rfl⟩ (ht.push _) (by lia) λh₁ SE hs₁=>?_))
  have hall:List.take items.size (List.drop 0 items.toList)=items.toList:=by
   rw[HX];exact JC (by simp)
  rw[hall]
  rw[AD (by simp)]
  have pz:h₁.IsList t items:=(ht.push _).extBut hs₁.extBut NN
  refine AA (BY (LJ hh SE pz (by simp) λh₂ he₂=>?_))
  simp only[JY,CS,DQ]
  refine AE (hQ h₂ λb o hb e=>he₂ b o hb (hs₁.extBut b o hb (AB _ e)))
def Wu {s:Shared}{env:Env}{elts:List Expr}{x1}{pos:Pos}{t:Addr}{items:Array Value}{Q:Unit->Shared->Prop}(hh:A.handled=none)(ht:s.heap.IsList t items)(hn:(assignEach elts env).length=items.size)(US:(assignEach elts env).findIdx? (·.1)=none)(h:∀h',Heap.ExtBut s.heap.objs.size s.heap h'->wpAny (model prog w) A (assignInOrder ((assignEach elts env).map (·.2)) items.toList) Q E {s with heap:=h'}):
  wpAny (model prog w) A (assign (.Tuple elts x1 pos) env (.ref t)) Q E s:=by
 rw[assign_Tuple]
 refine AA (FK ?_)
 unfold unpack
 rw[hn,US]
 exact AA (BY (Gz hh ht h))
def Dl (x:Str):List V:=x.cps.toList.map λc=>V.str ⟨#[c]⟩
theorem Ab {it:Addr}{x:Str}{t:Tok}:∀(n i:Nat) (s:Shared) (Q:List Value->Shared->Prop),s.heap.IsStrIter it "str_ascii_iterator" x t i->i+n<=x.cps.size ->
  (∀h' tk us,h'.IsStrIter it "str_ascii_iterator" x t (i+n)->Heap.SameBut it s.heap h'->Vals (((Dl x).drop i).take n) us->Q us {s with heap:=h',toks:=tk})->wpAny (model prog w) A (draw (.ref it) n) Q E s
 |0,i,s,Q,hit,_,hQ=>by
  show wpAny _ _ (pure []) Q E s
  exact AE (hQ s.heap s.toks [] hit (Heap.SameBut.refl ..) (by simpa using Paired.nil))
 |n+1,i,s,Q,hit,hle,hQ=>by
  have NN:i<x.cps.size:=by lia
  show wpAny _ _ (pyNext (.ref it)>>=_) Q E s
  refine AA (wpAny_pyNext_ascii_item hit (c:=x.cps[i]) (by simp[NN]) λh₁ SE hs₁=>?_)
  refine AA (BY (Ab n (i+1) _ _ SE (by lia) λh₂ tk us ZH fw hv=>AE ?_))
  have hd:(Dl x).drop i=V.str ⟨#[x.cps[i]]⟩::(Dl x).drop (i+1):=by
   have hl:i<(Dl x).length:=by simp[Dl,NN]
   rw[DB hl];simp[Dl]
  refine hQ h₂ tk _ (by rw[show i+(n+1)=i+1+n by lia];exact ZH) (hs₁.trans fw) ?_
  rw[hd,GP]
  exact .cons ⟨_,rfl⟩ hv
def Pj {s:Shared}{x:Str}{t:Tok}{Q:List Value->Shared->Prop}(hh:A.handled=none)(ha:x.cps.all (·<128)=true)(hQ:∀h' tk us,Heap.ExtBut s.heap.objs.size s.heap h'->Vals (Dl x) us->Q us {s with heap:=h',toks:=tk}):wpAny (model prog w) A (unpackItems (.str x t) x.cps.size none) Q E s:=by
 unfold unpackItems
 refine AA ?_
 .unfold notIterableAtAll
  refine AA (IV (typeIs_str s x t) PySem.F.slot_str_iter.lookup ?_)
  refine AE ?_
  simp only[CS,DQ]
  refine AA (BY (wpAny_pyIter_ascii ha ?_))
  refine AA (BY (Ab x.cps.size 0 _ _ ⟨_,AH _ rfl,rfl,rfl⟩ (by lia) λh₁ tk us SE hs₁ hv=>?_))
  have hall:List.take x.cps.size (List.drop 0 (Dl x))=Dl x:=by
   rw[HX];exact JC (by simp[Dl])
  rw[hall] at hv
  have hl:us.length=x.cps.size:=by rw[<-hv.length];simp[Dl]
  rw[AD (by simp[hl])]
  refine AA (BY (wpAny_pyNext_ascii_end hh SE (by simp) λh₂ he₂=>?_))
  simp only[JY,CS,DQ]
  refine AE (hQ h₂ tk us (λb o hb e=>he₂ b o hb (hs₁.extBut b o hb (AB _ e))) hv)
def G0 {s:Shared}{env:Env}{elts:List Expr}{x1}{pos:Pos}{x:Str}{t:Tok}{Q:Unit->Shared->Prop}(hh:A.handled=none)(ha:x.cps.all (·<128)=true)(hn:(assignEach elts env).length=x.cps.size)(US:(assignEach elts env).findIdx? (·.1)=none)(h:∀h' tk us,Heap.ExtBut s.heap.objs.size s.heap h'->Vals (Dl x) us->wpAny (model prog w) A (assignInOrder ((assignEach elts env).map (·.2)) us) Q E {s with heap:=h',toks:=tk}):
  wpAny (model prog w) A (assign (.Tuple elts x1 pos) env (.str x t)) Q E s:=by
 rw[assign_Tuple]
 refine AA (FK ?_)
 unfold unpack
 rw[hn,US]
 exact AA (BY (Pj hh ha h))
end
section
variable {X:Cx}{pos:Pos}
def lT (K:PySem.W.Frag)(n:Nat)(t:YO):TG:=λv σ H Q=>(∃a xs,v=.ref a/\(SqT K H a xs\/SqL K H a xs)/\xs.length=n/\t xs σ H Q)\/∃x:Str,v=.str x/\x.cps.all (·<128)=true/\x.cps.size=n/\t (Dl x) σ H Q
def ng {es:List Expr}{k:Nat}{t:YO}{n:Nat}(hc:X.calm=true)(h:cN X es t)(hn:(assignEach es X.env).length=n:=by rfl)(RA:(assignEach es X.env).findIdx? (·.1)=none:=by rfl):PG X (.Tuple es k pos) (lT X.K n t):=by
 intro pins s σ H v u Q I r hw
 rcases hw with⟨a,xs,e1,hq,hl,hw⟩|⟨x,e1,ha,hl,hw⟩
 case inr=>
  subst e1
  obtain⟨tk,rfl⟩:=(show ∃t,u=Value.str x t from r)
  refine G0 (I.ok.hd hc) ha (by rw[hn,hl]) RA λh' tk us hx hv=>?_
  have I1:Inv X pins σ H {s with heap:=h',toks:=tk}:=I.kept (t':=tk) λb o e=>hx b o (AI (AJ e)) e
  exact h pins _ σ H (Dl x) _ Q I1 hv hw
 subst e1
 cases r
 rcases hq with hq|hq
 .obtain⟨its,rv,ht,hz⟩:=I.tuple hq
  refine assign_Tuple_tuple (I.ok.hd hc) ht (by simp[hn,<-hl,rv.length]) RA λh' hx=>?_
  have I1:Inv X pins σ H {s with heap:=h'}:=I.kept (t':=s.toks) λb o e=>hx b o (AI (AJ e)) e
  exact h pins _ σ H xs _ Q I1 (by simpa using rv) hw
 .obtain⟨its,rv,ht,hz⟩:=I.list hq
  refine Wu (I.ok.hd hc) ht.isList (by simp[hn,<-hl,rv.length]) RA λh' hx=>?_
  have I1:Inv X pins σ H {s with heap:=h'}:=I.kept (t':=s.toks) λb o e=>hx b o (AI (AJ e)) e
  exact h pins _ σ H xs _ Q I1 (by simpa using rv) hw
end
def YL (X:Cx)(tg:Expr)(g:D->Zf->M Zf):Prop:=
 ∃t:TG,PG X tg t/\∀(H0:Hp) (B:Addr->Prop) (Hf:Hp) (sd:Zf) (σ:L2.St) (H:Hp) (v:V) (d:D) (sd':Zf) (Q:L2.St->Hp->Prop),SR X.K H0 B Hf sd σ H->Rep X.K Hf d v->g d sd=.ok sd' ->
  (∀σ',SR X.K H0 B Hf sd' σ' H->Q σ' H)->t v σ H Q
def eN (X:Cx)(ts:List Expr)(g:List D->Zf->M Zf):Prop:=
 ∃t:YO,cN X ts t/\∀(H0:Hp) (B:Addr->Prop) (Hf:Hp) (sd:Zf) (σ:L2.St) (H:Hp) (vs:List V) (ds:List D) (sd':Zf) (Q:L2.St->Hp->Prop),SR X.K H0 B Hf sd σ H->Reps X.K Hf ds vs->g ds sd=.ok sd' ->
  (∀σ',SR X.K H0 B Hf sd' σ' H->Q σ' H)->t vs σ H Q
section
variable {X:Cx}{E:XK}{pos:Pos}{a b:Expr}
def Ut (i:Nat)(d:D)(sd:Zf):M Zf:=.ok (sd.set i (some (.im d)))
def Qr (i:Nat){x:Str}(hN:X.N.Nodup)(hi:X.N[i]?=some x:=by rfl)(hx:VJ X.env.scope x:=by trivial)(hf:X.fn x=true\/X.env.scope.names.lookup x=some .local:=by first|exact .inl rfl|exact .inr rfl|assumption):
  YL X (.Name x pos) (Ut i):=by
 refine⟨_,Pu hN hi hx hf,λH0 B Hf sd σ H v d sd' Q sr r e h=>?_⟩
 cases e
 exact h _ (sr.set_im i r)
def Wv:List D->Zf->M Zf
 |[],sd=>.ok sd
 |_,_=>.bad
def Yn (g:D->Zf->M Zf)(gs:List D->Zf->M Zf):List D->Zf->M Zf
 |d::ds,sd=>(g d sd).bind λsd'=>gs ds sd'
 |_,_=>.bad
def V9:eN X [] Wv:=by
 refine⟨_,Fe,λH0 B Hf sd σ H vs ds sd' Q sr r e h=>?_⟩
 cases ds with
 |nil=>cases e;exact⟨reps_nil.mp r,h σ sr⟩
 |cons d ds=>cases e
def Yb {es:List Expr}{g:D->Zf->M Zf}{gs:List D->Zf->M Zf}(h1:YL X a g)(h2:eN X es gs)(hs:(assignEach (a::es) X.env).map (·.2)=assign a X.env::(assignEach es X.env).map (·.2):=by rfl):eN X (a::es) (Yn g gs):=by
 obtain⟨t,p,q⟩:=h1
 obtain⟨t2,p2,q2⟩:=h2
 refine⟨_,P8 p p2 hs,λH0 B Hf sd σ H vs ds sd' Q sr r e h=>?_⟩
 cases ds with
 |nil=>cases e
 |cons d ds=>
  obtain⟨v,vr,rfl,rv,rr⟩:=reps_cons.mp r
  cases e1:g d sd with
  |ok sd1=>
   have e':gs ds sd1=.ok sd':=by
    have e:(g d sd).bind (λsd'=>gs ds sd')=.ok sd':=e
    rw[e1] at e
    exact e
   exact⟨v,vr,rfl,q H0 B Hf sd σ H v d sd1 _ sr rv e1 λσ1 sr1=>q2 H0 B Hf sd1 σ1 H vr ds sd' Q sr1 rr e' h⟩
  |ex x=>have e:(g d sd).bind (λsd'=>gs ds sd')=.ok sd':=e;rw[e1] at e;cases e
  |bad=>have e:(g d sd).bind (λsd'=>gs ds sd')=.ok sd':=e;rw[e1] at e;cases e
def U6 (n:Nat)(gs:List D->Zf->M Zf):D->Zf->M Zf
 |.tup ds,sd=>if ds.length=n then gs ds sd else .bad
 |.lst ds,sd=>if ds.length=n then gs ds sd else .bad
 |.str x,sd=>if x.cps.size=n/\x.cps.all (·<128)=true then gs (x.cps.toList.map λc=>.str ⟨#[c]⟩) sd else .bad
 |_,_=>.bad
theorem Ac {K:PySem.W.Frag}{H:Hp}:∀l:List Nat,Reps K H (l.map λc=>D.str ⟨#[c]⟩) (l.map λc=>V.str ⟨#[c]⟩)
 |[]=>Reps.nil
 |_::l=>Reps.cons (rep_str.mpr rfl) (Ac l)
def Ww {es:List Expr}{k:Nat}{gs:List D->Zf->M Zf}{n:Nat}(hc:X.calm=true)(h:eN X es gs)(hn:(assignEach es X.env).length=n:=by rfl)(RA:(assignEach es X.env).findIdx? (·.1)=none:=by rfl):YL X (.Tuple es k pos) (U6 n gs):=by
 obtain⟨t,p,q⟩:=h
 refine⟨_,ng hc p hn RA,λH0 B Hf sd σ H v d sd' Q sr r e h=>?_⟩
 unfold U6 at e
 split at e
 .rename_i ds
  split at e
  .rename_i hl
   obtain⟨a,xs,rfl,ha,hr⟩:=Qg r
   exact .inl ⟨a,xs,rfl,.inl (Same.seqT sr.sub ha),by rw[<-hr.length];exact hl,q H0 B Hf sd σ H xs ds sd' Q sr hr e h⟩
  .cases e
 .rename_i ds
  split at e
  .rename_i hl
   obtain⟨a,xs,rfl,ha,hr⟩:=rep_lst.mp r
   exact .inl ⟨a,xs,rfl,.inr (sr.sub.seq ha),by rw[<-hr.length];exact hl,q H0 B Hf sd σ H xs ds sd' Q sr hr e h⟩
  .cases e
 .rename_i x
  split at e
  .rename_i hl
   exact .inr ⟨x,rep_str.mp r,hl.2,hl.1,q H0 B Hf sd σ H (Dl x) _ sd' Q sr (Ac x.cps.toList) e h⟩
  .cases e
 .cases e
def eM (f:Zf->M D)(g:D->Zf->M Zf)(sd:Zf):M O:=(f sd).bind λd=>match g d sd with
 |.ok sd'=>.ok (.nx sd')
 |_=>.bad
def zI {e tg:Expr}{f:Zf->M D}{g:D->Zf->M Zf}(h:Yt X E e f)(hg:YL X tg g)(hs:swapsWithSole [tg] e pos.line X.env=pure false:=by rfl)(hw:swappedStores [tg] e X.env=pure none:=by rfl)(h1:(assignEach [tg] X.env).map (·.2)=[assign tg X.env]:=by rfl):Wq X E (.Assign [tg] e pos) (eM f g):=by
 obtain⟨t,p,q⟩:=h
 obtain⟨jX,pg,qg⟩:=hg
 refine⟨_,xO p pg hs hw h1,λH0 B Hf sd σ H D sr h=>?_⟩
 refine q H0 B Hf sd σ H _ sr (PoS.bind sr h λd v MB H1 _ g1 sr1 rv h1=>?_)
 split at h1
 .rename_i sd' e1
  exact qg H0 B MB sd σ H1 v d sd' _ sr1 rv e1 λσ' sr'=>h1 σ' MB H1 (Same.refl _) sr'
 .exact h1.elim
def cT (i j:Nat)(fs:Zf->M (List D))(sd:Zf):M O:=(fs sd).bind λds=>match ds with
 |[d,e]=>.ok (.nx ((sd.set i (some (.im d))).set j (some (.im e))))
 |_=>.bad
def zH (i j:Nat){x y:Str}{fs:Zf->M (List D)}{px py pt:Pos}{kt k2 SS}(hc:X.calm=true)(hN:X.N.Nodup)(ha:S2 X E [a,b] fs)(hw:swappedStores [.Tuple [.Name x px,.Name y py] kt pt] (.Tuple [a,b] k2 SS) X.env=pure (some [x,y]))(hi:X.N[i]?=some x:=by rfl)(hj:X.N[j]?=some y:=by rfl)(aP:i≠j:=by decide)(hx:X.env.scope.names.lookup x=some .local:=by rfl)(hy:X.env.scope.names.lookup y=some .local:=by rfl)(hs:swapsWithSole [.Tuple [.Name x px,.Name y py] kt pt] (.Tuple [a,b] k2 SS) pos.line X.env=pure false:=by rfl):
  Wq X E (.Assign [.Tuple [.Name x px,.Name y py] kt pt] (.Tuple [a,b] k2 SS) pos) (cT i j fs):=by
 obtain⟨t,p,q⟩:=ha
 refine⟨_,xN hc hN hi hj aP hx hy p hw hs,λH0 B Hf sd σ H D sr h=>?_⟩
 refine q H0 B Hf sd σ H _ sr (PoS.bind sr h λds vs MB H1 _ g1 sr1 rs h1=>?_)
 split at h1
 .rename_i d e
  obtain⟨v,w,rfl,rv,PM⟩:=mH rs
  exact⟨v,w,rfl,h1 _ MB H1 (Same.refl _) ((sr1.set_im i rv).set_im j PM)⟩
 .exact h1.elim
def S.toD:S->M D
 |.im d=>.ok d
 |.ow ds=>.ok (.lst ds)
 |.od _=>.bad
 |.dk _=>.bad
 |.xc _=>.bad
 |.fn _=>.bad
 |.ob _ _ _=>.bad
 |.fl _ _ _=>.bad
def Bw (K:PySem.W.Frag)(F:List D->M S):Sp:=λvs H Q _=>∃Hf ds s,Same Hf H/\Reps K Hf ds vs/\F ds=.ok s/\∀v LZ H',Gr Hf H LZ H'->RS K H LZ H' s v->Q v H'
def Wc (r:M O):M S:=r.bind λo=>match o with
 |.rt s=>.ok s
 |.nx _=>.ok (.im .non)
 |_=>.bad
def V3 (n m:Nat)(f:Zf->M O)(ds:List D):M S:=if ds.length=n then Wc (f (ds.map (λd=>some (S.im d))++List.replicate m none)) else .bad
def Ad {K:PySem.W.Frag}{N:List Str}{Hf H:Hp}{ds:List D}{vs:List V}{m:Nat}(e:Same Hf H)(r:Reps K Hf ds vs)(hN:N.length=ds.length+m):
  SR K H (λa=>Lv H a/\Hf a=none) Hf (ds.map (λd=>some (S.im d))++List.replicate m none) (L2.Y6 N vs) H where
 sub:=e
 all:=Same.refl _
 ban:=λ_ h=>h.2
 bt:=λ_ h=>h.1
 len:=by
  unfold L2.Y6
  have:=r.length
  simp only[BE,BM,DE]
  lia
 imS:=λi d hi hz=>by
  unfold L2.Y6
  by_cases hl:i<ds.length
  .rw[BN (by simpa using hl),BP] at hi
   cases q:ds[i]? with
   |none=>rw[q] at hi;cases hi
   |some d'=>
    rw[q] at hi
    cases hi
    obtain⟨v,e1,e2⟩:=r.get q
    refine⟨v,?_,e2⟩
    have:i<vs.length:=(AG.mp e1).1
    rw[BN (by simpa using this),BP,e1]
    rfl
  .rw[BZ (by simpa using hl),CN] at hi
   split at hi<;>cases hi
 ow:=λi t hi ho=>by
  by_cases hl:i<ds.length
  .rw[BN (by simpa using hl),BP] at hi
   cases q:ds[i]? with
   |none=>rw[q] at hi;cases hi
   |some d'=>rw[q] at hi;cases hi;cases ho
  .rw[BZ (by simpa using hl),CN] at hi
   split at hi<;>cases hi
 sep:=λi j t _ p _ hi ho _ _ _ _=>by
  by_cases hl:i<ds.length
  .rw[BN (by simpa using hl),BP] at hi
   cases q:ds[i]? with
   |none=>rw[q] at hi;cases hi
   |some d'=>rw[q] at hi;cases hi;cases ho
  .rw[BZ (by simpa using hl),CN] at hi
   split at hi<;>cases hi
def Jz {P:Program}{w:World}{K:PySem.W.Frag}{mg:Str->Option Value}{base:Heap}{x qual:Str}{st:Stmt}{f:Addr}{fd:FuncData}{N ps:List Str}{k m n:Nat}{fb:Zf->M O}(F:Fun K x qual st f fd)(sc:MA N ps (Zg st))(hn:ps.length=n)(hN:N.length=n+m)(ND:∀(ME:Value) (A:Around) (outer:List Env) (s:Shared) (H:Hp) (E:XK),Room k (A.deeper (envOfC qual (Zg st) s.heap.objs.size f ME)) ->
   U3 (Jl Yi P w K mg base N qual (Zg st) f ME A outer s H E).nox E0 (Qz st) fb):MC P w K mg base Yi (k+1) f fd ps (Bw K (V3 n m fb)):=by
 refine F.ok sc (λvs H Q E h=>?_) (λME A outer s H vs Q E hr h=>?_)
 .obtain⟨Hf,ds,s,e,r,hF,_⟩:=h
  unfold V3 at hF
  split at hF
  .rename_i hl
   rw[<-r.length,hl,hn]
  .cases hF
 .obtain⟨Hf,ds,s',e,r,hF,q⟩:=h
  obtain⟨t,p,qt⟩:=ND ME A outer s H E hr
  unfold V3 at hF
  split at hF
  .rename_i hl
   refine⟨t,p,qt H _ Hf _ (L2.Y6 N vs) H _ (Ad (N:=N) (m:=m) e r (by lia)) ?_⟩
   generalize fb (List.map (λd=>some (S.im d)) ds++List.replicate m none)=ro at hF
   have back:∀{v:V}{LZ H':Hp}{s:DL.S},Same Hf LZ->RU H (λa=>Lv H a/\Hf a=none) LZ H'->RS K H LZ H' s v->s=s'->Q v H':=λ{v LZ H' s} e1 e2 e3 e4=>by
    subst e4
    exact q v LZ H' ⟨e1,e2.sub,e2.all,λa h1 h2=>e2.ban a ⟨h1,h2⟩⟩ e3
   cases ro with
   |ok o=>
    cases o with
    |rt s2=>
     have e':s2=s':=by cases hF;rfl
     exact λv LZ H' e1 e2 e3=>back e1 e2 e3 e'
    |nx sd'=>
     have e':DL.S.im .non=s':=by cases hF;rfl
     exact λσ' LZ H' e1 sr'=>back (v:=.non) (s:=DL.S.im .non) e1 sr'.fin (show Rep K LZ .non .non from rep_non.mpr rfl) e'
    |bk sd'=>cases hF
    |ct sd'=>cases hF
   |ex x=>cases hF
   |bad=>cases hF
  .cases hF
def Z1 (F:List D->M S)(fs:Zf->M (List D))(sd:Zf):M D:=(fs sd).bind λds=>match F ds with
 |.ok s=>s.toD
 |_=>.bad
def Xp {k:Nat}{f:Addr}{fd:FuncData}{ps:List Str}{F:List D->M S}{x:Str}{p:Pos}{es:List Expr}{fs:Zf->M (List D)}(G:MC X.prog X.w X.K X.mg X.base Yi k f fd ps (Bw X.K F))(hr:Room k X.A)(hm:X.mg x=some (.ref f))(hk:PySem.W.keepIn X.K (.ref f)=true)(hb:Binds X.K fd ps [])(ha:S2 X E (a::es) fs)(hg:Gl X x:=by rfl) (NT:(x==("__debug__":Str))=false:=by decide) (he:starEach (a::es) X.env=(false,eval a X.env)::starEach es X.env:=by rfl) (MT:(backTo pos (starEach es X.env)).any (·.1)=false:=by rfl):
  Yt X E (.Call (.Name x p) (a::es) [] pos) (Z1 F fs):=by
 obtain⟨t,pt,qt⟩:=ha
 refine⟨_,Ve (dvs:=[]) (E:=E0) G hr hg hm hk hb .nil Kf pt NT he MT,λH0 B Hf sd σ H Q sr h=>?_⟩
 refine qt H0 B Hf sd σ H _ sr (Po.bind h λds vs MB H1 _ g1 rs h1=>?_)
 split at h1
 .rename_i s e
  refine⟨MB,ds,s,g1.sub,by rw[BJ];exact rs,e,λv LZ H' g2 rv=>?_⟩
  cases s with
  |im d=>exact h1 v LZ H' g2 rv
  |ow es=>
   obtain⟨p,rfl,e1,e2,xs,e3,e4⟩:=rv
   refine h1 _ (upd LZ p (.lst xs)) H' ⟨g2.fz.trans (Qa e2 _),λb u q=>?_,g2.all,λa h1 h2=>?_⟩ (rep_lst.mpr ⟨p,xs,rfl,SqL.of Zo,e4.mono (Qa e2 _)⟩)
   .by_cases hb:b=p
    .subst hb;rw[Zo] at q;rw[e3];exact q
    .rw[Zl hb] at q;exact g2.sub b u q
   .have:a≠p:=λz=>h1.nn (z▸e1)
    rw[Zl this];exact g2.ban a h1 h2
  |od kvs=>exact h1.elim
  |dk kvs=>exact h1.elim
  |xc x=>exact h1.elim
  |fn x=>exact h1.elim
  |ob a c r=>exact h1.elim
  |fl a g q=>exact h1.elim
 .exact h1.elim
end
mutual
def D.eq:D->D->Bool
 |.non,.non=>true
 |.bl a,.bl b=>a==b
 |.bl a,.int b=>(if a then 1 else 0)==b
 |.int a,.bl b=>a==(if b then 1 else 0)
 |.int a,.int b=>a==b
 |.str a,.str b=>a==b
 |.tup xs,.tup ys=>D.eqs xs ys
 |.lst xs,.lst ys=>D.eqs xs ys
 |_,_=>false
def D.eqs:List D->List D->Bool
 |[],[]=>true
 |x::xs,y::ys=>D.eq x y&&D.eqs xs ys
 |_,_=>false
end
mutual
def D.dep:D->Nat
 |.tup ds=>D.deps ds+1
 |.lst ds=>D.deps ds+1
 |_=>0
def D.deps:List D->Nat
 |[]=>0
 |d::ds=>max (D.dep d) (D.deps ds)
end
mutual
theorem D.eq_refl:∀d:D,D.eq d d=true
 |.non=>by rw[D.eq]
 |.bl b=>by rw[D.eq];simp
 |.int i=>by rw[D.eq];simp
 |.str x=>by rw[D.eq];simp
 |.tup ds=>by rw[D.eq];exact D.eqs_refl ds
 |.lst ds=>by rw[D.eq];exact D.eqs_refl ds
theorem D.eqs_refl:∀ds:List D,D.eqs ds ds=true
 |[]=>by rw[D.eqs]
 |d::ds=>by rw[D.eqs,D.eq_refl d,D.eqs_refl ds];rfl
end
theorem D.eqs_all:∀ds es:List D,D.eqs ds es=((List.range (min ds.length es.length)).all (λj=>D.eq (ds.getD j .non) (es.getD j .non))&&ds.length==es.length)
 |[],[]=>by rw[D.eqs];rfl
 |[],_::_=>by rw[D.eqs];simp;all_goals (intros;simp_all)
 |_::_,[]=>by rw[D.eqs];simp;all_goals (intros;simp_all)
 |d::ds,e::es=>by
  have h:min (d::ds).length (e::es).length=min ds.length es.length+1:=by simp only[AW];lia
  rw[D.eqs,D.eqs_all ds es,h,GE,DV,List.all_map,Bool.and_assoc]
  congr 1
  simp only[AW]
  congr 1
  by_cases q:ds.length=es.length
  .simp[q]
  .have q':¬ds.length+1=es.length+1:=by lia
   simp[q]
section
variable {X:Cx}{pins:List (Addr×Obj)}{σ:L2.St}{H:Hp}{s:Shared}
def nZ (I:Inv X pins σ H s){a:Addr}{xs ys:List V}(h1:SqT X.K H a xs)(h2:SqL X.K H a ys):False:=by
 obtain⟨its,_,⟨o,e,c,_⟩,_⟩:=I.tuple h1
 obtain⟨its2,_,p,_⟩:=I.list h2
 obtain⟨o2,e2,c2,_⟩:=p.isList
 rw[e] at e2
 cases e2
 rw[c] at c2
 exact absurd c2 (by decide)
mutual
theorem Pw (I:Inv X pins σ H s):∀(d d':D) (v:V),Rep X.K H d v->Rep X.K H d' v->d=d'
 |.non,d',v,h1,h2=>by
  rw[rep_non] at h1;subst h1
  cases d' with
  |non=>rfl
  |bl b=>rw[rep_bl] at h2;cases h2
  |int b=>rw[rep_int] at h2;cases h2
  |str b=>rw[rep_str] at h2;cases h2
  |tup b=>rw[rep_tup] at h2;obtain⟨_,_,e,_⟩:=h2;cases e
  |lst b=>rw[rep_lst] at h2;obtain⟨_,_,e,_⟩:=h2;cases e
 |.bl a,d',v,h1,h2=>by
  rw[rep_bl] at h1;subst h1
  cases d' with
  |non=>rw[rep_non] at h2;cases h2
  |bl b=>rw[rep_bl] at h2;cases h2;rfl
  |int b=>rw[rep_int] at h2;cases h2
  |str b=>rw[rep_str] at h2;cases h2
  |tup b=>rw[rep_tup] at h2;obtain⟨_,_,e,_⟩:=h2;cases e
  |lst b=>rw[rep_lst] at h2;obtain⟨_,_,e,_⟩:=h2;cases e
 |.int a,d',v,h1,h2=>by
  rw[rep_int] at h1;subst h1
  cases d' with
  |non=>rw[rep_non] at h2;cases h2
  |bl b=>rw[rep_bl] at h2;cases h2
  |int b=>rw[rep_int] at h2;cases h2;rfl
  |str b=>rw[rep_str] at h2;cases h2
  |tup b=>rw[rep_tup] at h2;obtain⟨_,_,e,_⟩:=h2;cases e
  |lst b=>rw[rep_lst] at h2;obtain⟨_,_,e,_⟩:=h2;cases e
 |.str a,d',v,h1,h2=>by
  rw[rep_str] at h1;subst h1
  cases d' with
  |non=>rw[rep_non] at h2;cases h2
  |bl b=>rw[rep_bl] at h2;cases h2
  |int b=>rw[rep_int] at h2;cases h2
  |str b=>rw[rep_str] at h2;cases h2;rfl
  |tup b=>rw[rep_tup] at h2;obtain⟨_,_,e,_⟩:=h2;cases e
  |lst b=>rw[rep_lst] at h2;obtain⟨_,_,e,_⟩:=h2;cases e
 |.tup ds,d',v,h1,h2=>by
  obtain⟨a,xs,rfl,ha,hr⟩:=Qg h1
  cases d' with
  |non=>rw[rep_non] at h2;cases h2
  |bl b=>rw[rep_bl] at h2;cases h2
  |int b=>rw[rep_int] at h2;cases h2
  |str b=>rw[rep_str] at h2;cases h2
  |tup es=>
   obtain⟨b,ys,e,hb,hr2⟩:=Qg h2
   cases e
   have:=I.tuple_inj ha hb
   subst this
   rw[Rq I ds es xs hr hr2]
  |lst es=>
   obtain⟨b,ys,e,hb,hr2⟩:=rep_lst.mp h2
   cases e
   exact(nZ I ha hb).elim
 |.lst ds,d',v,h1,h2=>by
  obtain⟨a,xs,rfl,ha,hr⟩:=rep_lst.mp h1
  cases d' with
  |non=>rw[rep_non] at h2;cases h2
  |bl b=>rw[rep_bl] at h2;cases h2
  |int b=>rw[rep_int] at h2;cases h2
  |str b=>rw[rep_str] at h2;cases h2
  |tup es=>
   obtain⟨b,ys,e,hb,hr2⟩:=Qg h2
   cases e
   exact(nZ I hb ha).elim
  |lst es=>
   obtain⟨b,ys,e,hb,hr2⟩:=rep_lst.mp h2
   cases e
   have:=I.list_inj ha hb
   subst this
   rw[Rq I ds es xs hr hr2]
theorem Rq (I:Inv X pins σ H s):∀(ds es:List D) (vs:List V),Reps X.K H ds vs->Reps X.K H es vs->ds=es
 |[],[],_,_,_=>rfl
 |[],e::es,vs,h1,h2=>by
  rw[reps_nil] at h1;subst h1
  obtain⟨_,_,z,_⟩:=reps_cons.mp h2
  cases z
 |d::ds,[],vs,h1,h2=>by
  rw[reps_nil] at h2;subst h2
  obtain⟨_,_,z,_⟩:=reps_cons.mp h1
  cases z
 |d::ds,e::es,vs,h1,h2=>by
  obtain⟨v,r,rfl,a1,a2⟩:=reps_cons.mp h1
  obtain⟨v',r',z,b1,b2⟩:=reps_cons.mp h2
  cases z
  rw[Pw I d e v a1 b1,Rq I ds es r a2 b2]
end
structure Cm (A:Around) (s:Shared) (u v:Value) (b:Bool):Prop where
 rc:SeqAt.RcAt A s u v b
 ne:SeqAt.RcNeAt A s u v (!b)
 eq:SeqAt.EqAt A s u v b
mutual
theorem Mf (I:Inv X pins σ H s):∀(x y:D) (A:Around) (v w:V) (u1 u2:Value),A.units+x.dep<cLine->Rep X.K H x v->Rep X.K H y w->RelV v u1->RelV w u2->Cm A s u1 u2 (D.eq x y)
 |.non,y,A,v,w,u1,u2,hu,rx,ry,r1,r2=>by
  rw[rep_non] at rx;subst rx
  have r1:u1=Value.none:=r1
  subst r1
  have MN:A.units<cLine:=by lia
  cases y with
  |non=>rw[rep_non] at ry;subst ry;cases (show u2=Value.none from r2);rw[D.eq];exact⟨.none_none,.none_none,.same _⟩
  |bl b=>rw[rep_bl] at ry;subst ry;cases (show u2=Value.bool b from r2);rw[D.eq];exact⟨.none_bool b,.none_bool b,.none_bool b⟩;all_goals (intros;simp_all)
  |int b=>rw[rep_int] at ry;subst ry;obtain⟨t,q⟩:=(show ∃t,u2=Value.int b t from r2);subst q;rw[D.eq];exact⟨.none_int b t,.none_int b t,.none_int b t⟩;all_goals (intros;simp_all)
  |str b=>rw[rep_str] at ry;subst ry;obtain⟨t,q⟩:=(show ∃t,u2=Value.str b t from r2);subst q;rw[D.eq];exact⟨.none_str b t,.none_str b t,.none_str b t⟩;all_goals (intros;simp_all)
  |tup es=>
   obtain⟨p,xs,rfl,hp,hr⟩:=Qg ry
   cases (show u2=Value.ref p from r2)
   obtain⟨its,_,ht,_⟩:=I.tuple hp
   rw[D.eq]
   exact⟨.none_tuple ht MN,.none_tuple ht MN,.none_tuple ht MN⟩
   all_goals (intros;simp_all)
  |lst es=>
   obtain⟨p,xs,rfl,hp,hr⟩:=rep_lst.mp ry
   cases (show u2=Value.ref p from r2)
   obtain⟨its,_,ht,_⟩:=I.list hp
   rw[D.eq]
   exact⟨.none_list ht.isList MN,.none_list ht.isList MN,.none_list ht.isList MN⟩
   all_goals (intros;simp_all)
 |.bl a,y,A,v,w,u1,u2,hu,rx,ry,r1,r2=>by
  rw[rep_bl] at rx;subst rx
  have r1:u1=Value.bool a:=r1
  subst r1
  have MN:A.units<cLine:=by lia
  cases y with
  |non=>rw[rep_non] at ry;subst ry;cases (show u2=Value.none from r2);rw[D.eq];exact⟨.bool_none a,.bool_none a,.bool_none a⟩;all_goals (intros;simp_all)
  |bl b=>rw[rep_bl] at ry;subst ry;cases (show u2=Value.bool b from r2);rw[D.eq];exact⟨.bool_bool a b,.bool_bool a b,.bool_bool a b⟩
  |int b=>rw[rep_int] at ry;subst ry;obtain⟨t,q⟩:=(show ∃t,u2=Value.int b t from r2);subst q;rw[D.eq];exact⟨.bool_int a b t,.bool_int a b t,.bool_int a b t⟩
  |str b=>rw[rep_str] at ry;subst ry;obtain⟨t,q⟩:=(show ∃t,u2=Value.str b t from r2);subst q;rw[D.eq];exact⟨.bool_str a b t,.bool_str a b t,.bool_str a b t⟩;all_goals (intros;simp_all)
  |tup es=>
   obtain⟨p,xs,rfl,hp,hr⟩:=Qg ry
   cases (show u2=Value.ref p from r2)
   obtain⟨its,_,ht,_⟩:=I.tuple hp
   rw[D.eq]
   exact⟨.bool_tuple a ht MN,.bool_tuple a ht MN,.bool_tuple a ht MN⟩
   all_goals (intros;simp_all)
  |lst es=>
   obtain⟨p,xs,rfl,hp,hr⟩:=rep_lst.mp ry
   cases (show u2=Value.ref p from r2)
   obtain⟨its,_,ht,_⟩:=I.list hp
   rw[D.eq]
   exact⟨.bool_list a ht.isList MN,.bool_list a ht.isList MN,.bool_list a ht.isList MN⟩
   all_goals (intros;simp_all)
 |.int a,y,A,v,w,u1,u2,hu,rx,ry,r1,r2=>by
  rw[rep_int] at rx;subst rx
  obtain⟨t1,q1⟩:=(show ∃t,u1=Value.int a t from r1)
  subst q1
  have MN:A.units<cLine:=by lia
  cases y with
  |non=>rw[rep_non] at ry;subst ry;cases (show u2=Value.none from r2);rw[D.eq];exact⟨.int_none a t1,.int_none a t1,.int_none a t1⟩;all_goals (intros;simp_all)
  |bl b=>rw[rep_bl] at ry;subst ry;cases (show u2=Value.bool b from r2);rw[D.eq];exact⟨.int_bool a t1 b,.int_bool a t1 b,.int_bool a t1 b⟩
  |int b=>rw[rep_int] at ry;subst ry;obtain⟨t,q⟩:=(show ∃t,u2=Value.int b t from r2);subst q;rw[D.eq];exact⟨.int_int a t1 b t,.int_int a t1 b t,.int_int a t1 b t⟩
  |str b=>rw[rep_str] at ry;subst ry;obtain⟨t,q⟩:=(show ∃t,u2=Value.str b t from r2);subst q;rw[D.eq];exact⟨.int_str a t1 b t,.int_str a t1 b t,.int_str a t1 b t⟩;all_goals (intros;simp_all)
  |tup es=>
   obtain⟨p,xs,rfl,hp,hr⟩:=Qg ry
   cases (show u2=Value.ref p from r2)
   obtain⟨its,_,ht,_⟩:=I.tuple hp
   rw[D.eq]
   exact⟨.int_tuple a t1 ht MN,.int_tuple a t1 ht MN,.int_tuple a t1 ht MN⟩
   all_goals (intros;simp_all)
  |lst es=>
   obtain⟨p,xs,rfl,hp,hr⟩:=rep_lst.mp ry
   cases (show u2=Value.ref p from r2)
   obtain⟨its,_,ht,_⟩:=I.list hp
   rw[D.eq]
   exact⟨.int_list a t1 ht.isList MN,.int_list a t1 ht.isList MN,.int_list a t1 ht.isList MN⟩
   all_goals (intros;simp_all)
 |.str a,y,A,v,w,u1,u2,hu,rx,ry,r1,r2=>by
  rw[rep_str] at rx;subst rx
  obtain⟨t1,q1⟩:=(show ∃t,u1=Value.str a t from r1)
  subst q1
  have MN:A.units<cLine:=by lia
  cases y with
  |non=>rw[rep_non] at ry;subst ry;cases (show u2=Value.none from r2);rw[D.eq];exact⟨.str_none a t1,.str_none a t1,.str_none a t1⟩;all_goals (intros;simp_all)
  |bl b=>rw[rep_bl] at ry;subst ry;cases (show u2=Value.bool b from r2);rw[D.eq];exact⟨.str_bool a t1 b,.str_bool a t1 b,.str_bool a t1 b⟩;all_goals (intros;simp_all)
  |int b=>rw[rep_int] at ry;subst ry;obtain⟨t,q⟩:=(show ∃t,u2=Value.int b t from r2);subst q;rw[D.eq];exact⟨.str_int a t1 b t,.str_int a t1 b t,.str_int a t1 b t⟩;all_goals (intros;simp_all)
  |str b=>rw[rep_str] at ry;subst ry;obtain⟨t,q⟩:=(show ∃t,u2=Value.str b t from r2);subst q;rw[D.eq];exact⟨.str_str a t1 b t,.str_str a t1 b t,.str_str a t1 b t⟩
  |tup es=>
   obtain⟨p,xs,rfl,hp,hr⟩:=Qg ry
   cases (show u2=Value.ref p from r2)
   obtain⟨its,_,ht,_⟩:=I.tuple hp
   rw[D.eq]
   exact⟨.str_tuple a t1 ht MN,.str_tuple a t1 ht MN,.str_tuple a t1 ht MN⟩
   all_goals (intros;simp_all)
  |lst es=>
   obtain⟨p,xs,rfl,hp,hr⟩:=rep_lst.mp ry
   cases (show u2=Value.ref p from r2)
   obtain⟨its,_,ht,_⟩:=I.list hp
   rw[D.eq]
   exact⟨.str_list a t1 ht.isList MN,.str_list a t1 ht.isList MN,.str_list a t1 ht.isList MN⟩
   all_goals (intros;simp_all)
 |.tup ds,y,A,v,w,u1,u2,hu,rx,ry,r1,r2=>by
  rw[D.dep] at hu
  have MN:A.units<cLine:=by lia
  obtain⟨p1,aF,rfl,gF,hr1⟩:=Qg rx
  cases (show u1=Value.ref p1 from r1)
  obtain⟨its1,rv1,NH,_⟩:=I.tuple gF
  cases y with
  |non=>rw[rep_non] at ry;subst ry;cases (show u2=Value.none from r2);rw[D.eq];exact⟨.tuple_none NH MN,.tuple_none NH MN,.tuple_none NH MN⟩;all_goals (intros;simp_all)
  |bl b=>rw[rep_bl] at ry;subst ry;cases (show u2=Value.bool b from r2);rw[D.eq];exact⟨.tuple_bool b NH MN,.tuple_bool b NH MN,.tuple_bool b NH MN⟩;all_goals (intros;simp_all)
  |int b=>rw[rep_int] at ry;subst ry;obtain⟨t,q⟩:=(show ∃t,u2=Value.int b t from r2);subst q;rw[D.eq];exact⟨.tuple_int b t NH MN,.tuple_int b t NH MN,.tuple_int b t NH MN⟩;all_goals (intros;simp_all)
  |str b=>rw[rep_str] at ry;subst ry;obtain⟨t,q⟩:=(show ∃t,u2=Value.str b t from r2);subst q;rw[D.eq];exact⟨.tuple_str b t NH MN,.tuple_str b t NH MN,.tuple_str b t NH MN⟩;all_goals (intros;simp_all)
  |tup es=>
   obtain⟨p2,a8,rfl,WN,hr2⟩:=Qg ry
   cases (show u2=Value.ref p2 from r2)
   obtain⟨its2,rv2,ht2,_⟩:=I.tuple WN
   have l1:its1.toArray.size=ds.length:=by rw[AL,<-rv1.length,<-hr1.length]
   have l2:its2.toArray.size=es.length:=by rw[AL,<-rv2.length,<-hr2.length]
   have items:=Mg I ds es A.in1 aF a8 its1 its2 (by show A.units+1+_<_;lia) hr1 hr2 rv1 rv2
   have he:∀j (h1:j<its1.toArray.size) (h2:j<its2.toArray.size),SeqAt.EqAt A.in1 s its1.toArray[j] its2.toArray[j] (D.eq (ds.getD j .non) (es.getD j .non)):=λj h1 h2=>by
    refine items j _ _ _ _ ?_ ?_ ?_ ?_
    .rw[BF,CC (by lia)];simp
    .rw[BF,CC (by lia)];simp
    .simp
    .simp
   have rc:=SeqAt.RcAt.tuples NH ht2 MN he
   have ne:=SeqAt.RcNeAt.tuples NH ht2 MN he
   rw[l1,l2,<-D.eqs_all] at rc ne
   rw[D.eq]
   refine⟨rc,ne,?_⟩
   by_cases bN:p1=p2
   .subst bN
    have:=Pw I _ _ _ rx ry
    cases this
    rw[D.eqs_refl]
    exact .same _
   .exact .of_refs bN rc
  |lst es=>
   obtain⟨p2,a8,rfl,WN,hr2⟩:=rep_lst.mp ry
   cases (show u2=Value.ref p2 from r2)
   obtain⟨its2,rv2,ht2,_⟩:=I.list WN
   rw[D.eq]
   exact⟨.tuple_list NH ht2.isList MN,.tuple_list NH ht2.isList MN,.tuple_list NH ht2.isList MN⟩
   all_goals (intros;simp_all)
 |.lst ds,y,A,v,w,u1,u2,hu,rx,ry,r1,r2=>by
  rw[D.dep] at hu
  have MN:A.units<cLine:=by lia
  obtain⟨p1,aF,rfl,gF,hr1⟩:=rep_lst.mp rx
  cases (show u1=Value.ref p1 from r1)
  obtain⟨its1,rv1,pl1,_⟩:=I.list gF
  have NH:=pl1.isList
  cases y with
  |non=>rw[rep_non] at ry;subst ry;cases (show u2=Value.none from r2);rw[D.eq];exact⟨.list_none NH MN,.list_none NH MN,.list_none NH MN⟩;all_goals (intros;simp_all)
  |bl b=>rw[rep_bl] at ry;subst ry;cases (show u2=Value.bool b from r2);rw[D.eq];exact⟨.list_bool b NH MN,.list_bool b NH MN,.list_bool b NH MN⟩;all_goals (intros;simp_all)
  |int b=>rw[rep_int] at ry;subst ry;obtain⟨t,q⟩:=(show ∃t,u2=Value.int b t from r2);subst q;rw[D.eq];exact⟨.list_int b t NH MN,.list_int b t NH MN,.list_int b t NH MN⟩;all_goals (intros;simp_all)
  |str b=>rw[rep_str] at ry;subst ry;obtain⟨t,q⟩:=(show ∃t,u2=Value.str b t from r2);subst q;rw[D.eq];exact⟨.list_str b t NH MN,.list_str b t NH MN,.list_str b t NH MN⟩;all_goals (intros;simp_all)
  |tup es=>
   obtain⟨p2,a8,rfl,WN,hr2⟩:=Qg ry
   cases (show u2=Value.ref p2 from r2)
   obtain⟨its2,rv2,ht2,_⟩:=I.tuple WN
   rw[D.eq]
   exact⟨.list_tuple NH ht2 MN,.list_tuple NH ht2 MN,.list_tuple NH ht2 MN⟩
   all_goals (intros;simp_all)
  |lst es=>
   obtain⟨p2,a8,rfl,WN,hr2⟩:=rep_lst.mp ry
   cases (show u2=Value.ref p2 from r2)
   obtain⟨its2,rv2,pl2,_⟩:=I.list WN
   have ht2:=pl2.isList
   have l1:its1.toArray.size=ds.length:=by rw[AL,<-rv1.length,<-hr1.length]
   have l2:its2.toArray.size=es.length:=by rw[AL,<-rv2.length,<-hr2.length]
   have items:=Mg I ds es A.in1 aF a8 its1 its2 (by show A.units+1+_<_;lia) hr1 hr2 rv1 rv2
   have he:∀j (h1:j<its1.toArray.size) (h2:j<its2.toArray.size),SeqAt.EqAt A.in1 s its1.toArray[j] its2.toArray[j] (D.eq (ds.getD j .non) (es.getD j .non)):=λj h1 h2=>by
    refine items j _ _ _ _ ?_ ?_ ?_ ?_
    .rw[BF,CC (by lia)];simp
    .rw[BF,CC (by lia)];simp
    .simp
    .simp
   have both:SeqAt.RcAt A s (.ref p1) (.ref p2) (D.eqs ds es)/\SeqAt.RcNeAt A s (.ref p1) (.ref p2) (!D.eqs ds es):=by
    by_cases hl:ds.length=es.length
    .have rc:=SeqAt.RcAt.lists NH ht2 (by lia) MN he
     have ne:=SeqAt.RcNeAt.lists NH ht2 (by lia) MN he
     have e:D.eqs ds es=(List.range its1.toArray.size).all λj=>D.eq (ds.getD j .non) (es.getD j .non):=by
      rw[D.eqs_all,l1,<-hl,Nat.min_self];simp
     rw[e]
     exact⟨rc,ne⟩
    .have e:D.eqs ds es=false:=by rw[D.eqs_all];simp[hl]
     rw[e]
     have hs:(its1.toArray.size != its2.toArray.size)=true:=by rw[l1,l2];simpa using hl
     exact⟨.lists_lengths NH ht2 hs MN,.lists_lengths NH ht2 hs MN⟩
   rw[D.eq]
   refine⟨both.1,both.2,?_⟩
   by_cases bN:p1=p2
   .subst bN
    have:=Pw I _ _ _ rx ry
    cases this
    rw[D.eqs_refl]
    exact .same _
   .exact .of_refs bN both.1
theorem Mg (I:Inv X pins σ H s):∀(ds es:List D) (A:Around) (vs ws:List V) (fH fG:List Value),A.units+D.deps ds<cLine->Reps X.K H ds vs->Reps X.K H es ws->Vals vs fH->Vals ws fG ->
  ∀(j:Nat) (d e:D) (u1 u2:Value),ds[j]?=some d->es[j]?=some e->fH[j]?=some u1->fG[j]?=some u2->SeqAt.EqAt A s u1 u2 (D.eq d e)
 |[],_,_,_,_,_,_,_,_,_,_,_,j,_,_,_,_,h,_,_,_=>by simp at h
 |_::_,[],_,_,_,_,_,_,_,_,_,_,j,_,_,_,_,_,h,_,_=>by simp at h
 |d0::ds,e0::es,A,vs,ws,fH,fG,hu,r1,r2,v1,v2,j,d,e,u1,u2,h1,h2,h3,h4=>by
  rw[D.deps] at hu
  obtain⟨x,xr,rfl,a1,a2⟩:=reps_cons.mp r1
  obtain⟨y,yr,rfl,b1,b2⟩:=reps_cons.mp r2
  cases v1 with
  |cons c1 c2=>
   cases v2 with
   |cons d1 d2=>
    cases j with
    |zero=>
     simp at h1 h2 h3 h4
     subst h1 h2 h3 h4
     exact(Mf I d0 e0 A x y _ _ (by lia) a1 b1 c1 d1).eq
    |succ j=>
     simp at h1 h2 h3 h4
     exact Mg I ds es A xr yr _ _ (by lia) a2 b2 c2 d2 j d e u1 u2 h1 h2 h3 h4
end
end
section
variable {X:Cx}{E:XK}{pos:Pos}{a b:Expr}
def Jx (x y:D):M D:=if x.dep<=60 then .ok (.bl (D.eq x y)) else .bad
def Rr (x y:D):M D:=if x.dep<=60 then .ok (.bl (!D.eq x y)) else .bad
def Yo (hu:X.A.units+64<cLine):Rn X E (compareOp .Eq) Jx:=by
 refine⟨λx y H Q=>∃dx dy,Rep X.K H dx x/\Rep X.K H dy y/\dx.dep<=60/\Q (.bl (D.eq dx dy)) H,λpins s σ H x y v u Q I rx ry h=>?_,λHf H x y dx dy Q e rx ry q=>?_⟩
 .obtain⟨dx,dy,h1,h2,h3,q⟩:=h
  exact(Mf I dx dy X.A x y v u (by lia) h1 h2 rx ry).rc _ _ _ _ ⟨.bl _,H,I,rfl,q⟩
 .unfold Jx at q
  split at q
  .rename_i hd
   exact⟨dx,dy,rx.mono e,ry.mono e,hd,Po.ret e q (rep_bl.mpr rfl)⟩
  .exact q.elim
def Rs (hu:X.A.units+64<cLine):Rn X E (compareOp .NotEq) Rr:=by
 refine⟨λx y H Q=>∃dx dy,Rep X.K H dx x/\Rep X.K H dy y/\dx.dep<=60/\Q (.bl (!D.eq dx dy)) H,λpins s σ H x y v u Q I rx ry h=>?_,λHf H x y dx dy Q e rx ry q=>?_⟩
 .obtain⟨dx,dy,h1,h2,h3,q⟩:=h
  exact(Mf I dx dy X.A x y v u (by lia) h1 h2 rx ry).ne _ _ _ _ ⟨.bl _,H,I,rfl,q⟩
 .unfold Rr at q
  split at q
  .rename_i hd
   exact⟨dx,dy,rx.mono e,ry.mono e,hd,Po.ret e q (rep_bl.mpr rfl)⟩
  .exact q.elim
end
def sP:D->String
 |.non=>"NoneType"
 |.bl _=>"bool"
 |.int _=>"int"
 |.str _=>"str"
 |.tup _=>"tuple"
 |.lst _=>"list"
def dh (T:String):D->Bool
 |.non=>false
 |.bl _=>T=="bool" || T=="int"
 |.int _=>T=="int"
 |.str _=>T=="str"
 |.tup _=>T=="tuple"
 |.lst _=>T=="list"
def wm (K:PySem.W.Frag)(d:D){T:String} (hT:T∈["int","bool","tuple","list","str"]):PySem.W.kitOne K (.type (sP d)) (.type T)=some (dh T d):=by
 simp only[AZ,HJ,LP] at hT
 rcases hT with rfl|rfl|rfl|rfl|rfl<;>cases d<;>rfl
section
variable {X:Cx}{E:XK}{pos:Pos}{a b:Expr}
def Ae {T:String} (hT:T∈["int","bool","tuple","list","str"]):CallR X (.builtin "isinstance") (λxs H Q=>∃x d,xs=[x,.ty T]/\Rep X.K H d x/\Q (.bl (dh T d)) H):=by
 intro pins s σ H xs us Q I r h
 obtain⟨x,d,rfl,hx,q⟩:=h
 obtain⟨u,w',rfl,r1,r2⟩:=jI r
 cases (show w'=Value.type T from r2)
 have e:=wm X.K d hT
 have fin:∀tk,EP X pins σ Q (.bool (dh T d)) {s with toks:=tk}:=λtk=>⟨.bl _,H,I.tok _,rfl,q⟩
 cases d with
 |non=>rw[rep_non] at hx;subst hx;cases (show u=Value.none from r1);exact EM PySem.W.kitx_none I.kIn True.intro e (λz=>nomatch z) fin
 |bl y=>rw[rep_bl] at hx;subst hx;cases (show u=Value.bool y from r1);exact EM PySem.W.kitx_bool I.kIn True.intro e (λz=>nomatch z) fin
 |int y=>rw[rep_int] at hx;subst hx;obtain⟨t,z⟩:=(show ∃t,u=Value.int y t from r1);subst z;exact EM PySem.W.kitx_int I.kIn True.intro e (λz=>nomatch z) fin
 |str y=>rw[rep_str] at hx;subst hx;obtain⟨t,z⟩:=(show ∃t,u=Value.str y t from r1);subst z;exact EM PySem.W.kitx_str I.kIn True.intro e (λz=>nomatch z) fin
 |tup ds=>
  obtain⟨p,ys,rfl,hp,hr⟩:=Qg hx
  cases (show u=Value.ref p from r1)
  obtain⟨its,_,⟨o,h1,h2,_⟩,_⟩:=I.tuple hp
  exact EM PySem.W.kitx_tuple I.kIn ⟨o,h1,h2⟩ e (λz=>nomatch z) fin
 |lst ds=>
  obtain⟨p,ys,rfl,hp,hr⟩:=rep_lst.mp hx
  cases (show u=Value.ref p from r1)
  obtain⟨its,_,pl,_⟩:=I.list hp
  obtain⟨o,h1,h2,_⟩:=pl.isList
  exact EM PySem.W.kitx_list I.kIn ⟨o,h1,h2⟩ e (λz=>nomatch z) fin
def iS (T:String)(f:Zf->M D)(sd:Zf):M D:=(f sd).bind λd=>.ok (.bl (dh T d))
def T5 (T:String){p p2:Pos}{f:Zf->M D} (hg:Gl X "isinstance") (hm:X.mg "isinstance"=none) (qQ:X.mg (Str.ofString T)=none) (qi:Gl X (Str.ofString T)) (pf:bootBuiltins (Str.ofString T)=some (.type T)) (h:Yt X E a f)
  (hT:T∈["int","bool","tuple","list","str"]:=by decide) (qO:(Str.ofString T) ≠ "__name__":=by decide) (qq:((Str.ofString T)==("__debug__":Str))=false:=by decide)
  (he:starEach [a,.Name (Str.ofString T) p2] X.env=(false,eval a X.env)::starEach [.Name (Str.ofString T) p2] X.env:=by rfl) (dD:starEach [.Name (Str.ofString T) p2] X.env=(false,eval (.Name (Str.ofString T) p2) X.env)::starEach [] X.env:=by rfl)
  (MT:(backTo pos (starEach [.Name (Str.ofString T) p2] X.env)).any (·.1)=false:=by rfl) (hv:bootBuiltins "isinstance"=some (.builtin "isinstance"):=by rfl):
  Yt X E (.Call (.Name "isinstance" p) [a,.Name (Str.ofString T) p2] [] pos) (iS T f):=by
 obtain⟨t,pt,qt⟩:=h
 refine⟨_,B4 (Ae hT) hg hm hv (Qj pt (Qj (zd (v:=.ty T) qi qQ pf rfl qO qq) Xs dD) he) (by decide) (by decide) he MT,λH0 B Hf sd σ H Q sr h=>?_⟩
 refine qt H0 B Hf sd σ H _ sr (Po.bind h λd v MB H1 _ g1 rv h1=>?_)
 exact⟨v,d,rfl,Rep.mono g1.sub rv,Po.ret (R:=rV X.K) g1.sub h1 (rep_bl.mpr rfl)⟩
def X3:List D->Option (List Bool)
 |[]=>some []
 |.bl b::r=>(X3 r).map (b::·)
 |_::_=>none
theorem Vi {K:PySem.W.Frag}{H:Hp}:∀{ds:List D}{bs:List Bool}{xs:List V},X3 ds=some bs->Reps K H ds xs->xs=bs.map V.bl
 |[],bs,xs,e,r=>by
  rw[reps_nil.mp r]
  cases e
  rfl
 |.bl b::ds,bs,xs,e,r=>by
  obtain⟨x,t,rfl,h1,h2⟩:=reps_cons.mp r
  unfold X3 at e
  cases q:X3 ds with
  |none=>rw[q] at e;cases e
  |some cs=>
   rw[q] at e
   cases e
   rw[rep_bl.mp h1,Vi q h2]
   rfl
 |.non::_,_,_,e,_=>by cases e
 |.int _::_,_,_,e,_=>by cases e
 |.str _::_,_,_,e,_=>by cases e
 |.tup _::_,_,_,e,_=>by cases e
 |.lst _::_,_,_,e,_=>by cases e
def Fo {bs:List Bool}:∀{us:List Value},Vals (bs.map V.bl) us->us=bs.map Value.bool:=by
 induction bs with
 |nil=>intro us r;cases r;rfl
 |cons b bs ih=>
  intro us r
  cases r with
  |cons r1 r2=>rw[ih r2];cases (show _=Value.bool b from r1);rfl
def Dp (bs:List Bool):((List.range bs.length).all λi=>(bs[i]?).getD true)=bs.all id:=by
 induction bs with
 |nil=>rfl
 |cons b bs ih=>
  rw[AW,GE,DV,List.all_map,DV]
  have:(((λi=>((b::bs)[i]?).getD true)∘Nat.succ):Nat->Bool)=λi=>(bs[i]?).getD true:=by funext i;simp
  rw[this,ih]
  simp
def Dq (bs:List Bool):((List.range bs.length).any λi=>(bs[i]?).getD false)=bs.any id:=by
 induction bs with
 |nil=>rfl
 |cons b bs ih=>
  rw[AW,GE,CP,List.any_map,CP]
  have:(((λi=>((b::bs)[i]?).getD false)∘Nat.succ):Nat->Bool)=λi=>(bs[i]?).getD false:=by funext i;simp
  rw[this,ih]
  simp
def Fp {s:Shared}{h':Heap}{o:Obj}(hk:∀b x,b ∉ [s.heap.objs.size]->(s.heap.push o).get? b=some x->h'.get? b=some x):∀b x,s.heap.get? b=some x->h'.get? b=some x:=
 λb x e=>hk b x (λhm=>by rw[DG.mp hm] at e;exact EL _ (AJ e)) (AB _ e)
def Oj (hc:X.calm=true):CallR X (.builtin "all") (λxs H Q=>∃(p:Addr) (bs:List Bool),xs=[.ref p]/\SqL X.K H p (bs.map V.bl)/\Q (.bl (bs.all id)) H):=by
 intro pins s σ H xs us Q I r h
 obtain⟨p,bs,rfl,hp,q⟩:=h
 obtain⟨u,rfl,rx⟩:=Vx r
 cases rx
 obtain⟨its,rv,pl,_⟩:=I.list hp
 have hl:=pl.isList
 have ei:=Fo rv
 have NN:p<s.heap.objs.size:=by obtain⟨_,e,_⟩:=hl;exact AJ e
 refine call_all_walk (EG hl ?_)
 refine⟨s.heap.objs.size,[s.heap.objs.size,p],[s.heap.objs.size],its.toArray.size,_,_,λi=>(bs[i]?).getD true,rfl,Walks.list (A:=X.A.in1) (I.ok.hd hc) _ p (AI NN) its.toArray,
  ⟨⟨_,AH _ rfl,rfl,rfl⟩,hl.push _⟩,λi v s' Q' E' hP hQ=>?_,λh' tk hk=>?_⟩
 .have hv:its[i]?=some v:=by simpa using hP
  rw[ei,BP] at hv
  cases eb:bs[i]? with
  |none=>rw[eb] at hv;cases hv
  |some b=>
   rw[eb] at hv
   cases hv
   simp only[eb,KY] at hQ
   exact DK hQ
 .have e:((List.range its.toArray.size).all λi=>(bs[i]?).getD true)=bs.all id:=by
   rw[AL,ei,BM];exact Dp bs
  rw[e]
  exact⟨.bl _,H,I.kept (Fp hk),rfl,q⟩
def Ol (hc:X.calm=true):CallR X (.builtin "any") (λxs H Q=>∃(p:Addr) (bs:List Bool),xs=[.ref p]/\SqL X.K H p (bs.map V.bl)/\Q (.bl (bs.any id)) H):=by
 intro pins s σ H xs us Q I r h
 obtain⟨p,bs,rfl,hp,q⟩:=h
 obtain⟨u,rfl,rx⟩:=Vx r
 cases rx
 obtain⟨its,rv,pl,_⟩:=I.list hp
 have hl:=pl.isList
 have ei:=Fo rv
 have NN:p<s.heap.objs.size:=by obtain⟨_,e,_⟩:=hl;exact AJ e
 refine call_any_walk (EG hl ?_)
 refine⟨s.heap.objs.size,[s.heap.objs.size,p],[s.heap.objs.size],its.toArray.size,_,_,λi=>(bs[i]?).getD false,rfl,Walks.list (A:=X.A.in1) (I.ok.hd hc) _ p (AI NN) its.toArray,
  ⟨⟨_,AH _ rfl,rfl,rfl⟩,hl.push _⟩,λi v s' Q' E' hP hQ=>?_,λh' tk hk=>?_⟩
 .have hv:its[i]?=some v:=by simpa using hP
  rw[ei,BP] at hv
  cases eb:bs[i]? with
  |none=>rw[eb] at hv;cases hv
  |some b=>
   rw[eb] at hv
   cases hv
   simp only[eb,KY] at hQ
   exact DK hQ
 .have e:((List.range its.toArray.size).any λi=>(bs[i]?).getD false)=bs.any id:=by
   rw[AL,ei,BM];exact Dq bs
  rw[e]
  exact⟨.bl _,H,I.kept (Fp hk),rfl,q⟩
def cS:List D->M D
 |[.lst ds]=>match X3 ds with
  |some bs=>.ok (.bl (bs.all id))
  |none=>.bad
 |_=>.bad
def eL:List D->M D
 |[.lst ds]=>match X3 ds with
  |some bs=>.ok (.bl (bs.any id))
  |none=>.bad
 |_=>.bad
def wj (hc:X.calm=true):Vz X E (.builtin "all") cS:=by
 refine⟨_,Oj hc,λHf H xs ds Q e r q=>?_⟩
 unfold cS at q
 split at q
 .split at q
  .rename_i bs hb
   obtain⟨x,rfl,h⟩:=Jw r
   obtain⟨p,ys,rfl,hp,hr⟩:=rep_lst.mp h
   have:=Vi hb hr
   subst this
   exact⟨p,bs,rfl,e.seq hp,Po.ret e q (rep_bl.mpr rfl)⟩
  .exact q.elim
 .exact q.elim
def wg (hc:X.calm=true):Vz X E (.builtin "any") eL:=by
 refine⟨_,Ol hc,λHf H xs ds Q e r q=>?_⟩
 unfold eL at q
 split at q
 .split at q
  .rename_i bs hb
   obtain⟨x,rfl,h⟩:=Jw r
   obtain⟨p,ys,rfl,hp,hr⟩:=rep_lst.mp h
   have:=Vi hb hr
   subst this
   exact⟨p,bs,rfl,e.seq hp,Po.ret e q (rep_bl.mpr rfl)⟩
  .exact q.elim
 .exact q.elim
def Mh (x:Int):List Int->List Int
 |[]=>[x]
 |y::r=>if x<=y then x::y::r else y::Mh x r
def U7:List Int->List Int
 |[]=>[]
 |x::r=>Mh x (U7 r)
theorem G8 (x:Int):∀l:List Int,(Mh x l).Perm (x::l)
 |[]=>HY _
 |y::r=>by
  unfold Mh
  split
  .exact HY _
  .exact((G8 x r).cons y).trans (List.Perm.swap x y r)
theorem Wd:∀l:List Int,(U7 l).Perm l
 |[]=>HY _
 |x::r=>(G8 x _).trans ((Wd r).cons x)
theorem N8 (x:Int):∀l:List Int,l.Pairwise (·<=·)->(Mh x l).Pairwise (·<=·)
 |[],_=>by simp[Mh]
 |y::r,h=>by
  obtain⟨h1,h2⟩:=GW.mp h
  unfold Mh
  split
  .rename_i fj
   refine GW.mpr ⟨λz hz=>?_,h⟩
   rcases AZ.mp hz with rfl|hz
   .exact fj
   .exact Int.le_trans fj (h1 z hz)
  .rename_i fj
   refine GW.mpr ⟨λz hz=>?_,N8 x r h2⟩
   rcases AZ.mp ((G8 x r).mem_iff.mp hz) with rfl|hz
   .lia
   .exact h1 z hz
theorem Wx:∀l:List Int,(U7 l).Pairwise (·<=·)
 |[]=>List.Pairwise.nil
 |x::r=>N8 x _ (Wx r)
def G9:List D->Option (List Int)
 |[]=>some []
 |.int b::r=>(G9 r).map (b::·)
 |_::_=>none
theorem N9 {K:PySem.W.Frag}{H:Hp}:∀{ds:List D}{bs:List Int}{xs:List V},G9 ds=some bs->Reps K H ds xs->xs=bs.map V.int
 |[],bs,xs,e,r=>by
  rw[reps_nil.mp r]
  cases e
  rfl
 |.int b::ds,bs,xs,e,r=>by
  obtain⟨x,t,rfl,h1,h2⟩:=reps_cons.mp r
  unfold G9 at e
  cases q:G9 ds with
  |none=>rw[q] at e;cases e
  |some cs=>
   rw[q] at e
   cases e
   rw[rep_int.mp h1,N9 q h2]
   rfl
 |.non::_,_,_,e,_=>by cases e
 |.bl _::_,_,_,e,_=>by cases e
 |.str _::_,_,_,e,_=>by cases e
 |.tup _::_,_,_,e,_=>by cases e
 |.lst _::_,_,_,e,_=>by cases e
theorem Wy {K:PySem.W.Frag}{H:Hp}:∀ns:List Int,Reps K H (ns.map D.int) (ns.map V.int)
 |[]=>Reps.nil
 |_::ns=>Reps.cons (rep_int.mpr rfl) (Wy ns)
def Mi:CallR X (.builtin "sorted") (λxs H Q=>∃(p:Addr) (ns:List Int),xs=[.ref p]/\SqL X.K H p (ns.map V.int)/\ns.length<64/\∀l,H l=none->Q (.ref l) (upd H l (.lst ((U7 ns).map V.int)))):=by
 intro pins s σ H xs us Q I r h
 obtain⟨p,ns,rfl,hp,hl,q⟩:=h
 obtain⟨u,rfl,rx⟩:=Vx r
 cases rx
 obtain⟨its,rv,pl,hz⟩:=I.list hp
 have hi:IntsAre its ns:=Dj rv
 have hlen:its.length=ns.length:=by rw[<-rv.length,BM]
 refine sorted_ints pl.isList hi (by lia) λout pA a1 a2 a3=>?_
 have e:pA=U7 ns:=PySem.W.ksm_same (a2.trans (Wd ns).symm) a3 (Wx ns)
 subst e
 obtain⟨n,he⟩:=sortedAll_at s.heap its out
 refine⟨.ref (s.heap.objs.size+1),_,I.laid (t':=s.toks) (o:=.lst ((U7 ns).map V.int)) (λb o e=>sortedAll_old e) (DR _) ?_,rfl,q _ (I.hok.fresh (DR _))⟩
 refine⟨?_,out.toList,n,Gv a1,he⟩
 rw[BM,(Wd ns).length_eq,<-BM (f:=V.int)]
 exact hz
def Wz:List D->M D
 |[.lst ds]=>match G9 ds with
  |some ns=>if ns.length<64 then .ok (.lst ((U7 ns).map D.int)) else .bad
  |none=>.bad
 |_=>.bad
def Om:Vz X E (.builtin "sorted") Wz:=by
 refine⟨_,Mi,λHf H xs ds Q e r q=>?_⟩
 unfold Wz at q
 split at q
 .split at q
  .rename_i ns hb
   split at q
   .rename_i hl
    obtain⟨x,rfl,h⟩:=Jw r
    obtain⟨p,ys,rfl,hp,hr⟩:=rep_lst.mp h
    have:=N9 hb hr
    subst this
    exact⟨p,ns,rfl,e.seq hp,hl,λl hl=>q _ _ _ (Gr.alloc e hl _) (Gr.lst e hl (Wy _))⟩
   .exact q.elim
  .exact q.elim
 .exact q.elim
def op_catS:OpR X (binaryOp .Add) (λx y H Q=>∃l b xs zs,x=.ref l/\y=.ref b/\SqL X.K H l xs/\SqL X.K H b zs/\xs.length+zs.length<=sizeLine/\∀p,H p=none->Q (.ref p) (upd H p (.lst (xs++zs)))):=by
 intro pins s σ H x y v u Q I rx ry h
 obtain⟨l,b,xs,zs,rfl,rfl,hH,hB,hz,q⟩:=h
 cases rx
 cases ry
 obtain⟨its,r,pl,z⟩:=I.list hH
 obtain⟨its2,r2,pl2,z2⟩:=I.list hB
 have l1:=r.length
 have l2:=r2.length
 obtain⟨⟨cls,dd,data,sl⟩,ho,hc,n,hd⟩:=pl.isList
 obtain⟨⟨iG,dP,data2,XJ⟩,ZD,ZO,n2,hd2⟩:=pl2.isList
 simp only at hc hd ZO hd2
 subst hc hd ZO hd2
 have e:its.toArray++its2.toArray=(its++its2).toArray:=by simp
 refine KU ⟨_,ho,rfl⟩ ⟨_,ZD,rfl⟩ noFill_list_add seq_list_add PySem.F.slot_list_add PySem.F.entry_list_add (PySem.F.args_list_add_2 _ _) (list_addW l b its.toArray its2.toArray n n2 dd dP sl XJ (by rw[AL,AL];lia)) ⟨ho,ZD,?_⟩
 rw[e]
 exact⟨.ref _,_,I.lnew (t':=s.toks) (r.append r2) (by rw[BE];lia),rfl,q _ I.fresh⟩
def Q0:D->D->M D
 |.int i,.int j=>.ok (.int (i+j))
 |.lst xs,.lst ys=>if few (xs++ys) then .ok (.lst (xs++ys)) else .bad
 |.tup (x::xs),.tup ys=>if few (x::xs++ys) then .ok (.tup (x::xs++ys)) else .bad
 |.str i,.str j=>if i.length+j.length<=sizeLine then .ok (.str (i++j)) else .bad
 |_,_=>.bad
def Xf:Rn X E (binaryOp .Add) Q0:=by
 refine⟨_,op_add.or (op_catS.or (op_catT.or Db)),λHf H x y dx dy Q e rx ry q=>?_⟩
 unfold Q0 at q
 split at q
 .rename_i i j
  exact .inl ⟨i,j,rep_int.mp rx,rep_int.mp ry,Po.ret e q (rep_int.mpr rfl)⟩
 .rename_i xs ys
  split at q
  .rename_i hf
   obtain⟨p1,us,rfl,h1,r1⟩:=rep_lst.mp rx
   obtain⟨p2,ws,rfl,h2,r2⟩:=rep_lst.mp ry
   have hl:=V7 hf (r1.append r2)
   rw[BE] at hl
   exact .inr (.inl ⟨p1,p2,us,ws,rfl,rfl,e.seq h1,e.seq h2,hl,λp hp=>q _ _ _ (Gr.alloc e hp _) (Gr.lst e hp (r1.append r2))⟩)
  .exact q.elim
 .rename_i x0 xs ys
  split at q
  .rename_i hf
   obtain⟨p1,us,rfl,h1,r1⟩:=Qg rx
   obtain⟨p2,ws,rfl,h2,r2⟩:=Qg ry
   have hl:=V7 hf (r1.append r2)
   rw[BE] at hl
   have hne:us≠[]:=λz=>by
    have:=r1.length
    rw[z] at this
    cases this
   refine .inr (.inr (.inl ⟨p1,p2,us,ws,rfl,rfl,Same.seqT e h1,Same.seqT e h2,hne,hl,λz=>?_,λ_ p hp=>q _ _ _ (Gr.alloc e hp _) (Gr.tup e hp (r1.append r2))⟩))
   subst z
   have:ys=[]:=List.length_eq_zero_iff.mp r2.length
   subst this
   rw[BJ] at q
   exact Po.ret e q rx
  .exact q.elim
 .rename_i i j
  split at q
  .rename_i hl
   exact .inr (.inr (.inr ⟨i,j,rep_str.mp rx,rep_str.mp ry,hl,Po.ret e q (rep_str.mpr rfl)⟩))
  .exact q.elim
 .exact q.elim
def Zx:D->D->M D:=lV
def Z2:Rn X E (binaryOp .Mult) Zx:=wy
def S6 (ds:List D)(lo hi:Option Int):List D:=(ds.drop (HT.sIx ds.length 0 lo)).take (HT.sIx ds.length ds.length hi-HT.sIx ds.length 0 lo)
def Af {K:PySem.W.Frag}{H:Hp}{ds:List D}{xs:List V}(r:Reps K H ds xs)(lo hi:Option Int):Reps K H (S6 ds lo hi) (B5 xs lo hi):=by
 unfold S6 B5
 rw[<-r.length]
 exact(r.drop _).take _
def k8:D->Option Int->Option Int->M D
 |.lst ds,lo,hi=>.ok (.lst (S6 ds lo hi))
 |.tup ds,lo,hi=>if HT.sIx ds.length 0 lo=0/\HT.sIx ds.length ds.length hi=ds.length then .bad else .ok (.tup (S6 ds lo hi))
 |_,_,_=>.bad
def Ku (_:Zf):M (Option Int):=.ok none
def Jb (f:Zf->M D)(sd:Zf):M (Option Int):=(f sd).bind λd=>match d with
 |.int i=>.ok (some i)
 |_=>.bad
def X4:dj X E none Ku:=⟨_,zQ,λ_ _ _ _ _ _ _ sr h=>Po.ret (R:=rQ) sr.sub h rfl⟩
def Y9 {e:Expr}{f:Zf->M D}(h:Yt X E e f):dj X E (some e) (Jb f):=by
 obtain⟨t,p,q⟩:=h
 refine⟨_,zP p,λH0 B Hf sd σ H Q sr h=>?_⟩
 refine q H0 B Hf sd σ H _ sr (Po.bind h λd v MB H1 _ g1 rv h1=>?_)
 split at h1
 .exact⟨_,rep_int.mp rv,Po.ret (R:=rQ) g1.sub h1 rfl⟩
 .exact h1.elim
def Ag (f:Zf->M D)(lo hi:Zf->M (Option Int))(sd:Zf):M D:=(f sd).bind λd=>(lo sd).bind λl=>(hi sd).bind λh=>k8 d l h
def Xl {e:Expr}{lo hi:Option Expr}{p2:Pos}{f:Zf->M D}{fl fh:Zf->M (Option Int)}(h:Yt X E e f)(hl:dj X E lo fl)(hh:dj X E hi fh):Yt X E (.Subscript e (.Slice lo hi none p2) pos) (Ag f fl fh):=by
 obtain⟨t,p,q⟩:=h
 obtain⟨tl,pl,ql⟩:=hl
 obtain⟨th,ph,qh⟩:=hh
 refine⟨_,Za7 (sl_list.or xE) p pl ph,λH0 B Hf sd σ H Q sr h=>?_⟩
 refine q H0 B Hf sd σ H _ sr (Po.bind h λd v MB H1 _ g1 rv h1=>?_)
 refine ql H0 B MB sd σ H1 _ (sr.gr g1) (Po.bind h1 λl l' MI H2 _ g2 el h2=>?_)
 have el:l=l':=el
 subst el
 refine qh H0 B MI sd σ H2 _ ((sr.gr g1).gr g2) (Po.bind h2 λu u' SQ H3 _ g3 eu h3=>?_)
 have eu:u=u':=eu
 subst eu
 have jg:=(Rep.mono g3.fz (Rep.mono g2.fz rv))
 unfold k8 at h3
 split at h3
 .rename_i ds
  obtain⟨a,xs,rfl,ha,hr⟩:=rep_lst.mp jg
  exact .inl ⟨a,xs,rfl,g3.sub.seq ha,λp hp=>h3 _ _ _ (Gr.alloc g3.sub hp _) (Gr.lst g3.sub hp (Af hr _ _))⟩
 .rename_i ds
  split at h3
  .exact h3.elim
  .rename_i hw
   obtain⟨a,xs,rfl,ha,hr⟩:=Qg jg
   exact .inr ⟨a,xs,rfl,Same.seqT g3.sub ha,by rw[<-hr.length];exact hw,λp hp=>h3 _ _ _ (Gr.alloc g3.sub hp _) (Gr.tup g3.sub hp (Af hr _ _))⟩
 .exact h3.elim
def Pk (K:PySem.W.Frag)(Hf _H:Hp)(ds:List D)(J:It):Prop:=∀(i:Nat) (MB H1:Hp),Same Hf MB->Same MB H1->match ds[i]? with
 |some d=>J.go i H1/\∀x H2,J.yld i H1 x H2->∃MI,Gr MB H1 MI H2/\Rep K MI d x
 |none=>J.stop i H1
def ar (X:Cx)(E:XK)(tg iter:Expr)(fi:Zf->M (List D)):Prop:=
 ∃wi:TI,PI X tg iter wi/\∀(H0:Hp) (B:Addr->Prop) (Hf:Hp) (sd:Zf) (σ:L2.St) (H:Hp) (R:It->Hp->Prop),SR X.K H0 B Hf sd σ H->Po X.K E (Pk X.K) Hf H (fi sd) R->wi σ H R
def we {K:PySem.W.Frag}{Hf H:Hp}{a:Addr}{xs:List V}{ds:List D}(h:SqL K Hf a xs)(r:Reps K Hf ds xs):Pk K Hf H ds (d6 K a):=by
 intro i MB H1 e1 e2
 have h2:=e2.seq (e1.seq h)
 cases q:ds[i]? with
 |some d=>
  obtain⟨x,ex,rx⟩:=r.get q
  refine⟨⟨xs,x,h2,ex⟩,λy H2 hy=>?_⟩
  obtain⟨e,hy⟩:=hy
  subst e
  have ey:=hy xs h2
  rw[ex] at ey
  cases ey
  exact⟨MB,Gr.refl e2,rx.mono e1⟩
 |none=>
  refine⟨xs,h2,?_⟩
  have:=r.none_of q
  exact BH.mp this
def wc {K:PySem.W.Frag}{Hf H:Hp}{a:Addr}{xs:List V}{ds:List D}(h:SqT K Hf a xs)(r:Reps K Hf ds xs):Pk K Hf H ds (av K a):=by
 intro i MB H1 e1 e2
 have h2:=Same.seqT e2 (Same.seqT e1 h)
 cases q:ds[i]? with
 |some d=>
  obtain⟨x,ex,rx⟩:=r.get q
  refine⟨⟨xs,x,h2,ex⟩,λy H2 hy=>?_⟩
  obtain⟨e,hy⟩:=hy
  subst e
  have ey:=hy xs h2
  rw[ex] at ey
  cases ey
  exact⟨MB,Gr.refl e2,rx.mono e1⟩
 |none=>
  refine⟨xs,h2,?_⟩
  have:=r.none_of q
  exact BH.mp this
def Ru (lo:Int)(n:Nat):List D:=(List.range n).map λk=>.int (lo+(k:Nat))
def wa {K:PySem.W.Frag}{Hf H:Hp}(lo:Int)(n:Nat):Pk K Hf H (Ru lo n) (d5 lo n):=by
 intro i MB H1 e1 e2
 unfold Ru
 rw[BP]
 by_cases hi:i<n
 .rw[List.getElem?_range hi]
  refine⟨hi,λy H2 hy=>?_⟩
  obtain⟨e,hy⟩:=hy
  subst e
  exact⟨MB,Gr.refl e2,rep_int.mpr hy⟩
 .rw[JH (by simpa using hi)]
  exact FU hi
def W0 (f:Zf->M D)(sd:Zf):M (List D):=(f sd).bind λd=>match d with
 |.lst ds=>.ok ds
 |.tup ds=>.ok ds
 |_=>.bad
def wZ {tg l:Expr}{tl:TE}(hl:PE X l tl):PI X tg l (λσ H R=>tl σ H λx H1=>(∃a,x=.ref a/\(∃xs,SqL X.K H1 a xs)/\R (d6 X.K a) H1)\/∃a,x=.ref a/\(∃xs,SqT X.K H1 a xs)/\R (av X.K a) H1):=by
 intro pins s σ H R I h
 refine Yf (hl pins s σ H _ I h) λv s1 ⟨x,H1,I1,r1,q1⟩=>?_
 rcases q1 with⟨a,e,⟨xs,hq⟩,q⟩|⟨a,e,⟨xs,hq⟩,q⟩
 .subst e
  cases r1
  obtain⟨its,rv,p,hz⟩:=I1.list hq
  refine EG p.isList ?_
  refine⟨s1.heap.objs.size,[s1.heap.objs.size],_,_,H1,rfl,I1.kept (t':=s1.toks) λb o e=>AB _ e,To a _,⟨_,AH _ rfl,rfl,rfl⟩,λb hb=>?_,q⟩
  have e:b=s1.heap.objs.size:=by simpa using hb
  subst e
  exact I1.fpOk (AO _) (I1.hok.fresh (AO _))
 .subst e
  cases r1
  obtain⟨its,rv,p,hz⟩:=I1.tuple hq
  refine wpAny_pyIter_tuple (show s1.heap.IsTuple a its.toArray from p) ?_
  refine⟨s1.heap.objs.size,[s1.heap.objs.size],_,_,H1,rfl,I1.kept (t':=s1.toks) λb o e=>AB _ e,Ra a _,⟨_,AH _ rfl,rfl,rfl⟩,λb hb=>?_,q⟩
  have e:b=s1.heap.objs.size:=by simpa using hb
  subst e
  exact I1.fpOk (AO _) (I1.hok.fresh (AO _))
def Uu {tg l:Expr}{f:Zf->M D}(h:Yt X E l f):ar X E tg l (W0 f):=by
 obtain⟨t,p,q⟩:=h
 refine⟨_,wZ p,λH0 B Hf sd σ H R sr h=>?_⟩
 refine q H0 B Hf sd σ H _ sr (Po.bind h λd v MB H1 _ g1 rv h1=>?_)
 split at h1
 .rename_i ds
  obtain⟨a,xs,rfl,ha,hr⟩:=rep_lst.mp rv
  exact .inl ⟨a,rfl,⟨xs,g1.sub.seq ha⟩,Po.ret (R:=Pk X.K) g1.sub h1 (we ha hr)⟩
 .rename_i ds
  obtain⟨a,xs,rfl,ha,hr⟩:=Qg rv
  exact .inr ⟨a,rfl,⟨xs,Same.seqT g1.sub ha⟩,Po.ret (R:=Pk X.K) g1.sub h1 (wc ha hr)⟩
 .exact h1.elim
def Vj (fs:Zf->M (List D))(sd:Zf):M (List D):=(fs sd).bind λds=>match ds with
 |[.int j]=>if -1000000<=j/\j<=1000000 then .ok (Ru 0 j.toNat) else .bad
 |_=>.bad
def We {tg a:Expr}{p:Pos}{fs:Zf->M (List D)} (hg:Gl X "range") (hm:X.mg "range"=none) (h:S2 X E [a] fs) (hs:starEach [a] X.env=[(false,eval a X.env)]:=by rfl):ar X E tg (.Call (.Name "range" p) [a] [] pos) (Vj fs):=by
 obtain⟨t,pt,q⟩:=h
 refine⟨_,Iv hg hm pt hs,λH0 B Hf sd σ H R sr h=>?_⟩
 refine q H0 B Hf sd σ H _ sr (Po.bind h λds vs MB H1 _ g1 rs h1=>?_)
 split at h1
 .split at h1
  .rename_i hj
   obtain⟨v,rfl,rv⟩:=Jw rs
   rw[rep_int.mp rv]
   exact⟨_,rfl,by lia,by lia,Po.ret (R:=Pk X.K) g1.sub h1 (wa 0 _)⟩
  .exact h1.elim
 .exact h1.elim
def Jc (g:D->Zf->M Zf)(f:Zf->M O):List D->Zf->M O
 |[],sd=>.ok (.nx sd)
 |d::r,sd=>match g d sd with
  |.ok sd1=>(f sd1).bind λo=>match o with
   |.nx RV=>Jc g f r RV
   |.ct RV=>Jc g f r RV
   |.bk RV=>.ok (.nx RV)
   |.rt s=>.ok (.rt s)
  |_=>.bad
def Pm (fi:Zf->M (List D))(g:D->Zf->M Zf)(f:Zf->M O)(sd:Zf):M O:=(fi sd).bind λds=>Jc g f ds sd
def Kv {tg iter:Expr}{body:List Stmt}{fi:Zf->M (List D)}{g:D->Zf->M Zf}{f:Zf->M O}(hp:PassesOwn (model X.prog X.w) X.A X.env X.xe)(hc:X.calm=true)(hi:ar X E tg iter fi)(hg:YL X tg g)(hb:U3 X E body f)(hs:∀x,foldedSetIterable iter X.env x=pure x:=by intro _;rfl):Wq X E (.For tg iter body [] pos) (Pm fi g f):=by
 obtain⟨wi,pw,qw⟩:=hi
 obtain⟨jX,pg,qg⟩:=hg
 obtain⟨tb,pb,qb⟩:=hb
 refine⟨_,Da hp hc pw pg pb hs,λH0 B Hf sd σ H D sr h=>?_⟩
 refine qw H0 B Hf sd σ H _ sr (PoS.bind sr h λds J MB H1 _ g1 sr1 J1 h1=>?_)
 refine⟨λi m σ' H'=>m=ds.length-i/\∃LZ sd',Same MB LZ/\SR X.K H0 B LZ sd' σ' H'/\PoS X.K E H0 B LZ (Jc g f (ds.drop i) sd') D,⟨ds.length,by simp,MB,sd,Same.refl _,sr1,by simpa using h1⟩,?_⟩
 rintro i m σ2 H2 ⟨rfl,MI,RV,e2,sr2,h2⟩
 have jj:=J1 i MI H2 e2 sr2.sub
 cases q:ds[i]? with
 |none=>
  rw[q] at jj
  refine .inl ⟨jj,?_⟩
  rw[JD (BH.mp q)] at h2
  exact h2 σ2 MI H2 (Same.refl _) sr2
 |some d=>
  rw[q] at jj
  obtain⟨go,yl⟩:=jj
  have NN:i<ds.length:=(AG.mp q).1
  have hd:ds.drop i=d::ds.drop (i+1):=by
   rw[DB NN]
   congr 1
   exact(AG.mp q).2
  rw[hd] at h2
  refine .inr ⟨go,λσ' H'=>∃LZ sd',Same MB LZ/\SR X.K H0 B LZ sd' σ' H'/\PoS X.K E H0 B LZ (Jc g f (ds.drop (i+1)) sd') D,λσ' H' w=>⟨ds.length-(i+1),by lia,rfl,w⟩,λx H3 y3=>?_⟩
  obtain⟨SQ,g3,rx⟩:=yl x H3 y3
  have sr3:=sr2.gr g3
  unfold Jc at h2
  split at h2
  .rename_i fL eg
   refine qg H0 B SQ RV σ2 H3 x d fL _ sr3 rx eg λσ4 sr4=>?_
   refine qb H0 B SQ fL σ4 H3 _ sr4 ?_
   have h2:=PoS.weak g3.fz h2
   cases ef:f fL with
   |ok o=>
    rw[ef] at h2
    cases o with
    |nx sd'=>exact λσ' LZ H' e' sr'=>⟨LZ,sd',e2.trans (g3.fz.trans e'),sr',PoS.weak e' h2⟩
    |ct sd'=>exact λσ' LZ H' e' sr'=>⟨LZ,sd',e2.trans (g3.fz.trans e'),sr',PoS.weak e' h2⟩
    |bk sd'=>exact h2
    |rt s=>exact h2
   |ex x=>rw[ef] at h2;exact h2
   |bad=>rw[ef] at h2;exact h2
  .exact h2.elim
end
def Na {prog:Program}{w:World}{A:Around}{R:Result->Shared->Prop}{s:Shared}{elt target iter:Expr}{scope:Scope}{pos:Pos}{it acc:Value}{env:Env}(I:Nat->Shared->Prop)
  (turn:∀n s,I n s->wpAny (model prog w) A (pyNext it) (λr s₁=>match r with
   |none=>R (.ok .next) s₁
   |some v=>wpAny (model prog w) A (letOwnedTupleGo target it v) (λ_ s₂=>wpAny (model prog w) A (assign target env v) (λ_ s₃=>wpAny (model prog w) A (eval elt env) (λx s₄=>
     wpAny (model prog w) A (call (.builtin "list.append") [acc,x]) (λ_ s₅=>∃m,m<n/\I m s₅) (λ_ _=>False) s₄) (λ_ _=>False) s₃) (λ_ _=>False) s₂) (λ_ _=>False) s₁) (λ_ _=>False) s)
  (n:Nat) (h:I n s):
  codeAny (model prog w) A (.compLoop (.ListComp elt [⟨target,iter,[],0⟩] scope pos) 0 it acc env) R s:=by
 refine codeAny_loop rfl I (λn s hI=>?_) n h
 show wpAny _ A ((compTurn (.ListComp elt [⟨target,iter,[],0⟩] scope pos) 0 it acc env).onRaise (λx=>do noteFrame x env;theTreesLotGoes x)) _ _ s
 refine wpAny_noted ?_
 rw[compTurn_list]
 refine AA (FK (AA (CB (turn n s hI) (λr s₁ h₁=>?_) λ_ _ h'=>h'.elim)))
 cases r with
 |none=>exact AE h₁
 |some v=>
  refine AA (CB h₁ (λ_ s₂ h₂=>?_) λ_ _ h'=>h'.elim)
  refine AA (CB h₂ (λ_ s₃ h₃=>?_) λ_ _ h'=>h'.elim)
  refine AA (wpAny_tests_nil ?_)
  exact AA (AA (CB h₃ (λx s₄ h₄=>AA (CB h₄ (λ_ s₅ h₅=>AE (AE ⟨rfl,h₅⟩)) λ_ _ h'=>h'.elim)) λ_ _ h'=>h'.elim))
def Rv (X:Cx)(Nc:List Str)(scope:Scope)(cl:List (Str×Addr))(s3:Shared)(H3:Hp)(C:Addr)(ex:List Addr):Cx:=
 {X with N:=Nc,s₀:=s3,H₀:=H3,env:=compEnvC scope cl C X.env,outer:=X.stack,stack:=X.stack,ex:=ex,fn:=λ_=>false,pn:=[],xe:=λ_ _=>False}
structure VP (X:Cx) (Nc:List Str) (n0:Nat) (caps:List Nat) (scope:Scope) (cl:List (Str×Addr)):Prop where
 sub:∀y c,cl.lookup y=some c->X.env.cells.lookup y=some c
 has:∀y,(relabel scope X.env).names.lookup y=some .cell\/(relabel scope X.env).names.lookup y=some .free->∃c,cl.lookup y=some c
 cap:∀(i j:Nat) (x:Str),Nc[n0+i]?=some x->caps[i]?=some j->X.N[j]?=some x/\X.env.scope.names.lookup x=some .cell/\(relabel scope X.env).names.lookup x=some .cell
 len:Nc.length=n0+caps.length
def Yx:Obj:={cls:=.type "list", dict:=none,data:=.seq ([]:List Value).toArray}
section
variable {X:Cx}{pins:List (Addr×Obj)}{σ:L2.St}{H2:Hp}{s2:Shared}{Nc:List Str}{n0:Nat}{caps:List Nat}{scope:Scope}{cl:List (Str×Addr)}{fp:List Addr}
def Zbn (I2:Inv X pins σ H2 s2)(f2:∀b∈fp,P9 X pins H2 b)(hold:∀b∈fp,∃o,s2.heap.get? b=some o)(OQ:scope.kind=.function)(cap:VP X Nc n0 caps scope cl){h1:Heap}{m0:Str->Option Value}{tk:Nat}(SY:h1.Ns (s2.heap.objs.size+1) m0)(hold1:∀b o,s2.heap.get? b=some o->h1.get? b=some o)(hD:h1.get? s2.heap.objs.size=some Yx):
  Inv (Rv X Nc scope cl {s2 with heap:=s2.heap.push Yx} (upd H2 s2.heap.objs.size (.lst [])) (s2.heap.objs.size+1) fp) [] (List.replicate n0 none++caps.map λj=>(σ[j]?).join) (upd H2 s2.heap.objs.size (.lst [])) {s2 with heap:=h1,toks:=tk}:=by
 have fresh:H2 s2.heap.objs.size=none:=I2.hok.fresh (AO _)
 have ZR:H2 (s2.heap.objs.size+1)=none:=I2.hok.fresh (DR _)
 have sz:(s2.heap.push Yx).objs.size=s2.heap.objs.size+1:=CU _ _
 have lt:∀{b:Addr}{o:Obj},s2.heap.get? b=some o->b<s2.heap.objs.size:=λe=>AJ e
 have pH:∀{b:Addr}{o:Obj},s2.heap.get? b=some o->b≠s2.heap.objs.size:=λe=>AI (lt e)
 have sG:∀y c,cl.lookup y=some c->c<s2.heap.objs.size:=λy c e=>by
  obtain⟨v,q⟩:=I2.cell y c (cap.sub y c e)
  exact q.lt
 have rM:∀b∈Tn X.stack,b<s2.heap.objs.size:=λb hb=>by
  obtain⟨_,o,ho,_⟩:=I2.stack.mem hb
  exact lt ho
 have kp:∀b o,(s2.heap.push Yx).get? b=some o->h1.get? b=some o:=λb o e=>by
  by_cases hb:b=s2.heap.objs.size
  .subst hb
   rw[AH _ rfl] at e
   cases e
   exact hD
  .rw[Heap.get?_push_ne _ _ _ hb] at e
   exact hold1 b o e
 have gH:HOk X.prog X.w (upd H2 s2.heap.objs.size (.lst [])) h1:=I2.hok.laid hold1 (AO _) ⟨CI _,[],0,.nil,hD⟩
 refine⟨⟨I2.ok.mod,?_,I2.ok.glob,I2.ok.blt,?_,?_,?_,?_,I2.ok.hd,I2.ok.frames,.inl rfl,?_,?_,?_,?_,?_,?_,?_⟩,rfl,I2.bare,?_,⟨m0,SY,?_⟩,?_,?_,?_,?_,gH,?_⟩
 .show(relabel scope X.env).kind=.function
  exact OQ
 .show(s2.heap.push Yx).objs.size<=s2.heap.objs.size+1
  rw[sz];exact AO _
 .intro x y c h1 h2
  exact I2.ok.inj x y c (cap.sub x c h1) (cap.sub y c h2)
 .intro x h
  exact cap.has x h
 .intro x c h
  cases h
 .intro b hb
  refine⟨?_,λx c e=>?_⟩
  .obtain⟨o,e⟩:=hold b hb
   exact AI (DY (lt e))
  .exact(f2 b hb).2.2.2.2.1 x c (cap.sub x c e)
 .intro b o e
  obtain⟨q1,q2⟩:=I2.bs b o e
  exact⟨AB _ q1,(Zl (pH q1)).trans q2⟩
 .show X.base.objs.size<=(s2.heap.push Yx).objs.size
  rw[sz]
  exact HE (AV I2.ok.bsz I2.sz)
 .intro b o e hb
  obtain⟨_,_,_,f4,_,_⟩:=f2 b hb
  rcases f4 with z|z
  .exact I2.ok.noex b o e z
  .exact absurd (AM (AM (AJ e) I2.ok.bsz) z) (EL _)
 .intro b hb hz
  rcases AZ.mp (I2.stkSub b hz) with e|hz
  .exact(f2 b hb).2.1 e
  .exact(f2 b hb).2.2.1 hz
 .exact I2.stack.of_keeps λb o e _=>⟨o,AB _ e,rfl⟩
 .intro b hb
  show upd H2 s2.heap.objs.size (.lst []) b=none
  rw[Zl (AI (rM b hb))]
  exact I2.stkFree b hb
 .exact Un.kept kp
 .intro i x v e1 e2 e3
  have hi:n0<=i:=by
   refine FU λNN=>?_
   rw[BN (by simpa using NN),CN] at e2
   split at e2<;>cases e2
  obtain⟨k,rfl⟩:=IS hi
  rw[BZ (by simp),DE,FW,BP] at e2
  cases ej:caps[k]? with
  |none=>rw[ej] at e2;cases e2
  |some j=>
   rw[ej] at e2
   have e2:(σ[j]?).join=some v:=by simpa using e2
   have es:σ[j]?=some (some v):=by
    cases z:σ[j]? with
    |none=>rw[z] at e2;cases e2
    |some q=>rw[z] at e2;have:q=some v:=e2;rw[this]
   obtain⟨a1,a2,a3⟩:=cap.cap k j x e1 ej
   obtain⟨m,hn,hl⟩:=I2.loc
   obtain⟨u,ru,lk⟩:=hl j x v a1 es (.inr (.inl a2))
   refine⟨u,ru,?_⟩
   rcases lk with⟨z,_⟩|⟨_,c,ec,cell⟩
   .have z:X.env.scope.names.lookup x=some .local:=z
    rw[a2] at z;cases z
   .obtain⟨c',ki⟩:=cap.has x (.inl a3)
    have:=cap.sub x c' ki
    rw[ec] at this
    cases this
    obtain⟨o,ho,hd⟩:=cell
    exact .inr ⟨.inl a3,c,ki,o,hold1 _ _ ho,hd⟩
 .intro x c e
  obtain⟨v,o,ho,hd⟩:=I2.cell x c (cap.sub x c e)
  exact⟨v,o,hold1 _ _ ho,hd⟩
 .show upd H2 s2.heap.objs.size (.lst []) (s2.heap.objs.size+1)=none
  rw[Zl (DH (EC _))]
  exact ZR
 .intro x c e
  show upd H2 s2.heap.objs.size (.lst []) c=none
  rw[Zl (AI (sG x c e))]
  exact I2.freeC x c (cap.sub x c e)
 .intro p hp
  exact absurd (show p∈([]:List (Addr×Obj)) from hp) (by simp)
 .rw[BE,DE,BM]
  exact cap.len.symm
def On (I2:Inv X pins σ H2 s2)(f2:∀b∈fp,P9 X pins H2 b){σ':L2.St}{H':Hp}{s':Shared}{h':Heap}(J:Inv (Rv X Nc scope cl {s2 with heap:=s2.heap.push Yx} (upd H2 s2.heap.objs.size (.lst [])) (s2.heap.objs.size+1) fp) [] σ' H' s')(sb:Heap.SameBut (s2.heap.objs.size+1) s'.heap h'):
  Inv X pins σ H' {s' with heap:=h'}:=by
 have I3:Inv X pins σ (upd H2 s2.heap.objs.size (.lst [])) {s2 with heap:=s2.heap.push Yx}:=I2.laid (t':=s2.toks) (λb u e=>AB _ e) (AO _) ⟨CI _,[],0,.nil,AH _ rfl⟩
 have sz:(s2.heap.push Yx).objs.size=s2.heap.objs.size+1:=CU _ _
 have same:∀{b:Addr}{o:Obj},(s2.heap.push Yx).get? b=some o->h'.get? b=s'.heap.get? b:=λ{b o} e=>sb.2 b (by
  have:=AJ e
  rw[sz] at this
  exact AI this)
 have u:Un (Tn X.stack) fp (upd H2 s2.heap.objs.size (.lst [])) H' (s2.heap.push Yx) s'.heap:=J.base
 refine I3.call' (s':={s' with heap:=h'}) (ch:=fp) J.os ⟨λb o e n h1 h2=>?_,λb o e n h1 h2=>?_,u.free,λb o e h1=>?_,u.tups,u.frzs,u.tbls⟩ (λb ob e=>?_) J.bare λb hb=>?_
 .show h'.get? b=_
  rw[same e];exact u.keep b o e n h1 h2
 .show ∃sl,h'.get? b=_
  rw[same e];exact u.slot b o e n h1 h2
 .show ∃o',h'.get? b=_
  rw[same e];exact u.there b o e h1
 .have fr:H' (s2.heap.objs.size+1)=none:=J.free
  refine(J.hok b ob e).stay (λc w hc q=>?_) (λ_ q=>q) (λ_ _ q=>q) λ_ _ _ q=>q
  refine(sb.2 c ?_).trans q
  rintro rfl
  rcases hc with rfl|hc
  .rw[fr] at e;cases e
  .rw[fr] at hc;cases hc
 .obtain⟨f0,f1,_,f3,f4,f5⟩:=f2 b hb
  exact⟨f3,f1,f4,f5⟩
end
def lS:Option S->Option S
 |some (.im d)=>some (.im d)
 |_=>none
def Mj (n0:Nat)(caps:List Nat)(sd:Zf):Zf:=List.replicate n0 none++caps.map λj=>lS (sd[j]?).join
def U4 (gt:D->Zf->M Zf)(fe:Zf->M D)(SN:Zf):List D->M (List D)
 |[]=>.ok []
 |d::ds=>match gt d SN with
  |.ok sd1=>match fe sd1 with
   |.ok e=>match U4 gt fe SN ds with
    |.ok es=>.ok (e::es)
    |_=>.bad
   |_=>.bad
  |_=>.bad
def Rw (fi:Zf->M (List D))(n0:Nat)(caps:List Nat)(gt:D->Zf->M Zf)(fe:Zf->M D)(sd:Zf):M (List D):=(fi sd).bind λds=>if few ds then U4 gt fe (Mj n0 caps sd) ds else .bad
def PoF (K:PySem.W.Frag)(E:XK)(Hf H:Hp)(r:M (List D))(Q:VK):Prop:=match r with
 |.ok ds=>∀p xs LZ H',Gr Hf H LZ H'->H p=none->LZ p=none->H' p=some (.lst xs)->Reps K LZ ds xs->Q (.ref p) H'
 |.ex x=>∀c dx LZ H',Gr Hf H LZ H'->cU K LZ H' x c dx->E c dx H'
 |.bad=>False
def dg (X:Cx)(E:XK)(e:Expr)(f:Zf->M (List D)):Prop:=
 ∃t:TE,PE X e t/\∀(H0:Hp) (B:Addr->Prop) (Hf:Hp) (sd:Zf) (σ:L2.St) (H:Hp) (Q:VK),SR X.K H0 B Hf sd σ H->PoF X.K E Hf H (f sd) Q->t σ H Q
def PoF.weak {K:PySem.W.Frag}{E:XK}{Hf H MB H1:Hp}{r:M (List D)}{Q:VK}(g:Gr Hf H MB H1)(h:PoF K E Hf H r Q):PoF K E MB H1 r Q:=by
 cases r with
 |ok a=>exact λp xs LZ H' g' e1 e2 e3 e4=>h p xs LZ H' (g.trans g') (g.all.free e1) e2 e3 e4
 |ex x=>exact λc dx LZ H' g' q=>h c dx LZ H' (g.trans g') q
 |bad=>exact h
theorem PoF.bind {K:PySem.W.Frag}{E:XK}{Hf H:Hp}{α β:Type}{R:Hp->Hp->α->β->Prop}{r:M α}{k:α->M (List D)}{Q:VK}{Q1:β->Hp->Prop}(h:PoF K E Hf H (r.bind k) Q)(s:∀a b MB H1,r=.ok a->Gr Hf H MB H1->R MB H1 a b->PoF K E MB H1 (k a) Q->Q1 b H1):Po K E R Hf H r Q1:=by
 cases r with
 |ok a=>exact λb LZ H' g q=>s a b LZ H' rfl g q (PoF.weak g h)
 |ex x=>exact h
 |bad=>exact h
def Dr (f:Zf->M (List D))(sd:Zf):M D:=(f sd).bind λds=>.ok (.lst ds)
def Ds {X:Cx}{E:XK}{e:Expr}{f:Zf->M (List D)}(h:dg X E e f):Yt X E e (Dr f):=by
 obtain⟨t,p,q⟩:=h
 refine⟨t,p,λH0 B Hf sd σ H Q sr h=>q H0 B Hf sd σ H Q sr ?_⟩
 unfold Dr at h
 cases e:f sd with
 |ok ds=>
  rw[e] at h
  intro p xs LZ H' g e1 e2 e3 e4
  refine h _ (upd LZ p (.lst xs)) H' ⟨g.fz.trans (Qa e2 _),λb u z=>?_,g.all,λa h1 h2=>?_⟩ (rep_lst.mpr ⟨p,xs,rfl,SqL.of Zo,e4.mono (Qa e2 _)⟩)
  .by_cases hb:b=p
   .subst hb;rw[Zo] at z;rw[e3];exact z
   .rw[Zl hb] at z;exact g.sub b u z
  .have:a≠p:=λz=>h1.nn (z▸e1)
   rw[Zl this];exact g.ban a h1 h2
 |ex x=>rw[e] at h;exact h
 |bad=>rw[e] at h;exact h
def Oo {gt:D->Zf->M Zf}{fe:Zf->M D}{SN:Zf}{x:XV}:∀{ds:List D},U4 gt fe SN ds=.ex x->False
 |[],h=>by cases h
 |d::ds,h=>by
  unfold U4 at h
  split at h
  .split at h
   .split at h<;>cases h
   .cases h
  .cases h
def SR.ofIm {K:PySem.W.Frag}{Hf H:Hp}{sd:Zf}{σ:L2.St}(e:Same Hf H)(hl:sd.length=σ.length)(qf:∀(i:Nat) (d:D),sd[i]?=some (some (.im d))->∃v,σ[i]?=some (some v)/\Rep K Hf d v)(OU:∀(i:Nat) (t:S),sd[i]?=some (some t)->∃d,t=.im d):
  SR K H (λa=>Lv H a/\Hf a=none) Hf sd σ H:=
 ⟨e,Same.refl _,λ_ h=>h.2,λ_ h=>h.1,hl,λi t h _=>(by obtain⟨d,rfl⟩:=OU i t h;exact qf i d h),λi t h ho=>(by obtain⟨d,rfl⟩:=OU i t h;cases ho),λi _ t _ _ _ h ho _ _ _ _=>(by obtain⟨d,rfl⟩:=OU i t h;cases ho)⟩
def nW {n0:Nat}{caps:List Nat}{sd:Zf}{i:Nat}{s:S}(h:(Mj n0 caps sd)[i]?=some (some s)):n0<=i:=by
 refine FU λNN=>?_
 unfold Mj at h
 rw[BN (by simpa using NN),CN] at h
 split at h<;>cases h
def nV {n0:Nat}{caps:List Nat}{sd:Zf}{i:Nat}{s:S}(h:(Mj n0 caps sd)[i]?=some (some s)):∃k j d,i=n0+k/\caps[k]?=some j/\sd[j]?=some (some (.im d))/\s=.im d:=by
 obtain⟨k,rfl⟩:=IS (nW h)
 unfold Mj at h
 rw[BZ (by simp),DE,FW,BP] at h
 cases ej:caps[k]? with
 |none=>rw[ej] at h;cases h
 |some j=>
  rw[ej] at h
  have h:lS (sd[j]?).join=some s:=by simpa using h
  cases z:sd[j]? with
  |none=>rw[z] at h;cases h
  |some q=>
   rw[z] at h
   cases q with
   |none=>cases h
   |some q=>
    cases q with
    |im d=>cases h;exact⟨k,j,d,rfl,ej,z,rfl⟩
    |ow _=>cases h
    |od _=>cases h
    |dk _=>cases h
    |xc _=>cases h
    |fn _=>cases h
    |ob _ _ _=>cases h
    |fl _ _ _=>cases h
def wY {n0:Nat}{caps:List Nat}{sd:Zf}(i:Nat)(t:S)(h:(Mj n0 caps sd)[i]?=some (some t)):∃d,t=.im d:=by
 obtain⟨_,_,d,_,_,_,e⟩:=nV h
 exact⟨d,e⟩
def lR (n0:Nat)(gt:D->Zf->M Zf):Prop:=∀d sd sd1,gt d sd=.ok sd1->sd1.length=sd.length/\(∀i:Nat,n0<=i->sd1[i]?=sd[i]?)/\True
def Nb {n0 k:Nat}(h:k<n0):lR n0 (Ut k):=λd sd sd1 e=>by
 cases e
 exact⟨CA,λi hi=>AF (by lia),trivial⟩
def Rx {X:Cx}{E:XK}{pos:Pos}{tg elt iter:Expr}{scope:Scope}{Nc:List Str}{n0:Nat}{caps:List Nat}{cl:List (Str×Addr)}{fi:Zf->M (List D)}{gt:D->Zf->M Zf}{fe:Zf->M D}(hc:X.calm=true)(bc:closureFor scope X.env=pure cl)(cap:VP X Nc n0 caps scope cl)(OQ:scope.kind=.function)(PK:∀y∈scope.names,y.2≠.cell)(ZE:∀y∈scope.names,y.2=.local->scope.names.lookup y.1=some .local)(hk:lR n0 gt)(hi:ar X E tg iter fi)(hg:∀s3 H3 C ex,YL (Rv X Nc scope cl s3 H3 C ex) tg gt)(he:∀s3 H3 C ex,Yt (Rv X Nc scope cl s3 H3 C ex) E0 elt fe)(hs:∀x,foldedSetIterable iter X.env x=pure x:=by intro _;rfl):
  dg X E (.ListComp elt [⟨tg,iter,[],0⟩] scope pos) (Rw fi n0 caps gt fe):=by
 refine⟨λσ H Q=>∃H0 B Hf sd,SR X.K H0 B Hf sd σ H/\PoF X.K E Hf H (Rw fi n0 caps gt fe sd) Q,?_,λH0 B Hf sd σ H Q sr h=>⟨H0,B,Hf,sd,sr,h⟩⟩
 rintro pins s σ H Q I ⟨H0,B,Hf,sd,sr,h⟩
 obtain⟨wi,pw,qw⟩:=hi
 rw[eval_ListComp]
 refine wpAny_comprehension_free (use:=none) rfl hs bc OQ ZE ?_
 have step:=pw pins s σ H (λJ H2=>∃ds MI,Gr Hf H MI H2/\Pk X.K MI H2 ds J/\PoF X.K E MI H2 (if few ds then U4 gt fe (Mj n0 caps sd) ds else .bad) Q) I
  (qw H0 B Hf sd σ H _ sr (PoF.bind h λds J MI H2 _ g2 fZ h2=>⟨ds,MI,g2,fZ,h2⟩))
 refine Yf step λv s1 h1=>Yf h1 λff s2 h2=>?_
 obtain⟨it,fp,tn,J,H2,rfl,I2,T,bC,f2,ds,MI,g2,fZ,hq⟩:=h2
 have sr2:=sr.gr g2
 split at hq
 case isFalse=>exact hq.elim
 case isTrue hfew=>
 have fresh:H2 s2.heap.objs.size=none:=I2.hok.fresh (AO _)
 have UT:∀b∈fp,∃o,s2.heap.get? b=some o:=λb hb=>let ⟨o,e,_⟩:=T.obj 0 _ bC b hb;⟨o,e⟩
 refine DC (wpAny_newFunctionEnv PK (by intro y hy;simp at hy) (λh₁ gN gC=>?_) OQ)
 have hC:(s2.heap.push Yx).objs.size=s2.heap.objs.size+1:=CU _ _
 have SY:h₁.Ns (s2.heap.objs.size+1) (λx=>([]:List (Str×Value)).reverse.lookup x):=hC▸gN
 have hsb:Heap.SameBut (s2.heap.objs.size+1) ((s2.heap.push Yx).push {cls:=.type "dict", data:=.dict #[]}) h₁:=hC▸gC
 have hold1:∀b o,s2.heap.get? b=some o->h₁.get? b=some o:=λb o e=>by
  have hb:b<s2.heap.objs.size:=AJ e
  exact(hsb.2 b (AI (DY hb))).trans (AB _ (AB _ e))
 have hD:h₁.get? s2.heap.objs.size=some Yx:=(hsb.2 _ (AI (EC _))).trans (AB _ (AH _ rfl))
 have J0:=Zbn I2 f2 UT OQ cap (tk:=s2.toks+([]:List (Str×Value)).length) SY hold1 hD
 have hg:=hg {s2 with heap:=s2.heap.push Yx} (upd H2 s2.heap.objs.size (.lst [])) (s2.heap.objs.size+1) fp
 have he:=he {s2 with heap:=s2.heap.push Yx} (upd H2 s2.heap.objs.size (.lst [])) (s2.heap.objs.size+1) fp
 generalize WQ:Rv X Nc scope cl {s2 with heap:=s2.heap.push Yx} (upd H2 s2.heap.objs.size (.lst [])) (s2.heap.objs.size+1) fp=Xc at J0 hg he
 have eP:Xc.prog=X.prog:=by subst WQ;rfl
 have eW:Xc.w=X.w:=by subst WQ;rfl
 have eK:Xc.K=X.K:=by subst WQ;rfl
 have eA:Xc.A=X.A:=by subst WQ;rfl
 have eX:Xc.xe=λ_ _=>False:=by subst WQ;rfl
 have eE:Xc.env=compEnvC scope cl (s2.heap.objs.size+1) X.env:=by subst WQ;rfl
 have eC:Xc.calm=true:=by subst WQ;exact hc
 have hZ:∀{H':Hp},(∀b∈fp,H' b=none)->∀b∈fp,P9 Xc [] H' b:=λ{H'} hn b hb=>by
  subst WQ
  obtain⟨f0,f1,rO,f3,f4,f5⟩:=f2 b hb
  obtain⟨o,eo⟩:=UT b hb
  refine⟨hn b hb,AI (DY (AJ eo)),λhz=>?_,.inl hb,λx c e=>f4 x c (cap.sub x c e),λp hp=>absurd (show p∈([]:List (Addr×Obj)) from hp) (by simp)⟩
  rcases AZ.mp (I2.stkSub b hz) with e|hz
  .exact f1 e
  .exact rO hz
 have pG:∀b∈fp,b≠s2.heap.objs.size:=λb hb=>by
  obtain⟨o,eo⟩:=UT b hb
  exact AI (AJ eo)
 obtain⟨jX,pg,qg⟩:=hg
 obtain⟨te,pe,qe⟩:=he
 have loop:∀s₃:Shared,s₃={s2 with heap:=h₁,toks:=s2.toks+([]:List (Str×Value)).length} ->
   codeAny (model X.prog X.w) X.A (.compLoop (.ListComp elt [⟨tg,iter,[],0⟩] scope pos) 0 (.ref it) (.ref s2.heap.objs.size) (compEnvC scope cl (s2.heap.objs.size+1) X.env))
    (compPost (model X.prog X.w) X.A X.xe none (EP X pins σ Q) (.ref s2.heap.objs.size) (s2.heap.objs.size+1)) s₃:=by
  rintro s₃ rfl
  refine Na (λn s'=>∃i vs es H' LZ σ',n=ds.length-i/\i<=ds.length/\Inv Xc [] σ' H' s'/\tn i s'.heap/\(∀b∈fp,H' b=none) /\
   H' s2.heap.objs.size=some (.lst vs)/\LZ s2.heap.objs.size=none/\Gr MI H2 LZ H'/\Reps X.K LZ es vs/\vs.length=i /\
   (Mj n0 caps sd).length=σ'.length/\(∀(j:Nat) (d:D),(Mj n0 caps sd)[j]?=some (some (.im d))->∃v,σ'[j]?=some (some v)/\Rep X.K LZ d v) /\
   PoF X.K E MI H2 ((U4 gt fe (Mj n0 caps sd) (ds.drop i)).bind λfs=>.ok (es++fs)) Q) ?_ ds.length ?_
  .rintro n s' ⟨i,vs,es,H',LZ,σ',rfl,hil,J1,ja,kN,gi,bY,g1,rs1,j1,bV,gb,hq1⟩
   have jj:=fZ i LZ H' g1.fz g1.sub
   cases q:ds[i]? with
   |none=>
    rw[q] at jj
    have XW:=T.done Xc eP eW eK eC i [] s' _ H' (λ_ _=>False) J1 (hZ kN) ja jj
    rw[eA] at XW
    refine CB XW (λr s4 hr=>?_) λ_ _ z=>z
    obtain⟨rfl,J4⟩:=hr
    rw[JD (BH.mp q)] at hq1
    subst WQ
    obtain⟨m,qP,_⟩:=J4.loc
    refine⟨m,qP,λh' sb=>?_⟩
    refine⟨.ref s2.heap.objs.size,H',On I2 f2 J4 sb,rfl,?_⟩
    have VQ:PoF X.K E MI H2 (.ok es) Q:=by
     have:es++([]:List D)=es:=BJ es
     rw[<-this];exact hq1
    exact VQ _ vs LZ H' g1 fresh bY gi rs1
   |some d=>
    rw[q] at jj
    obtain⟨go,yl⟩:=jj
    have NN:i<ds.length:=(AG.mp q).1
    have qp:ds.drop i=d::ds.drop (i+1):=by
     rw[DB NN]
     congr 1
     exact(AG.mp q).2
    obtain⟨sd1,e1,eg,ee,VQ⟩:∃sd1 e1,gt d (Mj n0 caps sd)=.ok sd1/\fe sd1=.ok e1/\PoF X.K E MI H2 ((U4 gt fe (Mj n0 caps sd) (ds.drop (i+1))).bind λfs=>.ok ((es++[e1])++fs)) Q:=by
     rw[qp] at hq1
     unfold U4 at hq1
     split at hq1
     .rename_i sd1 eg
      split at hq1
      .rename_i e1 ee
       refine⟨sd1,e1,eg,ee,?_⟩
       cases em:U4 gt fe (Mj n0 caps sd) (ds.drop (i+1)) with
       |ok fs=>
        rw[em] at hq1
        have:(es++[e1])++fs=es++e1::fs:=by simp
        rw[M.bind_ok,this]
        exact hq1
       |ex x=>exact(Oo em).elim
       |bad=>rw[em] at hq1;exact hq1.elim
      .exact hq1.elim
     .exact hq1.elim
    have XU:=T.item Xc eP eW eK eC i [] s' _ H' (λ_ _=>False) J1 (hZ kN) ja go
    rw[eA] at XU
    refine CB XU (λr s4 hr=>?_) λ_ _ z=>z
    obtain⟨u,rfl,h4⟩:=hr
    refine CB h4 (λ_ s5 h5=>?_) λ_ _ z=>z
    obtain⟨x,H5,J5,r5,y5,YT,hV⟩:=h5
    obtain⟨XT,g5,rx⟩:=yl x H5 y5
    have J5':=J5.pinned (hZ hV) (T.obj _ _ YT)
    have kJ:H5 s2.heap.objs.size=some (.lst vs):=g5.all _ _ gi
    have qo:XT s2.heap.objs.size=none:=g5.ban _ (Lv.lst gi) bY
    have gZ:∀(j:Nat) (d:D),(Mj n0 caps sd)[j]?=some (some (.im d))->∃v,σ'[j]?=some (some v)/\Rep X.K XT d v:=λj d z=>let ⟨v,z1,z2⟩:=gb j d z;⟨v,z1,z2.mono g5.fz⟩
    have sr5:SR Xc.K H5 (λa=>Lv H5 a/\XT a=none) XT (Mj n0 caps sd) σ' H5:=eK▸SR.ofIm g5.sub bV gZ wY
    obtain⟨kl,kk,kn⟩:=hk d _ sd1 eg
    have j7:=pg _ s5 σ' H5 x u (λσ6 H6=>te σ6 H6 λv7 H7=>∃VO,Gr XT H5 VO H7/\Rep X.K VO e1 v7/\(Mj n0 caps sd).length=σ6.length/\(∀(j:Nat) (d:D),(Mj n0 caps sd)[j]?=some (some (.im d))->∃v,σ6[j]?=some (some v)/\Rep X.K VO d v)) J5' r5
     (qg H5 _ XT _ σ' H5 x d sd1 _ sr5 (eK▸rx) eg λσ6 sr6=>qe H5 _ XT sd1 σ6 H5 _ sr6 (by
      rw[ee]
      intro v7 VO H7 g7 r7
      have r7:Rep Xc.K VO e1 v7:=r7
      rw[eK] at r7
      refine⟨VO,g7,r7,by rw[<-kl];exact sr6.len,λj d z=>?_⟩
      have z2:sd1[j]?=some (some (.im d)):=by rw[kk j (nW z)];exact z
      obtain⟨v,z3,z4⟩:=sr6.im j d z2
      rw[eK] at z4
      exact⟨v,z3,z4.mono g7.fz⟩))
    rw[eP,eW,eA,eX,eE] at j7
    refine CB j7 (λ_ s6 h6=>?_) λ_ _ z=>z
    obtain⟨σ6,H6,J6,q6⟩:=h6
    have dD:=pe _ s6 σ6 H6 _ J6 q6
    rw[eP,eW,eA,eX,eE] at dD
    refine CB dD (λy s7 h7=>?_) λ_ _ z=>z
    obtain⟨v7,H7,J7,r7,VO,g7,oU,qU,gY⟩:=h7
    have rG:H7 s2.heap.objs.size=some (.lst vs):=g7.all _ _ kJ
    have j9:VO s2.heap.objs.size=none:=g7.ban _ (Lv.lst kJ) qo
    have bp:=Gu (X:=Xc) _ s7 σ6 H7 (.ref s2.heap.objs.size) [v7] (.ref s2.heap.objs.size) [y] (λ_ H8=>H8=upd H7 s2.heap.objs.size (.lst (vs++[v7]))) J7 rfl (.cons r7 .nil)
     ⟨_,vs,v7,rfl,rfl,rG,by
      have h1:=BK hfew
      have h2:=CH
      lia,rfl⟩
    rw[eP,eW,eA,eX] at bp
    refine CB bp (λ_ s8 h8=>?_) λ_ _ z=>z
    obtain⟨_,H8,J8,_,e8⟩:=h8
    subst e8
    have g17:=(g1.trans g5).trans g7
    refine⟨ds.length-(i+1),by lia,i+1,vs++[v7],es++[e1],_,VO,σ6,rfl,NN,J8.unpinned,?_,λb hb=>?_,Zo,j9,⟨g17.fz,λb o z=>?_,λb o z=>?_,g17.ban⟩,?_,by rw[BE,j1];rfl,qU,gY,VQ⟩
    .exact T.keep _ _ _ YT λb hb o e=>(J8.pin (b,o) (CG _ (CG _ (Vd hb e)))).1
    .obtain⟨o,e,_⟩:=T.obj _ _ YT b hb
     exact(J8.pin (b,o) (CG _ (CG _ (Vd hb e)))).2.1
    .have:b≠s2.heap.objs.size:=Zt z j9
     rw[Zl this];exact g17.sub b o z
    .have:b≠s2.heap.objs.size:=Zt z fresh
     rw[Zl this];exact g17.all b o z
    .exact(rs1.mono (g5.fz.trans g7.fz)).append (Reps.cons oU Reps.nil)
  .refine⟨0,[],[],_,MI,_,by simp,CI _,J0,T.keep 0 _ _ bC λb hb o e=>hold1 b o e,λb hb=>?_,Zo,g2.sub.free fresh,⟨Same.refl _,λb o z=>?_,Qa fresh _,λ_ _ z=>z⟩,Reps.nil,rfl,?_,λj d z=>?_,?_⟩
   .rw[Zl (pG b hb)];exact(f2 b hb).1
   .have:b≠s2.heap.objs.size:=Zt (g2.sub b o z) fresh
    rw[Zl this];exact g2.sub b o z
   .unfold Mj;simp only[BE,DE,BM]
   .obtain⟨k,j',d',rfl,ej,es,ed⟩:=nV z
    cases ed
    obtain⟨v,z1,z2⟩:=sr2.im j' d es
    refine⟨v,?_,z2⟩
    rw[BZ (by simp),DE,FW,BP,ej]
    simp[z1]
   .have:∀r:M (List D),(r.bind λfs=>.ok ([]++fs))=r:=λr=>by cases r<;>simp
    rw[HX,this]
    exact hq
 show codeAny (model X.prog X.w) X.A (.compStart (.ListComp elt [⟨tg,iter,[],0⟩] scope pos) 0 (.ref it) (.ref s2.heap.objs.size) (compEnvC scope cl (s2.heap.push Yx).objs.size X.env))
  (compPost (model X.prog X.w) X.A X.xe none (EP X pins σ Q) (.ref s2.heap.objs.size) (s2.heap.push Yx).objs.size) {s2 with heap:=h₁,toks:=s2.toks+([]:List (Str×Value)).length}
 rw[hC]
 exact codeAny_compStart_list (loop _ rfl) (T.self X.A 0 _ _ _ (T.keep 0 _ _ bC λb hb o e=>hold1 b o e) (loop _ rfl))
section
variable {X:Cx}{E:XK}{pos:Pos}{a b:Expr}
def Dt (fs:Zf->M (List D))(sd:Zf):M (List D):=(fs sd).bind λds=>if few ds then .ok ds else .bad
def W1 {es:List Expr}{fs:Zf->M (List D)}(h:S2 X E es fs):dg X E (.List es pos) (Dt fs):=by
 obtain⟨t,p,q⟩:=h
 refine⟨_,Df p,λH0 B Hf sd σ H Q sr h=>?_⟩
 refine q H0 B Hf sd σ H _ sr (PoF.bind h λds vs MB H1 _ g1 rs h1=>?_)
 split at h1
 .rename_i hf
  refine⟨V7 hf rs,λp hp=>h1 p vs MB _ ⟨Same.refl _,g1.sub.trans (Qa hp _),Qa hp _,λ_ _ e=>e⟩ hp (g1.sub.free hp) Zo rs⟩
 .exact h1.elim
def PoS.bindF {K:PySem.W.Frag}{E:XK}{H0 Hf H:Hp}{B:Addr->Prop}{sd:Zf}{σ:L2.St}{r:M (List D)}{k:List D->M O}{D':Ends}{Q1:VK}(sr:SR K H0 B Hf sd σ H)(h:PoS K E H0 B Hf (r.bind k) D')(s:∀ds p xs MB H1,r=.ok ds->Gr Hf H MB H1->SR K H0 B MB sd σ H1->H p=none->MB p=none->H1 p=some (.lst xs)->Reps K MB ds xs->PoS K E H0 B MB (k ds) D'->Q1 (.ref p) H1):PoF K E Hf H r Q1:=by
 cases r with
 |ok ds=>exact λp xs LZ H' g e1 e2 e3 e4=>s ds p xs LZ H' rfl g (sr.gr g) e1 e2 e3 e4 (PoS.weak g.fz h)
 |ex x=>exact λc dx LZ H' g q=>h c dx LZ H' g.fz (sr.gr g).fin q
 |bad=>exact h
def SR.set_new {K:PySem.W.Frag}{H0 Hf H H1:Hp}{B:Addr->Prop}{sd:Zf}{σ:L2.St}(r0:SR K H0 B Hf sd σ H){MB:Hp}(r:SR K H0 B MB sd σ H1)(g:Same H H1)(i:Nat){p:Addr}{t:S}(hp:H p=none)(hf:MB p=none)(ho:t.own=true)(h:S.at K MB H1 p t):
  SR K H0 B MB (sd.set i (some t)) (σ.set i (some (.ref p))) H1 where
 sub:=r.sub
 all:=r.all
 ban:=r.ban
 bt:=r.bt
 len:=by rw[CA,CA];exact r.len
 imS:=λj d' e z=>by
  by_cases hj:i=j
  .subst hj
   have hi:i<sd.length:=by
    have:=(AG.mp e).1;simpa using this
   rw[AK hi] at e
   cases e
   rw[ho] at z;cases z
  .rw[AF hj] at e ⊢
   exact r.imS j d' e z
 ow:=λj u e hu=>by
  by_cases hj:i=j
  .subst hj
   have hi:i<sd.length:=by
    have:=(AG.mp e).1;simpa using this
   rw[AK hi] at e
   cases e
   exact⟨p,by rw[AK (by rw[<-r.len];exact hi)],r0.all.free hp,hf,h⟩
  .rw[AF hj] at e ⊢
   exact r.ow j u e hu
 sep:=λj k u w q hjk e1 o1 e2 o2 e3 e4=>by
  have new:∀{l:Nat},i=l->(σ.set i (some (V.ref p)))[l]?=some (some (.ref q))->q=p:=λ{l} z e=>by
   subst z
   have hi:i<σ.length:=by
    have:=(AG.mp e).1;simpa using this
   rw[AK hi] at e
   cases e;rfl
  have old:∀{l:Nat}{u:S},i≠l->(sd.set i (some t))[l]?=some (some u)->u.own=true->(σ.set i (some (V.ref p)))[l]?=some (some (.ref q))->q≠p:=λ{l u} n e ou z=>by
   rw[AF n] at e z
   obtain⟨q',e1,_,_,e4⟩:=r0.ow l u e ou
   rw[z] at e1
   cases e1
   obtain⟨o,eo⟩:=Me e4
   exact Zt eo hp
  by_cases n1:i=j
  .have n2:i≠k:=λz=>hjk (n1.symm.trans z)
   exact old n2 e2 o2 e4 (new n1 e3)
  .by_cases n2:i=k
   .exact old n1 e1 o1 e3 (new n2 e4)
   .rw[AF n1] at e1 e3
    rw[AF n2] at e2 e4
    exact r.sep j k u w q hjk e1 o1 e2 o2 e3 e4
def Du (i:Nat)(f:Zf->M (List D))(sd:Zf):M O:=(f sd).bind λds=>.ok (.nx (sd.set i (some (.ow ds))))
def W2 (i:Nat){x:Str}{e:Expr}{f:Zf->M (List D)}{pos':Pos}(hN:X.N.Nodup)(h:dg X E e f)(hi:X.N[i]?=some x:=by rfl)(hx:VJ X.env.scope x:=by trivial)(hs:swapsWith e (some (.Name x pos')) pos.line X.env=pure false:=by rfl)(hf:X.fn x=true\/X.env.scope.names.lookup x=some .local:=by first|exact .inl rfl|exact .inr rfl|assumption):
  Wq X E (.Assign [.Name x pos'] e pos) (Du i f):=by
 obtain⟨t,p,q⟩:=h
 refine⟨_,V5 hN hi hx p hs hf,λH0 B Hf sd σ H D sr h=>?_⟩
 refine q H0 B Hf sd σ H _ sr (PoS.bindF sr h λds p xs MB H1 _ g1 sr1 e1 e2 e3 e4 h1=>?_)
 exact h1 _ MB H1 (Same.refl _) (sr.set_new sr1 g1.all i e1 e2 rfl ⟨xs,e3,e4⟩)
def Ua (i:Nat)(f:Zf->M D)(sd:Zf):M O:=match sd[i]? with
 |some (some (.ow ds))=>(f sd).bind λd=>if few ds then .ok (.nx (sd.set i (some (.ow (ds++[d]))))) else .bad
 |_=>.bad
def Kw (i:Nat){x:Str}{e:Expr}{f:Zf->M D}{p1 p2 p3:Pos}(h:Yt X E e f)(hi:X.N[i]?=some x:=by rfl)(hv:Gm X.env.scope x:=by trivial)
  (hd:(x==("__debug__":Str))=false:=by decide) (MV:(x==("__classdict__":Str))=false:=by decide)
  (ju:starEach [e] X.env=(false,eval e X.env)::starEach [] X.env:=by rfl)
  (UX:attributeBase (.Name x p1) "append" X.env (eval (.Name x p1) X.env)=eval (.Name x p1) X.env:=by rfl)
  (hfew:((backTo p3 (starEach [e] X.env)).all (λx=>!x.1)&&(backToKw p3 (keywordEach [] X.env)).all (λx=>x.1.isSome)
   && decide ([e].length+([]:List Keyword).length+(if([]:List Keyword).isEmpty then 0 else 1)<30))=true:=by rfl)
  (hline:(p2.endLine==p3.line)=true:=by rfl) (SC:(backTo p3 (starEach ([]:List Expr) X.env)).any (·.1)=false:=by rfl)
  (bL:swapsWith (.Call (.Attribute (.Name x p1) "append" p2) [e] [] p3) none pos.line X.env=pure false:=by rfl):
  Wq X E (.Expr (.Call (.Attribute (.Name x p1) "append" p2) [e] [] p3) pos) (Ua i f):=by
 obtain⟨t,pt,q⟩:=h
 refine⟨_,Us (mO IK IG IF Gu (Z6 hi hv hd MV) (Qj pt Xs ju) UX hfew hline ju SC) bL,λH0 B Hf sd σ H D sr h=>?_⟩
 unfold Ua at h
 split at h
 .rename_i ds ei
  obtain⟨p,z1,z2,z3,xs,z4,z5⟩:=sr.ow i _ ei rfl
  refine⟨_,z1,.inl ⟨rfl,xs,SqL.of z4⟩,?_⟩
  refine q H0 B Hf sd σ H _ sr (PoS.bind sr h λd v MB H1 _ g1 sr1 rv h1=>?_)
  split at h1
  .rename_i hf
   have z5':=z5.mono g1.fz
   have hl:xs.length<sizeLine:=by
    have h1:=BK hf
    have h2:=CH
    rw[<-z5.length,h2];lia
   refine⟨p,xs,v,rfl,rfl,g1.all _ _ z4,hl,?_⟩
   exact h1 _ MB _ (Same.refl _) (sr1.change ei rfl z1 rfl ⟨_,Zo,z5'.append (Reps.cons rv Reps.nil)⟩)
  .exact h1.elim
 .exact h.elim
def jG (i:Nat)(sd:Zf):M O:=match sd[i]? with
 |some (some (.ow ds))=>.ok (.rt (.ow ds))
 |_=>.bad
def Zbr (i:Nat){x:Str}{p1:Pos}(hi:X.N[i]?=some x:=by rfl)(hv:Gm X.env.scope x:=by trivial)
  (hd:(x==("__debug__":Str))=false:=by decide) (MV:(x==("__classdict__":Str))=false:=by decide):Wq X E (.Return (some (.Name x p1)) pos) (jG i):=by
 refine⟨_,Gp (Z6 hi hv hd MV),λH0 B Hf sd σ H D sr h=>?_⟩
 unfold jG at h
 split at h
 .rename_i ds ei
  obtain⟨p,z1,z2,z3,z4⟩:=sr.ow i _ ei rfl
  exact⟨_,z1,h _ Hf H (Same.refl _) sr.fin ⟨p,rfl,z2,z3,z4⟩⟩
 .exact h.elim
def frz (i:Nat)(sd:Zf):Zf:=match sd[i]? with
 |some (some (.ow ds))=>sd.set i (some (.im (.lst ds)))
 |_=>sd
def Ml (i:Nat)(f:Zf->M O)(sd:Zf):M O:=f (frz i sd)
def W3 (i:Nat){st:List Stmt}{f:Zf->M O}(h:U3 X E st f):U3 X E st (Ml i f):=by
 obtain⟨t,p,q⟩:=h
 refine⟨t,p,λH0 B Hf sd σ H D sr h=>?_⟩
 unfold Ml frz at h
 split at h
 .rename_i ds ei
  obtain⟨LZ,e,sr'⟩:=sr.freeze ei
  exact q H0 B LZ _ σ H D sr' (PoS.weak e h)
 .exact q H0 B Hf sd σ H D sr h
theorem Ry {Xc:Cx}{pins:List (Addr×Obj)}{σ:L2.St}{H:Hp}{s:Shared}(I:Inv Xc pins σ H s)(dx:D)(e:Value->Bool)(he:∀d v u,Rep Xc.K H d v->RelV v u->e u=D.eq d dx):
  ∀{ds:List D}{xs:List V}{us:List Value},Reps Xc.K H ds xs->Vals xs us->us.any e=ds.any λd=>D.eq d dx
 |[],xs,us,r,v=>by
  rw[reps_nil.mp r] at v
  cases v
  rfl
 |d::ds,xs,us,r,v=>by
  obtain⟨x,xr,rfl,r1,r2⟩:=reps_cons.mp r
  cases v with
  |cons v1 v2=>rw[CP,CP,he d x _ r1 v1,Ry I dx e he r2 v2]
def Zbs {Xc:Cx}{H:Hp}{ds:List D}:∀{xs:List V}{us:List Value}{u:Value},Reps Xc.K H ds xs->Vals xs us->u∈us->∃d v,d∈ds/\Rep Xc.K H d v/\RelV v u:=by
 induction ds with
 |nil=>
  intro xs us u r v hu
  rw[reps_nil.mp r] at v
  cases v
  cases hu
 |cons d ds ih=>
  intro xs us u r v hu
  obtain⟨x,xr,rfl,r1,r2⟩:=reps_cons.mp r
  cases v with
  |cons v1 v2=>
   rcases AZ.mp hu with rfl|hu
   .exact⟨d,x,AX,r1,v1⟩
   .obtain⟨d',v',h1,h2,h3⟩:=ih r2 v2 hu
    exact⟨d',v',AQ _ h1,h2,h3⟩
def UB (dx:D)(ds:List D):Bool:=ds.any λd=>D.eq d dx
def tY (K:PySem.W.Frag)(neg:Bool):R2:=λx y H Q=>∃dx ds,Rep K H dx x/\(Rep K H (.lst ds) y\/Rep K H (.tup ds) y)/\D.deps ds<=60/\Q (.bl (if neg then !UB dx ds else UB dx ds)) H
theorem Ah:∀{ds:List D}{d:D},d∈ds->d.dep<=D.deps ds
 |e::ds,d,h=>by
  rw[D.deps]
  rcases AZ.mp h with rfl|h
  .lia
  .have:=Ah h;lia
open Classical in
theorem wX (hu:X.A.units+64<cLine):OpR X (compareOp .In) (tY X.K false):=by
 intro pins s σ H x y v u Q I rx ry h
 obtain⟨dx,ds,hx,hy,hd,q⟩:=h
 let e:Value->Bool:=λu=>decide (∃d v,Rep X.K H d v/\RelV v u/\D.eq d dx=true)
 have he:∀d v u,Rep X.K H d v->RelV v u->e u=D.eq d dx:=λd v u r1 r2=>by
  cases z:D.eq d dx with
  |true=>exact AS ⟨d,v,r1,r2,z⟩
  |false=>
   refine AR ?_
   rintro⟨d',v',a1,a2,a3⟩
   have e1:v'=v:=RelV.inj a2 r2
   subst e1
   rw[Pw I d d' _ r1 a1,a3] at z
   cases z
 have each:∀{xs:List V}{us:List Value},Reps X.K H ds xs->Vals xs us->∀w∈us,SeqAt.EqAt X.A.in1 s w v (e w):=λ{xs us} r1 r2 w hw=>by
  obtain⟨d,z,m1,m2,m3⟩:=Zbs r1 r2 hw
  rw[he d z w m2 m3]
  refine(Mf I d dx X.A.in1 z x w v ?_ m2 hx m3 rx).eq
  have:=Ah m1
  show X.A.units+1+_<_
  lia
 rcases hy with hy|hy
 .obtain⟨p,xs,rfl,hp,hr⟩:=rep_lst.mp hy
  cases ry
  obtain⟨its,r,pl,hz⟩:=I.list hp
  refine SeqAt.in_listAt e pl.isList (λw hw=>each hr r w (by simpa using hw)) ⟨.bl _,H,I,rfl,?_⟩
  rw[show its.toArray.any e=its.any e by simp,Ry I dx e he hr r]
  exact q
 .obtain⟨p,xs,rfl,hp,hr⟩:=Qg hy
  cases ry
  obtain⟨its,r,pl,hz⟩:=I.tuple hp
  refine SeqAt.in_tupleAt e pl (λw hw=>each hr r w (by simpa using hw)) ⟨.bl _,H,I,rfl,?_⟩
  rw[show its.toArray.any e=its.any e by simp,Ry I dx e he hr r]
  exact q
def Fq:D->D->M D
 |x,.lst ds=>if D.deps ds<=60 then .ok (.bl (UB x ds)) else .bad
 |x,.tup ds=>if D.deps ds<=60 then .ok (.bl (UB x ds)) else .bad
 |_,_=>.bad
def Ai (hu:X.A.units+64<cLine):Rn X E (compareOp .In) Fq:=by
 refine⟨_,wX hu,λHf H x y dx dy Q e rx ry q=>?_⟩
 unfold Fq at q
 split at q
 .split at q
  .rename_i hd
   exact⟨_,_,rx.mono e,.inl (ry.mono e),hd,Po.ret e q (rep_bl.mpr rfl)⟩
  .exact q.elim
 .split at q
  .rename_i hd
   exact⟨_,_,rx.mono e,.inr (ry.mono e),hd,Po.ret e q (rep_bl.mpr rfl)⟩
  .exact q.elim
 .exact q.elim
def D.isN:D->Bool
 |.non=>true
 |_=>false
def cR:D->D->M D
 |x,.non=>.ok (.bl x.isN)
 |_,_=>.bad
def Jj:D->D->M D
 |x,.non=>.ok (.bl (!x.isN))
 |_,_=>.bad
def Fs {K:PySem.W.Frag}{H:Hp}{d:D}{v:V}(r:Rep K H d v):decide (v=.non)=d.isN:=by
 cases d with
 |non=>rw[rep_non.mp r];rfl
 |bl b=>rw[rep_bl.mp r];rfl
 |int b=>rw[rep_int.mp r];rfl
 |str b=>rw[rep_str.mp r];rfl
 |tup b=>obtain⟨_,_,e,_⟩:=rep_tup.mp r;rw[e];rfl
 |lst b=>obtain⟨_,_,e,_⟩:=rep_lst.mp r;rw[e];rfl
def Dv:Rn X E (compareOp .Is) cR:=by
 refine⟨_,xH,λHf H x y dx dy Q e rx ry q=>?_⟩
 unfold cR at q
 split at q
 .exact⟨rep_non.mp ry,Po.ret e q (by rw[Fs rx];exact rep_bl.mpr rfl)⟩
 .exact q.elim
def Uv:Rn X E (compareOp .IsNot) Jj:=by
 refine⟨_,zX,λHf H x y dx dy Q e rx ry q=>?_⟩
 unfold Jj at q
 split at q
 .exact⟨rep_non.mp ry,Po.ret e q (by rw[Fs rx];exact rep_bl.mpr rfl)⟩
 .exact q.elim
end
section
variable {X:Cx}{pins:List (Addr×Obj)}{σ:L2.St}{H:Hp}{s:Shared}{h':Heap}{t':Nat}{fp:List Addr}
def _root_.L2.Inv.turnedT {T:Addr}{o:HO}(I:Inv X pins σ H s)(hf:∀b∈fp,P9 X pins H b)(k:∀b u,b ∉ fp->s.heap.get? b=some u->h'.get? b=some u)(hT:s.heap.objs.size<=T)(new:ObjOk X.prog X.w (upd H T o) h' T o):
  Inv X pins σ (upd H T o) {s with heap:=h',toks:=t'}:=by
 have hn:=I.hok.fresh hT
 have ne:∀b u,s.heap.get? b=some u->b≠T:=λb u e=>AI (AM (AJ e) hT)
 refine I.step (g':=s.gens) (d':=s.drawn) (ch:=fp) (λb hb=>?_) (λb u _ _ hc e _=>k b u hc e) (λb u _ _ hc e _=>⟨u.slots,k b u hc e⟩) (λb u _ e n=>by rw[Zl (ne b u e)];exact n) (λb u hc e=>⟨u,k b u hc e⟩)
  (λb xs e=>by rw[Zl (Zt e hn)];exact e) (λb u xs e=>by rw[Zl (Zt e hn)];exact e) (λb l c q e=>by rw[Zl (Zt e hn)];exact e) (λm hm=>?_) (λb u e=>?_) I.bare
 .obtain⟨f0,f1,f2,f3,f4,f5⟩:=hf b hb
  exact⟨f3,f1,f4,f5⟩
 .obtain⟨ob,es,ep,ho,r⟩:=hm
  exact⟨ob,es,ep,k _ ob (λz=>(hf _ z).2.1 rfl) ho,r⟩
 .by_cases hb:b=T
  .subst hb;rw[Zo] at e;cases e;exact new
  .rw[Zl hb] at e
   have nf:∀c v,H c=some v->c ∉ fp:=λc v e z=>by rw[(hf c z).1] at e;cases e
   refine(I.hok b u e).stay (λc v hc q=>k c v ?_ q) (λc q=>by rw[Zl (Zt q hn)];exact q) (λc xs q=>by rw[Zl (Zt q hn)];exact q) λc _ _ q=>by rw[Zl (Zt q hn)];exact q
   rcases hc with rfl|hc
   .exact nf _ _ e
   .exact nf _ _ hc
def _root_.L2.Inv.turnedF (I:Inv X pins σ H s)(hf:∀b∈fp,P9 X pins H b)(k:∀b u,b ∉ fp->s.heap.get? b=some u->h'.get? b=some u):Inv X pins σ H {s with heap:=h',toks:=t'}:=by
 refine I.step (g':=s.gens) (d':=s.drawn) (ch:=fp) (λb hb=>?_) (λb u _ _ hc e _=>k b u hc e) (λb u _ _ hc e _=>⟨u.slots,k b u hc e⟩) (λb u _ e n=>n) (λb u hc e=>⟨u,k b u hc e⟩)
  (λb xs e=>e) (λb u xs e=>e) (λ_ _ _ _ e=>e) (λm hm=>?_) (λb u e=>?_) I.bare
 .obtain⟨f0,f1,f2,f3,f4,f5⟩:=hf b hb
  exact⟨f3,f1,f4,f5⟩
 .obtain⟨ob,es,ep,ho,r⟩:=hm
  exact⟨ob,es,ep,k _ ob (λz=>(hf _ z).2.1 rfl) ho,r⟩
 .have nf:∀c v,H c=some v->c ∉ fp:=λc v e z=>by rw[(hf c z).1] at e;cases e
  refine(I.hok b u e).stay (λc v hc q=>k c v ?_ q) (λc q=>q) (λc xs q=>q) λ_ _ _ q=>q
  rcases hc with rfl|hc
  .exact nf _ _ e
  .exact nf _ _ hc
end
structure ZA (z TI TO i1 i2:Addr):Prop where
 TIz:TI≠z
 TOz:TO≠z
 i1z:i1≠z
 i2z:i2≠z
 TITO:TI≠TO
 TIi1:TI≠i1
 TIi2:TI≠i2
 TOi1:TO≠i1
 TOi2:TO≠i2
 i12:i1≠i2
def sO (n:Nat):ZA (n+4) (n+2) (n+3) n (n+1):=
 ⟨AI (by lia),AI (by lia),AI (by lia),AI (by lia),AI (by lia),DH (by lia),DH (by lia),DH (by lia),DH (by lia),AI (by lia)⟩
section
variable {X:Cx}{E:XK}{pos p p2:Pos}{es:List Expr}{k:Nat}
def Rz (n:Nat):List D->List D
 |[]=>[]
 |d::r=>.tup [.int n,d]::Rz (n+1) r
theorem T6:∀(ds:List D) (n i:Nat),(Rz n ds)[i]?=(ds[i]?).map λd=>.tup [.int ((n+i:Nat):Int),d]
 |[],_,_=>by simp[Rz]
 |d::r,n,0=>by simp[Rz]
 |d::r,n,i+1=>by
  rw[Rz,ES,T6 r (n+1) i,ES]
  congr 1;funext d;congr 3;lia
def eJ:List D->List D->List D:=List.zipWith λx y=>.tup [x,y]
def Zbu (xs ys:List D)(i:Nat):(eJ xs ys)[i]?=match xs[i]?,ys[i]? with
  |some x,some y=>some (.tup [x,y])
  |_,_=>none:=by
 unfold eJ
 rw[List.getElem?_zipWith]
 cases xs[i]?<;>cases ys[i]?<;>rfl
end
def Dw:D->Option Q9
 |.int i=>some (.inl i)
 |.str x=>some (.inr x)
 |_=>none
def Jn:List D->Option (List Q9)
 |[]=>some []
 |d::r=>match Dw d,Jn r with
  |some k,some ks=>some (k::ks)
  |_,_=>none
def R0 {K:PySem.W.Frag}{H:Hp}{d:D}{k:Q9}{v:V}(e:Dw d=some k)(r:Rep K H d v):v=kV k:=by
 cases d with
 |int i=>cases e;exact rep_int.mp r
 |str x=>cases e;exact rep_str.mp r
 |non=>cases e
 |bl _=>cases e
 |tup _=>cases e
 |lst _=>cases e
theorem R1 {K:PySem.W.Frag}{H:Hp}:∀{ds:List D}{ks:List Q9}{vs:List V},Jn ds=some ks->Reps K H ds vs->vs=ks.map kV
 |[],ks,vs,e,r=>by cases e;rw[reps_nil.mp r];rfl
 |d::ds,ks,vs,e,r=>by
  obtain⟨x,xr,rfl,r1,r2⟩:=reps_cons.mp r
  unfold Jn at e
  split at e
  .rename_i k WJ e1 e2
   cases e
   rw[R0 e1 r1,R1 e2 r2]
   rfl
  .cases e
def Aj {κ:Type}[DecidableEq κ](kvs:List (κ×D))(k:κ)(d:D):List (κ×D):=
 if(kvs.any λkv=>decide (kv.1=k))=true then kvs.map (λkv=>if kv.1=k then(kv.1,d) else kv) else kvs++[(k,d)]
def lQ {κ:Type}[DecidableEq κ](kvs:List (κ×D))(k:κ):Bool:=kvs.any λkv=>decide (kv.1=k)
def Yu {κ:Type}[DecidableEq κ](kvs:List (κ×D))(k:κ):Option D:=(kvs.find? λkv=>decide (kv.1=k)).map (·.2)
section
variable {κ:Type} [DecidableEq κ]
variable {K:PySem.W.Frag}{H:Hp}
theorem RepKV.any {kvs:List (κ×D)}{ys:List (κ×V)}(r:RepKV K H kvs ys)(k:κ):(kvs.any λkv=>decide (kv.1=k))=(ys.any λkv=>decide (kv.1=k)):=by
 unfold RepKV at r
 induction r with
 |nil=>rfl
 |cons h t ih=>rw[CP,CP,ih,h.1]
def RepKV.get {kvs:List (κ×D)}{ys:List (κ×V)}(r:RepKV K H kvs ys)(k:κ){d:D}(e:Yu kvs k=some d):∃v,Y7 ys k=some v/\Rep K H d v:=by
 unfold RepKV at r
 induction r with
 |nil=>cases e
 | @cons p q ps qs h t ih=>
  by_cases hk:p.1=k
  .have e1:Yu (p::ps) k=some p.2:=by simp[Yu,BX,hk]
   rw[e1] at e
   cases e
   exact⟨q.2,Y0 (h.1▸hk),h.2⟩
  .have e1:Yu (p::ps) k=Yu ps k:=by simp[Yu,BX,hk]
   rw[e1] at e
   obtain⟨v,h1,h2⟩:=ih e
   exact⟨v,by rw[Ym (λz=>hk (h.1.trans z))];exact h1,h2⟩
theorem RepKV.none {kvs:List (κ×D)}{ys:List (κ×V)}(r:RepKV K H kvs ys)(k:κ)(e:Yu kvs k=.none):Y7 ys k=.none:=by
 unfold RepKV at r
 induction r with
 |nil=>rfl
 | @cons p q ps qs h t ih=>
  by_cases hk:p.1=k
  .have e1:Yu (p::ps) k=some p.2:=by simp[Yu,BX,hk]
   rw[e1] at e
   cases e
  .have e1:Yu (p::ps) k=Yu ps k:=by simp[Yu,BX,hk]
   rw[e1] at e
   rw[Ym (λz=>hk (h.1.trans z))];exact ih e
def RepKV.repl {kvs:List (κ×D)}{ys:List (κ×V)}(r:RepKV K H kvs ys)(k:κ){d:D}{v:V}(h:Rep K H d v):RepKV K H (kvs.map λkv=>if kv.1=k then(kv.1,d) else kv) (ys.map λkv=>if kv.1=k then(kv.1,v) else kv):=by
 unfold RepKV at r ⊢
 induction r with
 |nil=>exact .nil
 | @cons p q ps qs hp t ih=>
  refine .cons ?_ ih
  show(if p.1=k then(p.1,d) else p).1=(if q.1=k then(q.1,v) else q).1/\Rep K H (if p.1=k then(p.1,d) else p).2 (if q.1=k then(q.1,v) else q).2
  by_cases hk:p.1=k
  .rw[AC hk,AC (hp.1▸hk)];exact⟨hp.1,h⟩
  .rw[AD hk,AD (λz=>hk (hp.1.trans z))];exact hp
def RepKV.put {kvs:List (κ×D)}{ys:List (κ×V)}(r:RepKV K H kvs ys)(k:κ){d:D}{v:V}(h:Rep K H d v):RepKV K H (Aj kvs k d) (Ja ys k v):=by
 unfold Aj Ja
 rw[r.any k]
 split
 .exact r.repl k h
 .exact LR r ⟨rfl,h⟩
theorem RepKV.length {kvs:List (κ×D)}{ys:List (κ×V)}(r:RepKV K H kvs ys):kvs.length=ys.length:=DN r
end
section
variable {X:Cx}{E:XK}{pos p1 p2 pos':Pos}{key value:Expr}{x:Str}
def nU (i:Nat)(sd:Zf):M O:=.ok (.nx (sd.set i (some (.od []))))
def Op (i:Nat)(hN:X.N.Nodup)(hi:X.N[i]?=some x:=by rfl)(hx:VJ X.env.scope x:=by trivial)(hs:swapsWith (.Dict [] [] p2) (some (.Name x pos')) pos.line X.env=pure false:=by rfl)(hf:X.fn x=true\/X.env.scope.names.lookup x=some .local:=by first|exact .inl rfl|exact .inr rfl|assumption):
  Wq X E (.Assign [.Name x pos'] (.Dict [] [] p2) pos) (nU i):=by
 refine⟨_,V5 hN hi hx Rm hs hf,λH0 B Hf sd σ H D sr h=>?_⟩
 exact λp hp=>h _ Hf _ (Same.refl _) (sr.set_own i hp rfl ⟨[],Zo,.nil⟩)
def Ak:Option (Option S)->D->D->Option S
 |some (some (.od kvs)),.tup ds,v=>match Jn ds with
  |some ks=>if kvs.length<=1000000 then some (.od (Aj kvs ks v)) else none
  |none=>none
 |some (some (.dk kvs)),k,v=>match Dw k with
  |some k=>if kvs.length<=1000000 then some (.dk (Aj kvs k v)) else none
  |none=>none
 |_,_,_=>none
def eI:Option (Option S)->D->Option Bool
 |some (some (.od kvs)),.tup ds=>(Jn ds).map (lQ kvs)
 |some (some (.dk kvs)),k=>(Dw k).map (lQ kvs)
 |_,_=>none
def Al:Option (Option S)->Bool
 |some (some (.od _))=>true
 |some (some (.dk _))=>true
 |_=>false
def Ft {o:Option (Option S)}(h:Al o=true):∃t,o=some (some t)/\t.own=true:=by
 unfold Al at h
 split at h
 .exact⟨_,rfl,rfl⟩
 .exact⟨_,rfl,rfl⟩
 .cases h
def Nd {K:PySem.W.Frag}{Hf H:Hp}{ds:List D}{ks:List Q9}{y:V}(e:Jn ds=some ks)(sub:Same Hf H)(r:Rep K Hf (.tup ds) y):∃b,y=.ref b/\H b=some (.tup (ks.map kV)):=by
 obtain⟨b,xs,rfl,hb,hr⟩:=rep_tup.mp r
 rw[R1 e hr] at hb
 exact⟨b,rfl,sub _ _ hb⟩
def Zbw {K:PySem.W.Frag}{Hf H:Hp}{t:S}{k:D}{y:V}{b:Bool}{p:Addr}(e:eI (some (some t)) k=some b)(sub:Same Hf H)(a:S.at K Hf H p t)(r:Rep K Hf k y):∃o,DGet H p y o/\o.isSome=b:=by
 unfold eI at e
 split at e
 .rename_i kvs ds he
  cases he
  obtain⟨ys,h1,h2⟩:=a
  obtain⟨ks,e1,e2⟩:=CY.mp e
  obtain⟨b',rfl,hb⟩:=Nd e1 sub r
  refine⟨_,DGet.t h1 hb,?_⟩
  rw[<-e2,<-Va,<-h2.any];rfl
 .rename_i kvs k' he
  cases he
  obtain⟨ys,h1,h2⟩:=a
  obtain⟨ks,e1,e2⟩:=CY.mp e
  rw[R0 e1 r]
  refine⟨_,DGet.k h1,?_⟩
  rw[<-e2,<-Va,<-h2.any];rfl
 .cases e
def QP (i:Nat)(fk fv:Zf->M D)(sd:Zf):M O:=if Al sd[i]? then((fv sd).bind λv=>(fk sd).bind λk=>match Ak sd[i]? k v with
 |some t=>.ok (.nx (sd.set i (some t)))
 |none=>.bad) else .bad
def Zbx (i:Nat){fk fv:Zf->M D}(hu:X.A.units+64<cLine)(hk:Yt X E key fk)(hv:Yt X E value fv)(hi:X.N[i]?=some x:=by rfl)(YX:Gm X.env.scope x:=by trivial)
  (hd:(x==("__debug__":Str))=false:=by decide) (MV:(x==("__classdict__":Str))=false:=by decide) (hs:swapsWith value (some (.Subscript (.Name x p1) key pos')) pos.line X.env=pure false:=by rfl):
  Wq X E (.Assign [.Subscript (.Name x p1) key pos'] value pos) (QP i fk fv):=by
 obtain⟨tk,pk,qk⟩:=hk
 obtain⟨tv,pv,qv⟩:=hv
 refine⟨_,Fk (by lia) (Z6 hi YX hd MV) pk pv hs,λH0 B Hf sd σ H D sr h=>?_⟩
 unfold QP at h
 split at h
 case isFalse=>exact h.elim
 case isTrue hdc=>
 obtain⟨t,et,ot⟩:=Ft hdc
 obtain⟨p,z1,z2,z3,z4⟩:=sr.ow i t et ot
 refine qv H0 B Hf sd σ H _ sr (PoS.bind sr h λdv v MB H1 _ g1 sr1 rv h1=>?_)
 refine⟨_,z1,?_⟩
 refine qk H0 B MB sd σ H1 _ sr1 (PoS.bind sr1 h1 λdk y MI H2 _ g2 sr2 ry h2=>?_)
 obtain⟨p',jV,_,_,jU⟩:=sr2.ow i t et ot
 rw[z1] at jV
 cases jV
 have rv2:=Rep.mono g2.fz rv
 have nl:∀{κ:Type}{kvs:List (κ×DL.D)}{ys:List (κ×V)},RepKV X.K MI kvs ys->kvs.length<=1000000->ys.length<sizeLine:=λ{κ kvs ys} r hl=>by
  have:=DN r
  have h2:=CH
  lia
 rw[et] at h2
 split at h2
 .rename_i u eu
  cases t with
  |im d=>cases ot
  |xc x=>cases ot
  |fn x=>cases ot
  |ob a c r=>cases ot
  |fl a g q=>cases ot
  |ow ds=>simp[Ak] at eu
  |od kvs=>
   obtain⟨ys,a1,a2⟩:=jU
   cases dk with
   |tup ds=>
    unfold Ak at eu
    dsimp only at eu
    split at eu
    .rename_i ks ek
     split at eu
     .rename_i hl
      cases eu
      obtain⟨b,rfl,hb⟩:=Nd ek sr2.sub ry
      exact⟨p,_,rfl,DPut.t a1 hb (nl a2 hl),h2 _ MI _ (Same.refl _) (sr2.change et ot z1 rfl ⟨_,Zo,a2.put ks rv2⟩)⟩
     .cases eu
    .cases eu
   |non=>simp[Ak] at eu
   |bl _=>simp[Ak] at eu
   |int _=>simp[Ak] at eu
   |str _=>simp[Ak] at eu
   |lst _=>simp[Ak] at eu
  |dk kvs=>
   obtain⟨ys,a1,a2⟩:=jU
   have eu:(match Dw dk with
    |some k=>if kvs.length<=1000000 then some (S.dk (Aj kvs k dv)) else none
    |none=>none)=some u:=eu
   split at eu
   .rename_i ks ek
    split at eu
    .rename_i hl
     cases eu
     rw[R0 ek ry]
     exact⟨p,_,rfl,DPut.k a1 (nl a2 hl),h2 _ MI _ (Same.refl _) (sr2.change et ot z1 rfl ⟨_,Zo,a2.put ks rv2⟩)⟩
    .cases eu
   .cases eu
 .exact h2.elim
def ic (i:Nat)(fk:Zf->M D)(sd:Zf):M D:=if Al sd[i]? then((fk sd).bind λk=>match eI sd[i]? k with
 |some b=>.ok (.bl b)
 |none=>.bad) else .bad
def Zby {H0:Hp}{B:Addr->Prop}{Hf:Hp}{sd:Zf}{σ:L2.St}{H:Hp}{Q:VK}{i:Nat}{fk:Zf->M D}{tk:TE}{g:Bool->Bool}(qk:∀(H0:Hp) (B:Addr->Prop) (Hf:Hp) (sd:Zf) (σ:L2.St) (H:Hp) (Q:VK),SR X.K H0 B Hf sd σ H->Po X.K E (rV X.K) Hf H (fk sd) Q->tk σ H Q)(sr:SR X.K H0 B Hf sd σ H)(hdc:Al sd[i]?=true)(h:Po X.K E (rV X.K) Hf H ((fk sd).bind λk=>match eI sd[i]? k with
   |some b=>.ok (.bl (g b))
   |none=>.bad) Q):tk σ H λy H1=>∃v,σ[i]?=some (some v)/\∃a o,v=.ref a/\DGet H1 a y o/\Q (.bl (g o.isSome)) H1:=by
 obtain⟨t,et,ot⟩:=Ft hdc
 refine qk H0 B Hf sd σ H _ sr (Po.bind h λdk y MB H1 _ g1 ry h1=>?_)
 obtain⟨p,z1,z2,z3,z4⟩:=(sr.gr g1).ow i t et ot
 rw[et] at h1
 split at h1
 .rename_i b eb
  obtain⟨o,d1,d2⟩:=Zbw eb g1.sub z4 ry
  refine⟨_,z1,p,o,rfl,d1,?_⟩
  rw[d2]
  exact Po.ret (R:=rV X.K) g1.sub h1 (rep_bl.mpr rfl)
 .exact h1.elim
end
def mF:D->Bool
 |.non=>true
 |.bl _=>true
 |.int _=>true
 |.str _=>true
 |_=>false
def Zbz {K:PySem.W.Frag}{H H':Hp}{d:D}{v:V}(h:mF d=true)(r:Rep K H d v):Rep K H' d v:=by
 cases d with
 |non=>exact rep_non.mpr (rep_non.mp r)
 |bl _=>exact rep_bl.mpr (rep_bl.mp r)
 |int _=>exact rep_int.mpr (rep_int.mp r)
 |str _=>exact rep_str.mpr (rep_str.mp r)
 |tup _=>cases h
 |lst _=>cases h
def Fu (i:Nat)(f:Zf->M D)(sd:Zf):M D:=match f (frz i sd) with
 |.ok d=>if mF d then .ok d else .bad
 |_=>.bad
section
variable {X:Cx}{E:XK}{e:Expr}
def wW {K:PySem.W.Frag}{H0 Hf H:Hp}{B:Addr->Prop}{sd:Zf}{σ:L2.St}(sr:SR K H0 B Hf sd σ H)(i:Nat):∃LZ,Same Hf LZ/\SR K H0 B LZ (frz i sd) σ H:=by
 unfold frz
 split
 .rename_i ds ei
  exact sr.freeze ei
 .exact⟨Hf,Same.refl _,sr⟩
def zG (i:Nat){f:Zf->M D}(h:Yt X E e f):Yt X E e (Fu i f):=by
 obtain⟨t,p,q⟩:=h
 refine⟨t,p,λH0 B Hf sd σ H Q sr h=>?_⟩
 obtain⟨LZ,e1,sr'⟩:=wW sr i
 refine q H0 B LZ _ σ H Q sr' ?_
 unfold Fu at h
 cases ef:f (frz i sd) with
 |ok d=>
  rw[ef] at h
  dsimp only at h
  split at h
  .rename_i qm
   exact λv MI H2 g r=>h v Hf H2 ⟨Same.refl _,sr.sub.trans g.all,g.all,λ_ _ z=>z⟩ (Zbz qm r)
  .exact h.elim
 |ex x=>rw[ef] at h;exact h.elim
 |bad=>rw[ef] at h;exact h.elim
end
def Nf (cells:List (Str×Addr)):List (Str×NameKind)->List (Str×Addr)->List (Str×Addr)
 |[],acc=>acc
 |(n,k)::r,acc=>if k==NameKind.free then(match cells.lookup n with
  |some c=>Nf cells r ((n,c)::acc)
  |none=>Nf cells r acc) else Nf cells r acc
theorem W4 (cells:List (Str×Addr)):∀(names:List (Str×NameKind)) (acc:List (Str×Addr)),(∀p∈acc,cells.lookup p.1=some p.2)->∀p∈Nf cells names acc,cells.lookup p.1=some p.2
 |[],acc,h=>h
 |(n,k)::r,acc,h=>by
  unfold Nf
  split
  .split
   .rename_i c hc
    refine W4 cells r _ λp hp=>?_
    rcases AZ.mp hp with rfl|hp
    .exact hc
    .exact h p hp
   .exact W4 cells r acc h
  .exact W4 cells r acc h
theorem Uw (cells:List (Str×Addr)):∀(names:List (Str×NameKind)) (acc:List (Str×Addr)),∀p∈acc,p∈Nf cells names acc
 |[],acc,p,h=>h
 |(n,k)::r,acc,p,h=>by
  unfold Nf
  split
  .split
   .exact Uw cells r _ p (AQ _ h)
   .exact Uw cells r acc p h
  .exact Uw cells r acc p h
theorem W5 (cells:List (Str×Addr)):∀(names:List (Str×NameKind)) (acc:List (Str×Addr)) (n:Str) (c:Addr),(n,NameKind.free)∈names->cells.lookup n=some c->(n,c)∈Nf cells names acc
 |[],_,_,_,h,_=>by cases h
 |(m,k)::r,acc,n,c,h,hc=>by
  unfold Nf
  rcases AZ.mp h with h|h
  .cases h
   rw[AC (by decide),hc]
   exact Uw cells r _ _ AX
  .split
   .split
    .exact W5 cells r _ n c h hc
    .exact W5 cells r _ n c h hc
   .exact W5 cells r _ n c h hc
def R3 {β:Type}:∀{l:List (Str×β)}{n:Str}{c:β},l.lookup n=some c->(n,c)∈l:=λh=>DP h
theorem Pa {β:Type}:∀{l:List (Str×β)}{n:Str}{c:β},(n,c)∈l->∃d,l.lookup n=some d
 |[],_,_,h=>by cases h
 |(m,d)::r,n,c,h=>by
  rw[ED]
  by_cases e:n=m
  .subst e;exact⟨d,by simp⟩
  .have e':(n==m)=false:=CK.mpr e
   rw[e']
   rcases AZ.mp h with h|h
   .cases h;exact absurd rfl e
   .exact Pa h
def Wf {scope:Scope}{env:Env}(h:∀y∈scope.names,y.2=.free->∃c,env.cells.lookup y.1=some c):closureFor scope env=pure (Nf env.cells scope.names []):=by
 have key:∀(names:List (Str×NameKind)) (acc:List (Str×Addr)),(∀y∈names,y.2=.free->∃c,env.cells.lookup y.1=some c) ->
   (forIn names acc fun(x:Str×NameKind) (cs:List (Str×Addr))=>(do
    if x.2==.free then
     let c <-cellOf env x.1
     pure (ForInStep.yield ((x.1,c)::cs))
    else pure (ForInStep.yield cs):Sem _))=pure (Nf env.cells names acc):=by
  intro names
  induction names with
  |nil=>intro acc _;rfl
  |cons y r ih=>
   intro acc hy
   obtain⟨n,k⟩:=y
   rw[HU]
   unfold Nf
   by_cases hk:(k==NameKind.free)=true
   .obtain⟨c,hc⟩:=hy (n,k) AX (by simpa using hk)
    have e1:cellOf env n=pure c:=by unfold cellOf;rw[hc]
    simp only[hk,EB,e1,hc,pure_bind]
    exact ih _ λz hz=>hy z (AQ _ hz)
   .simp only[hk,CS,DQ,pure_bind]
    exact ih _ λz hz=>hy z (AQ _ hz)
 have e:=key scope.names [] h
 unfold closureFor
 simp only[bind_pure]
 exact e
def ib {X:Cx}{Nc:List Str}{n0:Nat}{caps:List Nat}{scope sc:Scope}(gA:X.env.scope=sc)(qY:sc.kind=.function)(PK:∀y∈scope.names,y.2≠.cell)(RB:∀y∈scope.names,y.2=.free->sc.names.lookup y.1=some .cell)(qx:∀y∈scope.names,y.2=.free->∃c,X.env.cells.lookup y.1=some c)(hl:Nc.length=n0+caps.length)(gq:∀(i j:Nat) (x:Str),Nc[n0+i]?=some x->caps[i]?=some j->X.N[j]?=some x/\scope.names.lookup x=some .free):VP X Nc n0 caps scope (Nf X.env.cells scope.names []):=by
 have frees:∀(l:List (Str×NameKind)) (y:Str),(∀p∈l,p.2≠.cell)->(∀p∈l,p.2=.free->sc.names.lookup p.1=some .cell) ->
   ((l.map fun(n,k)=>if(k==NameKind.free&&X.env.scope.kind==.function&&X.env.kindOf n==some .cell) then(n,NameKind.cell) else(n,k)).lookup y=some .cell\/(l.map fun(n,k)=>if(k==NameKind.free&&X.env.scope.kind==.function&&X.env.kindOf n==some .cell) then(n,NameKind.cell) else(n,k)).lookup y=some .free)->(y,NameKind.free)∈l:=by
  intro l y
  induction l with
  |nil=>intro _ _ e;rcases e with e|e<;>cases e
  |cons p r ih=>
   intro h1 h2 e
   obtain⟨n,k⟩:=p
   have c1:=h1 (n,k) AX
   rw[BA,ED] at e
   have UV:(if(k==NameKind.free&&X.env.scope.kind==.function&&X.env.kindOf n==some .cell) then(n,NameKind.cell) else(n,k)).1=n:=by split<;>rfl
   by_cases ey:y=n
   .subst ey
    simp only[UV,FS] at e
    by_cases hk:k=.free
    .subst hk;exact AX
    .have gX:(k==NameKind.free)=false:=CK.mpr hk
     simp only[gX,LY,CS,DQ] at e
     rcases e with e|e
     .cases e;exact absurd rfl c1
     .cases e;exact absurd rfl hk
   .have dM:(y==n)=false:=CK.mpr ey
    simp only[UV,dM] at e
    exact AQ _ (ih (λp hp=>h1 p (AQ _ hp)) (λp hp=>h2 p (AQ _ hp)) e)
 refine⟨λy c e=>W4 _ _ [] (λp hp=>by cases hp) _ (R3 e),λy e=>?_,λi j x e1 e2=>?_,hl⟩
 .have hm:=frees scope.names y PK RB e
  obtain⟨c,hc⟩:=qx _ hm rfl
  obtain⟨d,hd⟩:=Pa (W5 X.env.cells scope.names [] y c hm hc)
  exact⟨d,hd⟩
 .obtain⟨a1,a2⟩:=gq i j x e1 e2
  have a3:=RB _ (R3 a2) rfl
  refine⟨a1,by rw[gA];exact a3,?_⟩
  have rl:∀(l:List (Str×NameKind)),l.lookup x=some .free->(l.map fun(n,k)=>if(k==NameKind.free&&X.env.scope.kind==.function&&X.env.kindOf n==some .cell) then(n,NameKind.cell) else(n,k)).lookup x=some .cell:=by
   intro l
   induction l with
   |nil=>intro e;cases e
   |cons p r ih=>
    intro e
    obtain⟨n,k⟩:=p
    rw[BA,ED]
    rw[ED] at e
    have UV:(if(k==NameKind.free&&X.env.scope.kind==.function&&X.env.kindOf n==some .cell) then(n,NameKind.cell) else(n,k)).1=n:=by split<;>rfl
    by_cases ex:x=n
    .subst ex
     simp only[FS] at e
     cases e
     have c3:X.env.kindOf x=some .cell:=by show X.env.scope.names.lookup x=_;rw[gA];exact a3
     have c4:X.env.scope.kind=.function:=by rw[gA];exact qY
     simp only[UV,FS,c3,c4,Bool.and_true,EB]
    .have aV:(x==n)=false:=CK.mpr ex
     simp only[aV] at e
     simp only[UV,aV]
     exact ih e
  exact rl _ a2
def um (sc names:List (Str×NameKind)):Bool:=names.all λy=>!(decide (y.2=NameKind.free))||decide (sc.lookup y.1=some NameKind.cell)
def Mn {sc scope:Scope}(h:um sc.names scope.names=true):∀y∈scope.names,y.2=.free->sc.names.lookup y.1=some .cell:=λy hy hf=>by
 have:=LG.mp h y hy
 rw[DU] at this
 rcases this with z|z
 .rw[AS hf] at z;cases z
 .exact BK z
def cV (N:List Str)(names:List (Str×NameKind)):List Str->List Nat->Bool
 |x::xs,j::js=>decide (N[j]?=some x)&&decide (names.lookup x=some NameKind.free)&&cV N names xs js
 |_,_=>true
theorem Am {N:List Str}{names:List (Str×NameKind)}:∀{xs:List Str}{js:List Nat},cV N names xs js=true->∀(i j:Nat) (x:Str),xs[i]?=some x->js[i]?=some j->N[j]?=some x/\names.lookup x=some .free
 |[],_,_,i,_,_,e,_=>by simp at e
 |_::_,[],_,i,_,_,_,e=>by simp at e
 |x::xs,j::js,h,0,j',x',e1,e2=>by
  unfold cV at h
  rw[BC,BC] at h
  simp at e1 e2
  subst e1 e2
  exact⟨BK h.1.1,BK h.1.2⟩
 |x::xs,j::js,h,i+1,j',x',e1,e2=>by
  unfold cV at h
  rw[BC] at h
  exact Am h.2 i j' x' (by simpa using e1) (by simpa using e2)
def Mo {X:Cx}{N:List Str}{Nc:List Str}{n0:Nat}{caps:List Nat}{scope:Scope}(hN:X.N=N)(h:cV N scope.names (Nc.drop n0) caps=true):
  ∀(i j:Nat) (x:Str),Nc[n0+i]?=some x->caps[i]?=some j->X.N[j]?=some x/\scope.names.lookup x=some .free:=λi j x e1 e2=>by
 rw[hN]
 exact Am h i j x (by rw[List.getElem?_drop];exact e1) e2
section
variable {X:Cx}{E:XK}{pos p p1 p2:Pos}{a e:Expr}{x:Str}
def iR (X:Cx)(E:XK)(f:Value->Sem Value)(g:D->M D):Prop:=
 ∃r,dz X f r/\∀(Hf H:Hp) (x:V) (dx:D) (Q:VK),Same Hf H->Rep X.K Hf dx x->Po X.K E (rV X.K) Hf H (g dx) Q->r x H Q
def Dz:D->M D
 |.int i=>.ok (.int (-i))
 |_=>.bad
def D0:iR X E (unaryOp .USub) Dz:=by
 refine⟨_,xI,λHf H x dx Q e rx q=>?_⟩
 unfold Dz at q
 split at q
 .exact⟨_,rep_int.mp rx,Po.ret e q (rep_int.mpr rfl)⟩
 .exact q.elim
def YK (g:D->M D)(f:Zf->M D)(sd:Zf):M D:=(f sd).bind g
def mE {op:UnaryOp}{g:D->M D}{f:Zf->M D}(ho:iR X E (unaryOp op) g)(h:Yt X E a f):Yt X E (.UnaryOp op a pos) (YK g f):=by
 obtain⟨r,hr,qr⟩:=ho
 obtain⟨t,p,q⟩:=h
 refine⟨_,mf hr p,λH0 B Hf sd σ H Q sr h=>?_⟩
 exact q H0 B Hf sd σ H _ sr (Po.bind h λd v MB H1 _ g1 rv h1=>qr MB H1 v d Q g1.sub rv h1)
end
section
variable {X:Cx}{E:XK}{pos:Pos}{a b c:Expr}
def ia (_:Zf):M O:=.bad
def Fv {st:Stmt}:Wq X E st ia:=⟨_,Zau,λ_ _ _ _ _ _ _ _ h=>h.elim⟩
end
def Nt (h:Heap)(a:Addr)(c:Value)(dx:Option Addr)(T:Addr)(fl:Value):Prop:=
 ∃oe vs,h.get? a=some oe/\oe.cls=c/\oe.dict=dx/\oe.data=.fields vs/\1<vs.size /\
  ((T=a/\vs[1]?=some .none)\/(T≠a/\vs[1]?=some (.ref T)/\∃oT ts,h.get? T=some oT/\oT.data=.fields ts/\ts[3]?=some fl))
structure Ch (fr:List Addr) (a T:Addr) (h h':Heap):Prop where
 keep:∀b o,b≠a->b≠T->b ∉ fr->h.get? b=some o->h'.get? b=some o
 slot:∀b o,b≠a->b≠T->h.get? b=some o->∃sl,h'.get? b=some {o with slots:=sl}
section
variable {M:Model}{A:Around}{E:Value->Shared->Prop}{s:Shared}
def entry_at {base:Heap}{env:Env}{outer:List Env}{L a:Addr}{oe:Obj}{vs:Array Value}{head:Value}{WO:Bool}{Q:Unit->Shared->Prop}(hA:A.frames=some (env::outer))(hF:s.heap.FunFrames base (env::outer))(hL:env.frame=some L)(ho:s.heap.get? a=some oe)(hv:oe.data=.fields vs)(hz:1<vs.size)(k:∀h' T,s.heap.objs.size<=T->Nt h' a oe.cls oe.dict T (rawInt L)->T≠a->Ch (Tn (env::outer)) a a s.heap h'->Q () {s with heap:=h'}):
  wpAny M A (do let p <-frameOf env;let pl <-entryPlaceOf L WO;let b <-EntryCells.newEntry head p .none (rawInt L) .none pl;setField (.ref a) 1 b) Q E s:=by
 have na:a ∉ (env::outer).filterMap (·.frame):=λz=>by
  obtain⟨_,o,q,nf⟩:=hF.mem z
  rw[ho] at q;cases q;exact nf vs hv
 refine AA (wpAny_frameOf_fun hA hF hL λg sl=>?_)
 refine AA (wpAny_entryPlaceOf λpl hp=>?_)
 unfold EntryCells.newEntry newFields
 refine AA (DC ?_ (hp.sizeOk5 _ _ _ _ _))
 have ga:g.get? a=some oe:=(sl.2.1 a na).trans ho
 have nT:g.objs.size≠a:=DH (AJ ga)
 refine HA (AB _ ga) hv hz ?_
 have zs:s.heap.objs.size<=g.objs.size:=by
  have:=sl.1
  lia
 have da:=FT hv (·.setIfInBounds 1 (Value.ref g.objs.size))
 refine k _ g.objs.size zs ⟨_,_,EF _ (AB _ ga) (GV da),Obj.cls_mapFields _ _,?_,da,by simpa using hz,.inr ⟨nT,by simp[hz],_,_,(CD _ _ (CQ nT)).trans (AH g rfl),rfl,?_⟩⟩ nT ⟨λb o n1 n2 nf q=>?_,λb o n1 n2 q=>?_⟩
 .obtain⟨c,d,dt,sls⟩:=oe
  cases dt<;>first|rfl|cases hv
 .first|(simp;done)|(rcases hp with rfl|⟨_,_,_,_,_,_,_,rfl⟩<;>simp)
 .rw[CD _ _ (CQ n1)]
  exact AB _ ((sl.2.1 b nf).trans q)
 .obtain⟨x,e⟩:=sl.2.2 b o q
  exact⟨x,by rw[CD _ _ (CQ n1)];exact AB _ e⟩
def Fw {base:Heap}{env:Env}{outer:List Env}{L a T:Addr}{c:Value}{dx:Option Addr}{Q:Unit->Shared->Prop}(hA:A.frames=some (env::outer))(hF:s.heap.FunFrames base (env::outer))(hL:env.frame=some L)(hn:Nt s.heap a c dx T .none)(k:∀h' T',s.heap.objs.size<=T'->Nt h' a c dx T' (rawInt L)->T'≠a->Ch (Tn (env::outer)) a T s.heap h'->Q () {s with heap:=h'}):wpAny M A (noteFrame (.ref a) env) Q E s:=by
 obtain⟨oe,vs,ho,hc,ZK,hv,hz,UW⟩:=hn
 subst hc ZK
 unfold noteFrame
 simp only[hL]
 rcases UW with⟨rfl,h1⟩|⟨nT,h1,oT,ts,hT,aM,h3⟩
 .refine AA (BV ho hv h1 ?_)
  rw[AD (by decide)]
  exact entry_at hA hF hL ho hv hz k
 .refine AA (BV ho hv h1 ?_)
  rw[AC (show(Value.ref T != Value.none)=true from by simp)]
  refine AA (BV hT aM h3 ?_)
  rw[AD (show ¬((Value.none==rawInt L)=true) from by simp[rawInt])]
  refine AA (HA hT aM (IA.mp h3).1 ?_)
  have oth:∀b,b≠T->(s.heap.update T (Obj.mapFields (·.setIfInBounds 3 Value.none))).get? b=s.heap.get? b:=λb nb=>CD _ _ (CQ nb)
  have nofr:∀b o,s.heap.get? b=some o->(∀ws,o.data≠.fields ws)->b≠T:=λb o e nf z=>by
   rw[z,hT] at e;cases e;exact nf ts aM
  refine entry_at hA (hF.of_keeps λb o e nf=>⟨o,(oth b (nofr b o e nf)).trans e,rfl⟩) hL ((oth a (CQ nT)).trans ho) hv hz λh' T' z n1 n2 n3=>k h' T' ?_ n1 n2 ⟨λb o b1 b2 bf e=>n3.keep b o b1 b1 bf ((oth b b2).trans e),λb o b1 b2 e=>n3.slot b o b1 b1 ((oth b b2).trans e)⟩
  have:=LH s.heap T (Obj.mapFields (·.setIfInBounds 3 Value.none))
  show s.heap.objs.size<=T'
  have z':(s.heap.update T (Obj.mapFields (·.setIfInBounds 3 Value.none))).objs.size<=T':=z
  lia
def Ng {a T:Addr}{c fl:Value}{dx:Option Addr}{Q:Unit->Shared->Prop}(hn:Nt s.heap a c dx T fl)(nT:T≠a)(k:∀h',h'.objs.size=s.heap.objs.size->Nt h' a c dx T .none->(∀b,b≠T->h'.get? b=s.heap.get? b)->Q () {s with heap:=h'}):wpAny M A (setFlight (.ref a) none) Q E s:=by
 obtain⟨oe,vs,ho,hc,ZK,hv,hz,UW⟩:=hn
 rcases UW with⟨e,_⟩|⟨_,h1,oT,ts,hT,aM,h3⟩
 .exact absurd e nT
 have z3:=(IA.mp h3).1
 refine wpAny_setFlight_none ho hv h1 hT aM z3 ?_
 have oth:∀b,b≠T->(s.heap.update T (Obj.mapFields (·.setIfInBounds 3 Value.none))).get? b=s.heap.get? b:=λb nb=>CD _ _ (CQ nb)
 have dT:=FT aM (·.setIfInBounds 3 Value.none)
 exact k _ (LH _ _ _) ⟨oe,vs,(oth a (CQ nT)).trans ho,hc,ZK,hv,hz,.inr ⟨nT,h1,_,_,EF _ hT (GV dT),dT,by simp[Array.getElem?_setIfInBounds,z3]⟩⟩ oth
def Zb1 {base:Heap}{env:Env}{outer:List Env}{L a T:Addr}{c:Value}{dx:Option Addr}{Q:Unit->Shared->Prop}(hA:A.frames=some (env::outer))(hF:s.heap.FunFrames base (env::outer))(hL:env.frame=some L)(hn:Nt s.heap a c dx T .none)(k:∀h' T',s.heap.objs.size<=T'->Nt h' a c dx T' .none->Ch (Tn (env::outer)) a T s.heap h'->Q () {s with heap:=h'}):wpAny M A (leaving env (.ref a)) Q E s:=by
 unfold leaving
 refine AA (Fw hA hF hL hn λh' T' z n1 n2 n3=>?_)
 refine Ng (s:={s with heap:=h'}) n1 n2 λh2 _ n4 oth=>?_
 exact k h2 T' z n4 ⟨λb o b1 b2 bf e=>(oth b (AI (AM (AJ e) z))).trans (n3.keep b o b1 b2 bf e),λb o b1 b2 e=>by
  obtain⟨sl,q⟩:=n3.slot b o b1 b2 e
  exact⟨sl,(oth b (AI (AM (AJ e) z))).trans q⟩⟩
end
def n6 {P:Program}{w:World}{H:Hp}{h h':Heap}{fr:List Addr}{a T:Addr}(x:HOk P w H h)(c:Ch fr a T h h')(na:H a=none)(nT:H T=none)(nf:∀b∈fr,H b=none):HOk P w H h':=λb u e=>by
 have ne:∀d v,H d=some v->d≠a/\d≠T/\d ∉ fr:=λd v q=>⟨λz=>(by rw[z,na] at q;cases q),λz=>(by rw[z,nT] at q;cases q),λz=>(by rw[nf d z] at q;cases q)⟩
 refine(x b u e).stay (λd v hd q=>?_) (λ_ q=>q) (λ_ _ q=>q) λ_ _ _ q=>q
 have z:d≠a/\d≠T/\d ∉ fr:=by
  rcases hd with rfl|hd
  .exact ne _ _ e
  .exact ne _ _ hd
 exact c.keep d v z.1 z.2.1 z.2.2 q
def aq (P:Program)(w:World):VL:=λouter H s E e s'=>∃a H' c dx T,e=.ref a/\s'.os=s.os/\AllBare s'.gens/\Un (Tn outer) [] H H' s.heap s'.heap/\HOk P w H' s'.heap/\Nt s'.heap a c dx T .none /\
 H' a=none/\H' T=none/\s.heap.objs.size<=a/\s.heap.objs.size<=T/\E c dx H'
def de (X:Cx)(E:XK):Prop:=∀(pins:List (Addr×Obj)) (σ:L2.St) (H:Hp) (s:Shared) (a:Addr) (c:Value) (dx:Option Addr) (T:Addr),Inv X pins σ H s->Nt s.heap a c dx T .none->H a=none->H T=none ->
 X.s₀.heap.objs.size<=a->X.s₀.heap.objs.size<=T->E c dx H->X.xe (.ref a) s
def wV {P:Program}{w:World}{K:PySem.W.Frag}{mg:Str->Option Value}{base:Heap}{N:List Str}{qual:Str}{scope:Scope}{f:Addr}{cd:Value}{A:Around}{outer:List Env}{s:Shared}{H:Hp}{E:XK}:
  de (Jl (aq P w) P w K mg base N qual scope f cd A outer s H E) E:=by
 intro pins σ H1 s1 a c dx T I hn na nT za zT q
 have ok:=I.ok
 show wpAny (model P w) (A.deeper (envOfC qual scope s.heap.objs.size f cd)) (leaving (envOfC qual scope s.heap.objs.size f cd) (.ref a)) _ _ s1
 refine Zb1 (base:=base) ok.frames I.stack rfl hn λh' T' z n1 n2=>?_
 have lt:∀{b:Addr}{o:Obj},s.heap.get? b=some o->b≠a/\b≠T/\b≠s.heap.objs.size:=λ{b o} e=>by
  have h1:=AJ e
  have oC:s.heap.objs.size<=a:=za
  have oE:s.heap.objs.size<=T:=zT
  exact⟨AI (AM h1 oC),AI (AM h1 oE),AI h1⟩
 have pE:∀{b:Addr}{o:Obj},s.heap.get? b=some o->b ∉ Tn outer->b ∉ Tn (envOfC qual scope s.heap.objs.size f cd::outer):=λ{b o} e nf zz=>by
  rcases AZ.mp (I.stkSub b zz) with q1|q1
  .exact(lt e).2.2 q1
  .exact nf q1
 have ub:=I.base
 refine⟨a,H1,c,dx,T',rfl,I.os,I.bare,⟨λb o e n nf nx=>?_,λb o e n bf nx=>?_,λb o e n nx=>ub.free b o e n nx,λb o e nx=>?_,ub.tups,ub.frzs,ub.tbls⟩,n6 I.hok n2 na nT I.stkFree,n1,na,I.hok.fresh z,za,AV I.sz z,q⟩
 .exact n2.keep b o (lt e).1 (lt e).2.1 (pE e nf) (ub.keep b o e n nf nx)
 .obtain⟨sl,e1⟩:=ub.slot b o e n bf nx
  obtain⟨aG,e2⟩:=n2.slot b _ (lt e).1 (lt e).2.1 e1
  exact⟨aG,e2⟩
 .obtain⟨o',e1⟩:=ub.there b o e nx
  obtain⟨aG,e2⟩:=n2.slot b _ (lt e).1 (lt e).2.1 e1
  exact⟨_,e2⟩
def sN (K:PySem.W.Frag)(Hf H:Hp)(r:M S)(Q:VK)(E:XK):Prop:=match r with
 |.ok s=>∀v LZ H',Gr Hf H LZ H'->RS K H LZ H' s v->Q v H'
 |.ex x=>∀c dx LZ H',Gr Hf H LZ H'->cU K LZ H' x c dx->E c dx H'
 |.bad=>False
def cJ (K:PySem.W.Frag)(F:List D->M S):Sp:=λvs H Q E=>∃Hf ds,Same Hf H/\Reps K Hf ds vs/\sN K Hf H (F ds) Q E
def tX {P:Program}{w:World}{K:PySem.W.Frag}{mg:Str->Option Value}{base:Heap}{x qual:Str}{st:Stmt}{f:Addr}{fd:FuncData}{N ps:List Str}{k m n:Nat}{fb:Zf->M O}(F:Fun K x qual st f fd)(sc:MA N ps (Zg st))(hn:ps.length=n)(hN:N.length=n+m)(ND:∀(ME:Value) (A:Around) (outer:List Env) (s:Shared) (H:Hp) (E:XK),Room k (A.deeper (envOfC qual (Zg st) s.heap.objs.size f ME)) ->
   U3 (Jl (aq P w) P w K mg base N qual (Zg st) f ME A outer s H E) E (Qz st) fb):MC P w K mg base (aq P w) (k+1) f fd ps (cJ K (V3 n m fb)):=by
 obtain⟨oc,od,kV,doc,pm,an,ME,ct,WD,rfl,lk,MV⟩:=F.ex
 refine mZ lk MV sc (λvs H Q E h=>?_) (λA outer s H vs Q E hr h=>?_)
 .obtain⟨Hf,ds,e,r,hF⟩:=h
  unfold V3 at hF
  split at hF
  .rename_i hl
   rw[<-r.length,hl,hn]
  .exact hF.elim
 .obtain⟨Hf,ds,e,r,q⟩:=h
  obtain⟨t,p,qt⟩:=ND ME A outer s H E hr
  unfold V3 at q
  split at q
  .rename_i hl
   refine⟨t,p,qt H _ Hf _ (L2.Y6 N vs) H _ (Ad (N:=N) (m:=m) e r (by lia)) ?_⟩
   generalize fb (List.map (λd=>some (S.im d)) ds++List.replicate m none)=ro at q
   have back:∀{LZ H':Hp},Same Hf LZ->RU H (λa=>Lv H a/\Hf a=none) LZ H'->Gr Hf H LZ H':=λe1 e2=>⟨e1,e2.sub,e2.all,λa h1 h2=>e2.ban a ⟨h1,h2⟩⟩
   cases ro with
   |ok o=>
    cases o with
    |rt s2=>exact λv LZ H' e1 e2 e3=>q v LZ H' (back e1 e2) e3
    |nx sd'=>exact λσ' LZ H' e1 sr'=>q .non LZ H' (back e1 sr'.fin) (show Rep K LZ .non .non from rep_non.mpr rfl)
    |bk sd'=>exact q.elim
    |ct sd'=>exact q.elim
   |ex x=>exact λc dx LZ H' e1 e2 e3=>q c dx LZ H' (back e1 e2) e3
   |bad=>exact q.elim
  .exact q.elim
end DL
namespace DL
open PySem PySem.Spec PyProof.Rows L2
theorem Zv {X:Cx}{E:XK}{pos p:Pos}{a:Expr}{i:Int}{j}{fa:Zf->M D}(ha:Yt X E a fa):Yt X E (.Subscript a (.Constant (.int i) j p) pos) (Zp Tz fa (eC (.int i))):=Aa ha Zj (λ_ _=>rfl)
end DL
local macro_rules
 |`(↑$x:num)=>`(DL.eC (.int $x))
 |`(↑$x:str)=>`(DL.eC (.str (PySem.Str.ofString $x)))
 |`($x:num[$y:num]!)=>`(DL.Zp DL.Tz (DL.Zd $x) (DL.eC (.int $y)))
local macro_rules
 |`(tactic|trivial)=>`(tactic|exact fun _ _ _ _ _ _ us hl=>match us,hl with | [_],_=>rfl)
local macro_rules
 |`(tactic|trivial)=>`(tactic|exact fun _ _ _ _ _ _ us hl=>match us,hl with | [_,_],_=>rfl)
local macro_rules
 |`(tactic|trivial)=>`(tactic|exact fun _ _ _ _ _ _ us hl=>match us,hl with | [_,_,_],_=>rfl)
local macro_rules
 |`(tactic|trivial)=>`(tactic|exact fun _ _ _ _ _ _ us hl=>match us,hl with | [_,_,_,_],_=>rfl)
local macro_rules
 |`(tactic|trivial)=>`(tactic|exact fun _ _ _ _ _ _ us hl=>match us,hl with | [_,_,_,_,_],_=>rfl)
namespace DL
open PySem PySem.Spec PySem.Calls PySem.Builtin PySem.Builtin.ObjectAttr PyProof.Rows L2 PySem.W
def exMro:List Value:=[.type "ValueError", .type "Exception", .type "BaseException", .type "object"]
def Wg:List Value->Bool
 |[]=>false
 |.ref _::r=>Wg r
 |l=>l==exMro
def W6:∀{l:List Value},Wg l=true->l=exMro\/∃c r,l=.ref c::r/\Wg r=true
 |.ref c::r,e=>.inr ⟨c,r,rfl,e⟩
 |.type _::_,e=>.inl (CO.mp e)
 |.none::_,e=>.inl (CO.mp e)
 |.bool _::_,e=>.inl (CO.mp e)
 |.int _ _::_,e=>.inl (CO.mp e)
 |.str _ _::_,e=>.inl (CO.mp e)
 |[],e=>nomatch e
 |v::r,e=>by
  cases v<;>first|exact .inr ⟨_,_,rfl,e⟩|exact .inl (CO.mp e)
def zF (self:Value){l:List Value}(e:Wg l=true):refuseLoop self "__setattr__" l=pure ():=by
 induction l with
 |nil=>cases e
 |cons v r ih=>
  rcases W6 e with q|⟨c,r',q,e'⟩
  .rw[q];exact PySem.F.store_ValueError.passes self
  .cases q
   rw[refuseLoop_ref]
   exact ih e'
def nv {T:Value}(hT:exMro.contains T=true){l:List Value}(e:Wg l=true):l.contains T=true:=by
 induction l with
 |nil=>cases e
 |cons v r ih=>
  rcases W6 e with q|⟨c,r',q,e'⟩
  .rw[q];exact hT
  .cases q
   rw[KC,ih e',Bool.or_true]
structure OK (K:Frag) (C:Addr):Prop where
 sa:findIn K (.ref C) "__setattr__"=some (some (.builtin "object.__setattr__"))
 ga:findIn K (.ref C) "__getattribute__"=some (some (.builtin "BaseException.__getattribute__"))
 gn:findIn K (.ref C) "__getattr__"=some none
 hd:hasDictIn K C=true
 ov:(clsIn K C).any (λcd=>Wg cd.mro)=true
section
variable {prog:Program}{w:World}{A:Around}{s:Shared}{K:Frag}{x C:Addr}{name:Str}{v:Value}{R:Result->Shared->Prop}
def uk {ox:Obj}{od:Option Obj}{tk:Tok}(X:K.In s.heap)(I:PySem.W.InstAt s.heap x ox C od)(c:OK K C)(ht:takerIn K C name=some none)(h:∀b,wpAny (model prog w) A.in1 (storeInOwnDict (.ref x) (.ref C) (.str name tk) name v b)
   (λfin s'=>match fin with | .done f=>R (.ok f) s' | .again c'=>c'.quiet=true/\codeAny (model prog w) A c' R s') (λe s'=>R (.error e) s') s):
  codeAny (model prog w) A (.call (.builtin "object.__setattr__") ⟨[.ref x,.str name tk,v],[]⟩) R s:=by
 have SF:=PySem.F.store_object
 obtain⟨cd,hc,ho⟩:=any_some c.ov
 have ne:cd.mro.isEmpty=false:=by
  cases q:cd.mro with
  |nil=>rw[q] at ho;cases ho
  |cons _ _=>rfl
 have sub:Looks (model prog w) s.heap (isInstance (.ref x) (.type "object")) true:=
  I.type.andThen (looks_mroIn X (by unfold mroIn;rw[hc,LA,AD (by rw[ne];decide),nv (by decide +kernel) ho]))
 refine LQ SF.slot.plain SF.entry (@check_slot (model prog w) _ _ s "object.__setattr__" "object" "__setattr__" (.ref x) [.str name tk,v] [] _ SF.kind SF.split sub (SF.args (.ref x) (.str name tk) v) ?_)
 obtain⟨attr,ha,hr⟩:=IR.mp ht
 have hm:Looks (model prog w) s.heap (mroOf (.ref C)) cd.mro:=(looks_clsIn X hc).andThen .now
 have tk3:Looks (model prog w) s.heap (storeTaker? attr) none:=by
  cases attr with
  |none=>exact .now
  |some a=>
   obtain⟨b,hb,q⟩:=CY.mp hr
   refine(looks_takesIn X hb).andThen ?_
   cases b with
   |true=>cases q
   |false=>exact .now
 rw[osa_eq,refuse_eq]
 refine AA (AA (I.type.here (AA (hm.here ?_))))
 rw[zF _ ho]
 exact AE (AA (I.type.here (AA ((looks_findIn X ha).here (AA (tk3.here (h _)))))))
def wU {E:Value->Shared->Prop}{vs:Array Value}{sl:Array (Option Value)}{Q:Unit->Shared->Prop}(X:K.In s.heap)(c:OK K C)(hx:s.heap.get? x=some ⟨.ref C,none,.fields vs,sl⟩)(ht:takerIn K C name=some none)(h:∀h',h'.get? x=some ⟨.ref C,some s.heap.objs.size,.fields vs,sl⟩->h'.Ns1 s.heap.objs.size (λy=>if y=name then some v else none)->(∀b o,b≠x->s.heap.get? b=some o->h'.get? b=some o) ->
   Q () {s with heap:=h',toks:=s.toks+2}):wpAny (model prog w) A (setAttr (.ref x) name v) Q E s:=by
 have I:PySem.W.InstAt s.heap x ⟨.ref C,none,.fields vs,sl⟩ C none:=⟨hx,rfl,rfl,True.intro⟩
 refine set_plain X I c.sa (uk (s:={s with toks:=s.toks+1}) X I c ht λb=>?_)
 obtain⟨cd,hc,ZL⟩:=any_some c.hd
 refine AA (AE (AA (AA (wpAny_loadPart hx (AA (Looks.here (s:={s with toks:=s.toks+1}) (looks_clsIn X hc) ?_))))))
 rw[ZL]
 have nx:x<s.heap.objs.size:=AJ hx
 have e1:(s.heap.push {cls:=.type "dict", data:=.dict #[]}).get? x=some ⟨.ref C,none,.fields vs,sl⟩:=AB _ hx
 refine AA (wpAny_alloc (AA (wpAny_update e1 ?_)))
 refine AE (a:=some s.heap.objs.size) (AA (AE (AA ?_)))
 have n0:(s.heap.push {cls:=.type "dict", data:=.dict #[]}).Ns s.heap.objs.size (λ_=>none):=⟨_,#[],_,AH s.heap rfl,rfl,(λe he=>absurd he (by simp)),λ_=>rfl⟩
 have n1:((s.heap.push {cls:=.type "dict", data:=.dict #[]}).update x λo=>{o with dict:=some s.heap.objs.size}).Ns1 s.heap.objs.size (λ_=>none):=
  (Heap.Ns1.of_empty n0).at λo q=>(CD _ _ (AI nx)).trans q
 refine wpAny_nsSet1 (s:={s with heap:=(s.heap.push {cls:=.type "dict", data:=.dict #[]}).update x λo=>{o with dict:=some s.heap.objs.size},toks:=s.toks+1}) n1 λh' hn2 hs2=>?_
 obtain⟨oD,rR,rT,gL,gh,gu⟩:=hn2.count (KJ name v (ns:=[]) (λy hy=>absurd rfl hy))
 refine AA (wpAny_lookBehind gL (by rw[gh];exact pastItsLine_dict (AV gu (by rw[AW];simp))) ?_)
 refine AE (h _ ?_ hn2 λb o nb e=>?_)
 .exact(hs2.2 x (AI nx)).trans (EF _ e1 rfl)
 .have hb:b<s.heap.objs.size:=AJ e
  exact(hs2.2 b (AI hb)).trans ((CD _ _ (CQ nb)).trans (AB _ e))
end
def Oq {h:Heap}{o v:Obj}{b:Addr}(nb:b≠h.objs.size)(q:(h.push o).get? b=some v):h.get? b=some v:=by
 obtain⟨q1,q2⟩:=(Heap.get?_eq_some _ _ _).1 q
 refine(Heap.get?_eq_some _ _ _).2 ⟨?_,q2⟩
 have q3:(h.objs.push o)[b]?=some v:=q1
 rw[Array.getElem?_push,AD nb] at q3
 exact q3
def XN (a C:Addr)(dx:Option Addr):HO:=.ext λh=>∃t sl,h.get? a=some ⟨.ref C,dx,.fields #[.ref t,.none,.none,.none,.bool false,.none],sl⟩
def mD {P:Program}{w:World}{H:Hp}{h:Heap}{a C t:Addr}{dx:Option Addr}{sl:Array (Option Value)}(e:h.get? a=some ⟨.ref C,dx,.fields #[.ref t,.none,.none,.none,.bool false,.none],sl⟩):ObjOk P w H h a (XN a C dx):=
 ⟨⟨t,sl,e⟩,⟨_,e⟩,λ_ _ ⟨t',aG,e1⟩ k=>⟨t',aG,k _ e1⟩⟩
def nr {P:Program}{w:World}{H:Hp}{h:Heap}{a C:Addr}{dx:Option Addr}(hk:HOk P w H h)(e:H a=some (XN a C dx)):∃t sl,h.get? a=some ⟨.ref C,dx,.fields #[.ref t,.none,.none,.none,.bool false,.none],sl⟩:=(hk a _ e).1
section
variable {X:Cx}{pins:List (Addr×Obj)}{σ:L2.St}{H:Hp}{s:Shared}{a C:Addr}{f:Str}{y:V}{u:Value}{A:Around}{E:Value->Shared->Prop}
def zE {Q:Unit->Shared->Prop}(I:Inv X pins σ H s)(e:H a=some (XN a C none))(c:OK X.K C)(n:NoAttr X.K C f)(ry:RelV y u)(h:∀dx s',H dx=none->dx≠a->Inv X pins σ (upd (upd H dx (.xd [(f,y)])) a (XN a C (some dx))) s'->Q () s'):wpAny (model X.prog X.w) A (setAttr (.ref a) f u) Q E s:=by
 obtain⟨t,sl,ea⟩:=nr I.hok e
 have la:a<s.heap.objs.size:=AJ ea
 have hf:=I.hok.fresh (AO s.heap.objs.size)
 refine wU I.kIn c ea n.taker λh' e1 e2 e3=>h s.heap.objs.size _ hf (DH la) ?_
 obtain⟨od,es,ep,g1,g2⟩:=e2
 have I1:Inv X pins σ (upd H s.heap.objs.size (.xd [(f,y)])) {s with heap:=s.heap.push od,toks:=s.toks}:=
  I.laid (λb v q=>AB _ q) (AO _) ⟨_,⟨od,es,ep,AH _ (by
   have:=g2.1
   obtain⟨c1,c2,c3,c4⟩:=od
   cases this
   rfl),g2⟩,λg=>by
   show RelO (List.lookup g [(f,y)]) (if g=f then some u else none)
   by_cases q:g=f
   .subst q
    simp only[List.lookup,FS,AC]
    exact ry
   .have hb:(g==f)=false:=CK.mpr q
    simp only[List.lookup,hb,AD q]
    trivial⟩
 refine I1.write (x:=a) (e:=a) (h':=h') (t':=s.toks+2) (by rw[Zl (AI la),e];exact True.intro) (.inl rfl) (λb v nb q=>?_) ⟨_,e1⟩ (mD e1)
 by_cases hb:b=s.heap.objs.size
 .subst hb
  rw[AH _ (by
   have:=g2.1
   obtain⟨c1,c2,c3,c4⟩:=od
   cases this
   rfl)] at q
  cases q
  exact g1
 .exact e3 b v nb (Oq hb q)
end
section
variable {X:Cx}{o value:Expr}{ta tv:TE}{f:Str}{pos pos':Pos}
def sM (K:Frag)(ta tv:TE)(f:Str):TS:=λD σ H=>tv σ H λy H1=>ta σ H1 λx H2=>∃a C,x=.ref a/\H2 a=some (XN a C none)/\OK K C/\NoAttr K C f /\
 ∀dx,H2 dx=none->dx≠a->D.nx σ (upd (upd H2 dx (.xd [(f,y)])) a (XN a C (some dx)))
def vF (ha:PE X o ta)(hv:PE X value tv)(hs:swapsWith value (some (.Attribute o f pos')) pos.line X.env=pure false:=by rfl):PS X (.Assign [.Attribute o f pos'] value pos) (sM X.K ta tv f):=by
 intro pins s σ H D I h
 refine IB (Yf (hv pins s σ H _ I h) λu s1 ⟨y,H1,I1,ry,q⟩=>Yf (ha pins s1 σ H1 _ I1 q) λov s2 ⟨x,H2,I2,rx,a,C,ex,ea,c,n,q2⟩=>?_) hs
 subst ex
 obtain rfl:ov=Value.ref a:=rx
 exact zE I2 ea c n ry λdx s3 z1 z2 I3=>⟨σ,_,I3,q2 dx z1 z2⟩
end
def ao (C:Addr)(f:Str):Sp:=λvs H Q _=>∃a y,vs=[.ref a,y]/\H a=some (XN a C none)/\∀dx,H dx=none->dx≠a->Q .non (upd (upd H dx (.xd [(f,y)])) a (XN a C (some dx)))
def zD {P:Program}{w:World}{K:Frag}{mg:Str->Option Value}{base:Heap}{x qual self p f:Str}{st:Stmt}{g C:Addr}{fd:FuncData}{p1 p2 p3 p4:Pos}(F:Fun K x qual st g fd)(sc:MA [self,p] [self,p] (Zg st))(hb:Qz st=[.Assign [.Attribute (.Name self p1) f p2] (.Name p p3) p4])(c:OK K C)(n:NoAttr K C f)(v1:Gm (Zg st) self)(v2:Gm (Zg st) p) (d1:(self==("__debug__":Str))=false:=by decide) (d2:(p==("__debug__":Str))=false:=by decide)
  (d3:(self==("__classdict__":Str))=false:=by decide) (d4:(p==("__classdict__":Str))=false:=by decide):MC P w K mg base Yi 1 g fd [self,p] (ao C f):=by
 refine F.ok sc (λvs H Q E h=>?_) (λME A outer s H vs Q E hr h=>?_)
 .obtain⟨a,y,rfl,_⟩:=h
  rfl
 .obtain⟨a,y,rfl,h1,h2⟩:=h
  rw[hb]
  refine⟨_,Xo (vF (Z6 (i:=0) rfl v1 d1 d3) (Z6 (i:=1) rfl v2 d2 d4)),?_⟩
  exact⟨y,rfl,.ref a,rfl,a,C,rfl,h1,c,n,h2⟩
def R4 (K:Frag)(C fI:Addr):Bool:=match K.lookup C with
 |some ⟨.type "type", _,.cls cd,sl⟩=>(match cd.mro,sl.toList with
  |.ref C'::bm,[_,_,_,_,some (.builtin n),_]=>C'==C&&n=="ValueError.__new__" && !cd.hasDel&&tailIn K exMro bm&&nsOkIn K cd.ns&&nsIn K cd.ns "__init__"== some (some (.ref fI))
  |_,_=>false)
 |_=>false
def S7 {K:Frag}{h:Heap}{N:Addr}{mg:Str->Option Value}{n:Str}{v:Value}(X:K.In h)(G:h.Ns N mg)(e:nsIn K N n=some (some v)):mg n=some v:=by
 obtain⟨o,es,ep,ho,hd,_,hf⟩:=G
 unfold nsIn at e
 split at e
 .rename_i c d dN n' sl q
  have:=X _ _ q
  rw[ho] at this
  cases this
  cases hd
  split at e
  .rename_i en he
   cases e
   rw[<-hf]
   unfold nsFind findBy
   rw[<-KG,he]
   rfl
  .split at e<;>cases e
 .cases e
structure XC (K:Frag) (C fI:Addr):Prop where
 at_:∃bm N nm qn bs SZ sn sub ab col dd k0 k1 k2 k3 k5,∀h:Heap,K.In h->h.get? C=some (excClassObj nm qn C N bs bm SZ sn sub ab col dd k0 k1 k2 k3 k5 "ValueError.__new__")/\OwnTail h exMro bm /\
  ∃mN,h.Ns N mN/\mN "__init__"=some (.ref fI)
def vE {K:Frag}{C fI:Addr}(q:R4 K C fI=true):XC K C fI:=by
 unfold R4 at q
 split at q
 .rename_i dd cd sl ho
  split at q
  .rename_i C' bm k0 k1 k2 k3 n k5 hm hs
   simp only[BC,CO,Bool.not_eq_true'] at q
   obtain⟨⟨⟨⟨⟨rfl,rfl⟩,bb⟩,ht⟩,hok⟩,jw⟩:=q
   obtain⟨nm,bs,mro,ns,qn,hd,sn,sub,ab,col,del⟩:=cd
   dsimp only at hm bb hok jw
   subst hm bb
   have qE:sl=#[k0,k1,k2,k3,some (.builtin "ValueError.__new__"),k5]:=by
    obtain⟨l⟩:=sl
    simp only at hs
    rw[hs]
   subst qE
   exact⟨bm,ns,nm,qn,bs,hd,sn,sub,ab,col,dd,k0,k1,k2,k3,k5,λh X=>⟨X _ _ ho,tail_of_in X ht,_,.of_isNs (isNs_of_in X hok),S7 X (.of_isNs (isNs_of_in X hok)) jw⟩⟩
  .cases q
 .cases q
section
variable {prog:Program}{w:World}{A:Around}{E:Value->Shared->Prop}{h:Heap}{g:Array GenState}{d:Drawn}{t:Nat}{os:OsState}
variable {nm q:Str}{C N:Addr}{bs bm dQ:List Value}{SZ:Bool}{sn:List Str}{sub:List Value}{ab:Bool}{col:Option Bool}{dd:Option Addr}{k0 k1 k2 k3 k5:Option Value}{B newId UR:String}
abbrev Nh (rest:List Value):Obj:={cls:=.type "tuple", data:=.seq rest.toArray}
abbrev Pn (C t:Addr):Obj:={cls:=.ref C,data:=.fields #[.ref t,.none,.none,.none,.bool false,.none]}
def An (FB:ExcBaseFacts B newId UR dQ)(T:OwnTail h dQ bm){mN:Str->Option Value}{rest:List Value}{fI:Addr}{oI:Obj}{Q:Fin->Shared->Prop}(hC:h.get? C=some (excClassObj nm q C N bs bm SZ sn sub ab col dd k0 k1 k2 k3 k5 newId))(hN:h.Ns N mN) (hI:mN "__init__"=some (.ref fI)) (ho:h.get? fI=some oI) (hf:oI.cls=.type "function")
  (k:wpAny (model prog w) A (call (.ref fI) (.ref (h.objs.size+1)::rest)) (λr s'=>r=.none/\Q (.done (.ret (.ref (h.objs.size+1)))) s') E ⟨(h.push (Nh rest)).push (Pn C h.objs.size),g,d,t,os⟩) (hz:rest.length<=sizeLine):
  wpAny (model prog w) A (Builtin.«type.__call__» ⟨.ref C::rest,[]⟩) Q E ⟨h,g,d,t,os⟩:=by
 repeat (first|with_reducible refine EH hC ?_|with_reducible refine wpAny_madeBy_exc hC ?_|wp_step)
 refine codeAny_call_builtin_code (HV _ FB.quiet) (wpAny_check_new_subT FB T hC ?_)
 refine codeAny_exc_new_subT FB T hC ?_ hz
 show wpAny _ _ _ _ _ _
 have up:∀{b:Addr}{o:Obj},h.get? b=some o->((h.push (Nh rest)).push (Pn C h.objs.size)).get? b=some o:=λe=>AB _ (AB _ e)
 have c1:=up hC
 have f1:=up ho
 have n1:((h.push (Nh rest)).push (Pn C h.objs.size)).Ns N mN:=let ⟨o,es,ep,e,r⟩:=hN;⟨o,es,ep,up e,r⟩
 have x1:((h.push (Nh rest)).push (Pn C h.objs.size)).get? (h.objs.size+1)=some (Pn C h.objs.size):=by heap_get
 have cC:(Value.ref C::bm).contains (.ref C)=true:=by simp
 have t1:=T.keeps (h':=(h.push (Nh rest)).push (Pn C h.objs.size)) λb o e=>up e
 unfold isInstance
 repeat (first|with_reducible refine EH x1 ?_|(with_reducible refine wpAny_isSubtype_exc c1 ?_;rw[cC])|wp_step)
 show wpAny _ _ (typeLookup (.ref C) _) _ _ _
 refine wpAny_typeLookup_tail c1 n1 t1 FB.mroIs FB.init.lookup ?_
 rw[hI]
 refine BY (AA ?_)
 unfold bindSpecial
 refine AA (KQ (T:="function") ⟨_,f1,hf⟩ ?_)
 rw[AC (by decide)]
 refine AE (AA (CB k (λr s' hr=>?_) λ_ _ x=>x))
 obtain⟨rfl,hQ⟩:=hr
 wp_walk
 exact hQ
def wR (FB:ExcBaseFacts B newId UR dQ)(T:OwnTail h dQ bm){mN:Str->Option Value}{rest:List Value}{fI:Addr}{oI:Obj}{Q:Value->Shared->Prop}(hC:h.get? C=some (excClassObj nm q C N bs bm SZ sn sub ab col dd k0 k1 k2 k3 k5 newId))(hN:h.Ns N mN) (hI:mN "__init__"=some (.ref fI)) (ho:h.get? fI=some oI) (hf:oI.cls=.type "function")
  (k:wpAny (model prog w) (A.under (.builtin "type.__call__" ⟨.ref C::rest,[]⟩)) (call (.ref fI) (.ref (h.objs.size+1)::rest)) (λr s'=>r=.none/\Q (.ref (h.objs.size+1)) s') E ⟨(h.push (Nh rest)).push (Pn C h.objs.size),g,d,t,os⟩) (hz:rest.length<=sizeLine):
  wpAny (model prog w) A (call (.ref C) rest) Q E ⟨h,g,d,t,os⟩:=by
 have a1:=tc_lookup
 have a2:=tc_bind (.ref C)
 have a3:(⟨h,g,d,t,os⟩:Shared).TypeIs (.ref C) "type":=⟨_,hC,rfl⟩
 refine GN (codeAny_of_tree ?_)
 show wpAny _ _ (callAny (.ref C) _) _ _ _
 repeat (any_goals (first|assumption|with_reducible refine EH hC ?_|wp_step))
 refine⟨rfl,?_⟩
 exact codeAny_call_builtin_at (HV _ (by decide +kernel)) entry_typeCall (wpAny_check_type_call_sub hC (An FB T hC hN hI ho hf k hz))
end
section
variable {X:Cx}{k:Nat}{fI C:Addr}{fd:FuncData}{self p f x:Str}{np pos cpos:Pos}{e:Expr}{es:List Expr}{t:TA}
def vD {pins:List (Addr×Obj)}{σ:L2.St}{H:Hp}{s:Shared}{Q:VK}{us:List Value}{v:V}(xc:XC X.K C fI)(fn:isFn X.K (.ref fI)=true)(F:MC X.prog X.w X.K X.mg X.base Yi k fI fd [self,p] (ao C f))(hr:Room (k+1) X.A)(hb:Binds X.K fd [self,p] [])(I:Inv X pins σ H s)(r:Vals [v] us)(q:∀a dx,s.heap.objs.size<=a->H a=none->H dx=none->dx≠a->Q (.ref a) (upd (upd H dx (.xd [(f,v)])) a (XN a C (some dx)))):
  wpAny (model X.prog X.w) X.A (call (.ref C) us) (EP X pins σ Q) X.xe s:=by
 obtain⟨bm,N,nm,qn,bs,SZ,sn,sub,ab,col,dd,k0,k1,k2,k3,k5,all⟩:=xc.at_
 obtain⟨hC,T,mN,hN,hI⟩:=all s.heap I.kIn
 have bX:typeIn X.K (.ref fI)=some (.type "function"):=CO.mp fn
 obtain⟨oI,qM,qy⟩:=CY.mp bX
 have lu:us.length=1:=r.length.symm
 obtain⟨hh,g,d,tk,os⟩:=s
 refine wR PySem.F.excBase_ValueError T hC hN hI (I.kIn _ _ qM) qy ?_ (by rw[lu];decide)
 have I0:Inv X pins σ H ⟨hh.push (Nh us),g,d,tk,os⟩:=I.kept (h':=hh.push (Nh us)) (t':=tk) λb u e=>AB _ e
 have sz:(hh.push (Nh us)).objs.size=hh.objs.size+1:=CU _ _
 have ex:((hh.push (Nh us)).push (Pn C hh.objs.size)).get? (hh.objs.size+1)=some (Pn C hh.objs.size):=by
  rw[<-sz];exact AH _ rfl
 have I1:Inv X pins σ (upd H (hh.objs.size+1) (XN (hh.objs.size+1) C none)) ⟨(hh.push (Nh us)).push (Pn C hh.objs.size),g,d,tk,os⟩:=
  I0.laid (a:=hh.objs.size+1) (h':=(hh.push (Nh us)).push (Pn C hh.objs.size)) (t':=tk) (λb u e=>AB _ e) (JA sz) (mD ex)
 have r2:Vals [V.ref (hh.objs.size+1),v] (Value.ref (hh.objs.size+1)::us):=.cons rfl r
 have hl:((Value.ref (hh.objs.size+1)::us)++[]).length=[self,p].length:=by simp[lu]
 have fa:H (hh.objs.size+1)=none:=I.hok.fresh (DR _)
 have sp:ao C f [V.ref (hh.objs.size+1),v] (upd H (hh.objs.size+1) (XN (hh.objs.size+1) C none)) (λv2 H2=>v2=.non/\Q (.ref (hh.objs.size+1)) H2) E0:=by
  refine⟨_,v,rfl,Zo,λdx z1 z2=>⟨rfl,?_⟩⟩
  have h1:H dx=none:=by rw[Zl z2] at z1;exact z1
  have e2:upd (upd (upd H (hh.objs.size+1) (XN (hh.objs.size+1) C none)) dx (.xd [(f,v)])) (hh.objs.size+1) (XN (hh.objs.size+1) C (some dx))=upd (upd H dx (.xd [(f,v)])) (hh.objs.size+1) (XN (hh.objs.size+1) C (some dx)):=by
   funext b
   unfold upd
   by_cases b1:b=hh.objs.size+1
   .simp only[AC b1]
   .by_cases b2:b=dx
    .simp only[AD b1,AC b2]
    .simp only[AD b1,AD b2]
  rw[e2]
  exact q _ dx (DR _) fa h1 z2
 have cD:=hb ⟨(hh.push (Nh us)).push (Pn C hh.objs.size),g,d,tk,os⟩ (Value.ref (hh.objs.size+1)::us) I1.kIn hl
 rw[BJ] at cD
 refine GN (FC (F.run _ X.stack _ _ ⟨Value.ref (hh.objs.size+1)::us,[]⟩ (Value.ref (hh.objs.size+1)::us) _ _ E0 (hr.make C us []) (I1.env0.make C us []) cD r2 sp) λrr s' SB=>?_)
 cases rr with
 |error e=>exact False.elim SB
 |ok fl=>
  cases fl with
  |ret u=>
   obtain⟨v2,H',I3,rv,ev,q3⟩:=I1.after SB
   subst ev
   exact⟨rv,⟨V.ref (hh.objs.size+1),H',I3,rfl,q3⟩⟩
  |next=>exact False.elim SB
  |brk=>exact False.elim SB
  |cont=>exact False.elim SB
end
def D1 {X:Cx}{pins:List (Addr×Obj)}{σ:L2.St}{H:Hp}{s:Shared}{a:Addr}{φ:Heap->Prop}(I:Inv X pins σ (upd H a (.ext φ)) s)(ha:H a=none)(h0:X.s₀.heap.objs.size<=a):Inv X pins σ H s:=by
 have dn:∀b o,H b=some o->upd H a (.ext φ) b=some o:=λb o q=>by rw[Zl (Zt q ha)];exact q
 have up:∀b o,upd H a (.ext φ) b=some o->(∀ψ,o≠.ext ψ)->H b=some o:=λb o q n=>by
  by_cases hb:b=a
  .subst hb;rw[Zo] at q;cases q;exact absurd rfl (n φ)
  .rwa[Zl hb] at q
 have nn:∀b,upd H a (.ext φ) b=none->H b=none:=λb q=>by
  by_cases hb:b=a
  .subst hb;exact ha
  .rwa[Zl hb] at q
 have B:=I.base
 refine⟨I.ok,I.os,I.bare,⟨B.keep,B.slot,λb o e n nx=>nn b (B.free b o e n nx),B.there,λb xs e=>up b _ (B.tups b xs e) (λ_ q=>nomatch q),λb o u e=>up b _ (B.frzs b o u e) (λ_ q=>nomatch q),λb l c q e=>up b _ (B.tbls b l c q e) (λ_ z=>nomatch z)⟩,I.loc,I.cell,nn _ I.free,λy c e=>nn _ (I.freeC y c e),λq hq=>?_,λb o e=>?_,I.len⟩
 .obtain⟨p1,p2,p3⟩:=I.pin q hq
  exact⟨p1,nn _ p2,p3⟩
 .exact(I.hok b o (dn b o e)).stay (λ_ _ _ q=>q) (λc q=>up c _ q (λ_ z=>nomatch z)) (λc xs q=>up c _ q (λ_ z=>nomatch z)) λc _ _ q=>up c _ q (λ_ z=>nomatch z)
section
variable {M:Model}{A:Around}{E:Value->Shared->Prop}{s:Shared}{env:Env}
def zC {K:Frag}{C fI:Addr}{x:Sem Value}{Q:Flow->Shared->Prop}(xc:XC K C fI)(hh:A.handled=none)(h:wpAny M A x (λv s₁=>∃a dx t sl,v=.ref a/\K.In s₁.heap/\s₁.heap.get? a=some ⟨.ref C,dx,.fields #[.ref t,.none,.none,.none,.bool false,.none],sl⟩/\E (.ref a) s₁) E s):
  wpAny M A (raiseStmt env (some x) none) Q E s:=by
 obtain⟨bm,N,nm,qn,bs,SZ,sn,sub,ab,col,dd,k0,k1,k2,k3,k5,all⟩:=xc.at_
 unfold raiseStmt
 refine AA (CB h (λv s₁ h₁=>?_) λ_ _ z=>z)
 obtain⟨a,dx,t,sl,rfl,KI,he,hE⟩:=h₁
 obtain⟨hC,T,_⟩:=all _ KI
 obtain⟨hp,g,d,tk,os⟩:=s₁
 have hB:(Value.ref C::bm).contains (.type "BaseException")=true:=by
  rw[KC,T.hasType (show exMro.contains (.type "BaseException")=true by decide +kernel),Bool.or_true]
 repeat (first|with_reducible refine EH he ?_|with_reducible refine EH hC ?_|(with_reducible refine wpAny_isSubtype_exc hC ?_;rw[hB])|wp_step)
 exact wpAny_raiseNew_none hh hE
end
section
variable {X:Cx}{E:XK}{k:Nat}{fI C:Addr}{fd:FuncData}{self p f x:Str}{np pos cpos:Pos}{e:Expr}{es:List Expr}{t:TA}
def wQ (C:Addr)(f:Str)(E:XK)(t:TA):TS:=λ_ σ H=>t σ H λvs H1=>∃v,vs=[v]/\∀dx,H1 dx=none->E (.ref C) (some dx) (upd H1 dx (.xd [(f,v)]))
def Zb5 (o:de X E)(hc:X.calm=true)(xc:XC X.K C fI)(kp:keepIn X.K (.ref C)=true)(fn:isFn X.K (.ref fI)=true)(F:MC X.prog X.w X.K X.mg X.base Yi k fI fd [self,p] (ao C f))(hr:Room (k+1) X.A)(hb:Binds X.K fd [self,p] [])(hg:Gl X x)(hm:X.mg x=some (.ref C))(ha:PA X (e::es) t) (NT:(x==("__debug__":Str))=false:=by decide)
  (he:starEach (e::es) X.env=(false,eval e X.env)::starEach es X.env:=by rfl) (MT:(backTo cpos (starEach es X.env)).any (·.1)=false:=by rfl):
  PS X (.Raise (some (.Call (.Name x np) (e::es) [] cpos)) none pos) (wQ C f E t):=by
 intro pins s σ H D I h
 rw[arm_exec_Raise]
 refine AA (FK ?_)
 refine zC xc (I.ok.hd hc) ?_
 have core:wpAny (model X.prog X.w) X.A (eval (.Call (.Name x np) (e::es) [] cpos) X.env) (λv s₁=>∃a dx t sl,v=.ref a/\X.K.In s₁.heap/\s₁.heap.get? a=some ⟨.ref C,dx,.fields #[.ref t,.none,.none,.none,.bool false,.none],sl⟩/\X.xe (.ref a) s₁) X.xe s:=by
  refine DZ (Ur I hg hm ?_ NT)
  refine EO (h₀:=X.base) I.ok.mod.kin kp (Yf (ha cpos pins s σ H _ I h) λus s1 ⟨vs,H1,I1,r,v,ev,q⟩=>⟨I1.kIn,?_⟩) he MT
  subst ev
  refine Yf (vD (Q:=λv2 H2=>∃a dx,v2=.ref a/\X.s₀.heap.objs.size<=a/\H1 a=none/\H1 dx=none/\dx≠a/\H2=upd (upd H1 dx (.xd [(f,v)])) a (XN a C (some dx))) xc fn F hr hb I1 r λa dx z1 z2 z3 z4=>⟨a,dx,rfl,AV I1.sz z1,z2,z3,z4,rfl⟩) λu s2 h2=>?_
  obtain⟨v2,H2,I2,r2,a,dx,rfl,z1,z2,z3,z4,rfl⟩:=h2
  obtain rfl:u=Value.ref a:=r2
  obtain⟨t',sl,e2⟩:=nr I2.hok (Zo)
  have na:upd H1 dx (.xd [(f,v)]) a=none:=by rw[Zl (CQ z4)];exact z2
  have I3:Inv X pins σ (upd H1 dx (.xd [(f,v)])) s2:=D1 I2 na z1
  exact⟨a,some dx,t',sl,rfl,I3.kIn,e2,o pins σ _ s2 a (.ref C) (some dx) a I3 ⟨_,_,e2,rfl,rfl,rfl,by simp,.inl ⟨rfl,rfl⟩⟩ na na z1 z1 (q dx z3)⟩
 exact AA (CB core (λv s₁ h₁=>AA (FK (AE h₁))) λ_ _ z=>z)
def Ni (cls f:Str)(fs:Zf->M (List D))(sd:Zf):M O:=(fs sd).bind λds=>match ds with
 |[d]=>.ex ⟨cls,[f],[d]⟩
 |_=>.bad
def Os (o:de X E)(hc:X.calm=true)(xc:XC X.K C fI)(kp:keepIn X.K (.ref C)=true)(fn:isFn X.K (.ref fI)=true)(F:MC X.prog X.w X.K X.mg X.base Yi k fI fd [self,p] (ao C f))(hr:Room (k+1) X.A)(hb:Binds X.K fd [self,p] [])(hm:X.mg x=some (.ref C))(hn:nsIn X.K mainGlobals x=some (some (.ref C))){fs:Zf->M (List D)}(ha:S2 X E (e::es) fs)(hg:Gl X x:=by rfl) (NT:(x==("__debug__":Str))=false:=by decide)
  (he:starEach (e::es) X.env=(false,eval e X.env)::starEach es X.env:=by rfl) (MT:(backTo cpos (starEach es X.env)).any (·.1)=false:=by rfl):
  Wq X E (.Raise (some (.Call (.Name x np) (e::es) [] cpos)) none pos) (Ni x f fs):=by
 obtain⟨t,pt,qt⟩:=ha
 refine⟨_,Zb5 o hc xc kp fn F hr hb hg hm pt NT he MT,λH0 B Hf sd σ H D sr h=>?_⟩
 refine qt H0 B Hf sd σ H _ sr (PoS.bind sr h λds vs MB H1 _ g1 sr1 rs h1=>?_)
 match ds,rs,h1 with
 |[d],rs,h1=>
  obtain⟨v,r,rfl,rv,rn⟩:=reps_cons.mp rs
  rw[reps_nil] at rn
  subst rn
  refine⟨v,rfl,λdx z=>?_⟩
  have sm:=Qa (sr1.sub.free z) (.xd [(f,v)])
  refine h1 (.ref C) (some dx) (upd MB dx (.xd [(f,v)])) _ sm ⟨sr1.sub.upd dx _,sr1.all.trans (Qa z _),λa hB=>?_⟩ ⟨C,[v],rfl,hn,⟨Zo,rfl⟩,Reps.cons (rv.mono sm) Reps.nil⟩
  have:a≠dx:=λq=>by
   have:=sr1.all.ne (sr1.bt a hB).nn
   rw[q] at this
   exact this z
  rw[Zl this];exact sr1.ban a hB
 |[],_,h1=>exact h1.elim
 |_::_::_,_,h1=>exact h1.elim
end
section
variable {X:Cx}{pins:List (Addr×Obj)}{σ:L2.St}{H:Hp}{s:Shared}{h':Heap}{a T C:Addr}{e:Value}
structure RT (X:Cx) (pins:List (Addr×Obj)) (b:Addr):Prop where
 lo:X.s₀.heap.objs.size<=b
 nl:b≠X.env.locals
 nc:∀x c,X.env.cells.lookup x=some c->c≠b
 np:∀p∈X.pn++pins,p.1≠b
def R5 (I:Inv X pins σ H s){b:Addr}(h:s.heap.objs.size<=b):RT X pins b where
 lo:=AV I.sz h
 nl:=DH (AM I.lt h)
 nc:=λx c q=>by
  obtain⟨v,o,ho,_⟩:=I.cell x c q
  exact AI (AM (AJ ho) h)
 np:=λp hp=>AI (AM (AJ (I.pin p hp).1) h)
def D2 (I:Inv X pins σ H s)(c:Ch (Tn X.stack) a T s.heap h')(na:H a=none)(nT:H T=none)(fa:RT X pins a)(fT:RT X pins T):Inv X pins σ H {s with heap:=h'}:=by
 refine I.call (h':=h') (g':=s.gens) (d':=s.drawn) (t':=s.toks) (ch:=[a,T]) ⟨λb o q n nf nx=>?_,λb o q n bf nx=>?_,λb o q n nx=>n,λb o q nx=>?_,λb xs q=>q,λb o u q=>q,λ_ _ _ _ q=>q⟩ (n6 I.hok c na nT I.stkFree) I.bare λb hb=>?_
 .exact c.keep b o (λz=>nx (by simp[z])) (λz=>nx (by simp[z])) nf q
 .exact c.slot b o (λz=>nx (by simp[z])) (λz=>nx (by simp[z])) q
 .obtain⟨sl,z⟩:=c.slot b o (λz=>nx (by simp[z])) (λz=>nx (by simp[z])) q
  exact⟨_,z⟩
 .rcases AZ.mp hb with rfl|hb
  .exact⟨.inr fa.lo,fa.nl,fa.nc,fa.np⟩
  .have:b=T:=by simpa using hb
   subst this
   exact⟨.inr fT.lo,fT.nl,fT.nc,fT.np⟩
def Ot {o:HO}(I:Inv X pins σ H s)(na:H a=none)(fa:RT X pins a)(ok:ObjOk X.prog X.w (upd H a o) s.heap a o):Inv X pins σ (upd H a o) s:=by
 have B:=I.base
 have nn:∀b,b≠a->H b=none->upd H a o b=none:=λb nb q=>by rw[Zl nb];exact q
 have lt:∀{b:Addr}{u:Obj},X.s₀.heap.get? b=some u->b≠a:=λq=>AI (AM (AJ q) fa.lo)
 have sm:=Qa na o
 refine⟨I.ok,I.os,I.bare,⟨B.keep,B.slot,λb u q n nx=>nn b (lt q) (B.free b u q n nx),B.there,λb xs q=>sm _ _ (B.tups b xs q),λb u v q=>sm _ _ (B.frzs b u v q),λb l c r q=>sm _ _ (B.tbls b l c r q)⟩,I.loc,I.cell,nn _ (CQ fa.nl) I.free,λy c q=>nn _ (fa.nc y c q) (I.freeC y c q),λq hq=>?_,λb u q=>?_,I.len⟩
 .obtain⟨p1,p2,p3⟩:=I.pin q hq
  exact⟨p1,nn _ (fa.np q hq) p2,p3⟩
 .by_cases hb:b=a
  .subst hb;rw[Zo] at q;cases q;exact ok
  .rw[Zl hb] at q
   exact(I.hok b u q).stay (λ_ _ _ z=>z) (λc z=>sm _ _ z) (λc xs z=>sm _ _ z) λc _ _ z=>sm _ _ z
def ak (X:Cx)(e:Value):Cx:={X with A:=X.A.mark (some e),calm:=false,xe:=λ_ _=>False}
def wO (ok:X.Ok):(ak X e).Ok:=
 ⟨ok.mod,ok.kind,ok.glob,ok.blt,ok.above,ok.inj,ok.has,ok.cab,(λz=>nomatch z),ok.frames,ok.stk,ok.exf,ok.bs,ok.bsz,ok.noex,ok.exfs,ok.funs,ok.frf⟩
def Fx (I:Inv X pins σ H s):Inv (ak X e) pins σ H s:=⟨wO I.ok,I.os,I.bare,I.base,I.loc,I.cell,I.free,I.freeC,I.pin,I.hok,I.len⟩
def Zb6 (ok:X.Ok)(I:Inv (ak X e) pins σ H s):Inv X pins σ H s:=⟨ok,I.os,I.bare,I.base,I.loc,I.cell,I.free,I.freeC,I.pin,I.hok,I.len⟩
def Ou {M:Model}{A:Around}{E:Value->Shared->Prop}{n:Str}{i:Nat}{pos:Pos}{Q:Unit->Shared->Prop}(I:Inv X pins σ H s)(hN:X.N.Nodup)(hi:X.N[i]?=some n)(hk:X.env.kindOf n=some .local)(h:∀s',Inv X pins (σ.set i none) H s'->Q () s'):wpAny M A (do bindName X.env n .none;unbindBehindTheSuite X.env n pos) Q E s:=by
 obtain⟨m,hn,hl⟩:=id I.loc
 have ZM:(X.env.scope.kind==.class||(X.env.scope.kind==.module&&X.env.locals != X.env.globals))=false:=by rw[I.ok.kind];rfl
 refine wpAny_nameGoes_keeps hk hn ZM λh' v aO hs=>h _ ?_
 have nb:∀{b:Addr}{o:Obj},X.s₀.heap.get? b=some o->b≠X.env.locals:=λq=>AI (AM (AJ q) I.ok.above)
 have cne:=I.cne
 refine⟨I.ok,I.os,I.bare,⟨λb o q n nf nx=>(hs.2 b (nb q)).trans (I.base.keep b o q n nf nx),λb o q n bf nx=>?_,I.base.free,λb o q nx=>?_,I.base.tups,I.base.frzs,I.base.tbls⟩,⟨_,aO,λj y v' e1 e2 e3=>?_⟩,λy c q=>?_,I.free,I.freeC,λp hp=>?_,λb u q=>?_,by rw[CA];exact I.len⟩
 .obtain⟨sl,z⟩:=I.base.slot b o q n bf nx
  exact⟨sl,(hs.2 b (nb q)).trans z⟩
 .obtain⟨o',z⟩:=I.base.there b o q nx
  exact⟨o',(hs.2 b (nb q)).trans z⟩
 .have hj:i≠j:=λz=>by
   subst z
   have NN:i<σ.length:=by
    have:=(AG.mp e2).1;simpa using this
   rw[AK NN] at e2
   cases e2
  rw[AF hj] at e2
  obtain⟨u,r,q⟩:=hl j y v' e1 e2 e3
  refine⟨u,r,?_⟩
  rcases q with⟨k,z⟩|⟨k,c,q,z⟩
  .have ny:y≠n:=λz=>hj (P7 hN (z▸hi) e1)
   exact .inl ⟨k,by simp[ny,z]⟩
  .exact .inr ⟨k,c,q,z.sameBut hs (cne y c q)⟩
 .obtain⟨w',z⟩:=I.cell y c q
  exact⟨w',z.sameBut hs (cne y c q)⟩
 .obtain⟨p1,p2,p3,p4⟩:=I.pin p hp
  exact⟨(hs.2 p.1 p3).trans p1,p2,p3,p4⟩
 .refine(I.hok b u q).stay (λc w' hc z=>(hs.2 c ?_).trans z) (λ_ z=>z) (λ_ _ z=>z) λ_ _ _ z=>z
  have fl:=I.free
  intro z
  subst z
  rcases hc with z|z
  .rw[<-z,fl] at q;cases q
  .rw[fl] at z;cases z
end
def SR.drop {K:Frag}{H0 Hf H:Hp}{B:Addr->Prop}{sd:Zf}{σ:L2.St}(r:SR K H0 B Hf sd σ H)(i:Nat):SR K H0 B Hf (sd.set i none) (σ.set i none) H:=by
 have bk:∀{j:Nat}{t:S},(sd.set i none)[j]?=some (some t)->i≠j/\sd[j]?=some (some t):=λ{j t} q=>by
  by_cases hj:i=j
  .subst hj
   have NN:i<sd.length:=by
    have:=(AG.mp q).1;simpa using this
   rw[AK NN] at q
   cases q
  .rw[AF hj] at q
   exact⟨hj,q⟩
 refine⟨r.sub,r.all,r.ban,r.bt,by rw[CA,CA];exact r.len,λj t q z=>?_,λj t q z=>?_,λj k t u p hjk q1 o1 q2 o2 q3 q4=>?_⟩
 .rw[AF (bk q).1];exact r.imS j t (bk q).2 z
 .rw[AF (bk q).1];exact r.ow j t (bk q).2 z
 .rw[AF (bk q1).1] at q3
  rw[AF (bk q2).1] at q4
  exact r.sep j k t u p hjk (bk q1).2 o1 (bk q2).2 o2 q3 q4
structure XS (K:Frag) (C D:Addr):Prop where
 sub:subIn K (.ref C) (.ref D)=some true
 exc:subIn K (.ref D) (.type "BaseException")=some true
 ty:typeIn K (.ref D)=some (.type "type")
 tt:instIn K (.ref D) (.type "type")=some true
 nt:instIn K (.ref D) (.type "tuple")=some false
def wN {M:Model}{A:Around}{E:Value->Shared->Prop}{s:Shared}{K:Frag}{a C D:Addr}{oe:Obj}{Q:Bool->Shared->Prop}(X:K.In s.heap)(h:XS K C D)(he:s.heap.get? a=some oe)(hc:oe.cls=.ref C)(hq:Q true s):
  wpAny M A (excMatches (.ref a) (.ref D)) Q E s:=by
 have t1:Looks M s.heap (typeOf (.ref a)) (.ref C):=hc▸(Looks.ld he).andThen .now
 have t2:=looks_subIn (M:=M) X h.sub
 have t3:=looks_subIn (M:=M) X h.exc
 have t4:=looks_instIn (M:=M) X h.nt
 have t5:=looks_instIn (M:=M) X h.tt
 have hD:∃oc od cd sl,s.heap.get? D=some ⟨oc,od,.cls cd,sl⟩:=by
  obtain⟨cd,q,_⟩:=IR.mp (show mroIn K D (.type "BaseException")=some true from h.exc)
  unfold clsIn at q
  split at q
  .rename_i ho
   exact⟨_,_,_,_,X _ _ ho⟩
  .cases q
 obtain⟨oc,od,cd,sl,hD⟩:=hD
 obtain⟨hp,g,d,tk,os⟩:=s
 unfold excMatches
 repeat (first|with_reducible refine t1.here ?_|with_reducible refine t2.here ?_|with_reducible refine t3.here ?_|with_reducible refine t4.here ?_|with_reducible refine t5.here ?_|with_reducible refine EH hD ?_|wp_step)
 exact hq
def vC {P:Program}{w:World}{H:Hp}{h:Heap}{a C T:Addr}{dx:Option Addr}{fl:Value}(n:Nt h a (.ref C) dx T fl):ObjOk P w H h a (XO a C dx):=by
 obtain⟨oe,vs,e1,e2,e3,e4,_⟩:=n
 exact⟨⟨oe,vs,e1,e2,e3,e4⟩,⟨_,e1⟩,λ_ _ ⟨o9,vs',z1,z2⟩ k=>⟨o9,vs',k _ z1,z2⟩⟩
section
variable {prog:Program}{w:World}{A:Around}{E:Value->Shared->Prop}{s:Shared}{K:Frag}{x C:Addr}{ox:Obj}{od:Option Obj}{name:Str}{tk:Tok}{v:Value}{R:Result->Shared->Prop}
def vB {M:Model}{T:String}(X:K.In s.heap)(I:PySem.W.InstAt s.heap x ox C od)(c:OK K C)(hT:exMro.contains (.type T)=true):Looks M s.heap (isInstance (.ref x) (.type T)) true:=by
 obtain⟨cd,hc,ho⟩:=any_some c.ov
 have ne:cd.mro.isEmpty=false:=by
  cases q:cd.mro with
  |nil=>rw[q] at ho;cases ho
  |cons _ _=>rfl
 exact I.type.andThen (looks_mroIn X (by unfold mroIn;rw[hc,LA,AD (by rw[ne];decide),nv hT ho]))
def zB:builtinKind "BaseException.__getattribute__"=some .slot:=by decide +kernel
def Zb7:splitId "BaseException.__getattribute__"=some ("BaseException","__getattribute__"):=by decide +kernel
def tW (X:K.In s.heap)(I:PySem.W.InstAt s.heap x ox C od)(c:OK K C){r:Found}(hf:findObj K C od name=some r)
  (h:wpAny (model prog w) A.in1 (match r with | .value v=>ret v | .bind g a=>bindTo g a (.ref x) (.ref C) | .missing=>unsupported "") (λfin s'=>match fin with | .done f=>R (.ok f) s' | .again c'=>c'.quiet=true/\codeAny (model prog w) A c' R s') (λe s'=>R (.error e) s') s) (hr:r≠.missing):
  codeAny (model prog w) A (.call (.builtin "BaseException.__getattribute__") ⟨[.ref x,.str name tk],[]⟩) R s:=by
 have sub:=vB (M:=model prog w) X I c (T:="BaseException") (by decide +kernel)
 refine LQ IP.ga.plain PySem.F.entry_bexc_ga (@check_slot (model prog w) _ _ s "BaseException.__getattribute__" "BaseException" "__getattribute__" (.ref x) [.str name tk] [] _ zB Zb7 sub (PySem.F.args_bexc_ga (.ref x) (.str name tk)) ?_)
 have L0:=I.type (M:=model prog w)
 have L1:=looks_find (M:=model prog w) X I hf
 refine AA (AE (AA (AE (AA (L0.here (AA (L1.here ?_)))))))
 cases r with
 |value v=>exact h
 |bind g a=>exact h
 |missing=>exact absurd rfl hr
def zA {fill expr:Bool}{Q:Value->Shared->Prop}(X:K.In s.heap)(I:PySem.W.InstAt s.heap x ox C od)(c:OK K C)
  (h:codeAny (model prog w) A (.call (.builtin "BaseException.__getattribute__") ⟨[.ref x,.str name tk],[]⟩) (λr s'=>match r with | .ok (.ret v)=>wpAny (model prog w) A (handedOut v) Q E s'|_=>False) s):
  wpAny (model prog w) A (getAttrBy (.ref x) (.str name tk) fill expr) Q E s:=by
 have L0:=I.type (M:=model prog w)
 have L1:=looks_findIn (M:=model prog w) X c.ga
 have L2:=looks_findIn (M:=model prog w) X c.gn
 unfold getAttrBy
 refine BY (AA (L0.here (AA (L1.here ?_))))
 have e1:(Value.builtin "BaseException.__getattribute__"== Value.builtin "object.__getattribute__")=false:=by decide +kernel
 have e2:(onTheHeap (Value.ref C)&&Value.builtin "BaseException.__getattribute__"== Value.builtin "object.__getattribute__")=false:=by rw[e1];rfl
 have e3:(expr&&onTheHeap (Value.builtin "BaseException.__getattribute__"))=false:=by cases expr<;>rfl
 dsimp only
 rw[AD (by rw[e2];decide)]
 unfold getAttrByItsOwn hookBefore
 rw[AC (show onTheHeap (Value.ref C)=true from rfl)]
 refine AA (L2.here (AA (GI (BY ?_))))
 unfold callGetattribute
 rw[AD (by rw[e3];decide)]
 unfold boundAndCalled
 rw[IP.ga.bind (.ref x)]
 refine AA (AE (GN (FC h λr s' z=>?_)))
 cases r with
 |error e=>exact z.elim
 |ok f=>
  cases f with
  |ret v=>exact z
  |_=>exact z.elim
def vA {expr:Bool}{Q:Value->Shared->Prop}(X:K.In s.heap)(I:PySem.W.InstAt s.heap x ox C od)(c:OK K C)(hf:findObj K C od name=some (.value v))(hv:handedIn v=true)(h:Q v {s with toks:=s.toks+1}):
  wpAny (model prog w) A (getAttr (.ref x) name expr) Q E s:=by
 unfold getAttr
 refine AA (wpAny_mkText ?_)
 refine zA (s:={s with toks:=s.toks+1}) X I c (tW (s:={s with toks:=s.toks+1}) X I c hf ?_ (λz=>nomatch z))
 refine AE ?_
 show wpAny _ _ (handedOut v) _ _ _
 rw[handedOut_of hv]
 exact AE h
structure cX (K:Frag) (C:Addr):Prop where
 ha:findIn K (.ref C) "__class__"=some (some (.builtin "object.__class__"))
 hn:specialIn K (.builtin "object.__class__") "__get__"=some (some (.builtin "getset_descriptor.__get__"))
 ht:takesIn K (.builtin "object.__class__")=some true
 hm:mroIn K C (.type "object")=some true
end
def y9 {X:Cx}{pins:List (Addr×Obj)}{σ:L2.St}{H:Hp}{s:Shared}{a C dx:Addr}{fs:List (Str×V)}(I:Inv X pins σ H s)(h1:H a=some (XO a C (some dx)))(h2:H dx=some (.xd fs)):
  ∃oe od,PySem.W.InstAt s.heap a oe C (some od)/\∀f,∃r,lookIn f od=some r/\RelO (fs.lookup f) r:=by
 obtain⟨⟨oe,vs,e1,e2,e3,e4⟩,_⟩:=(show ObjOk X.prog X.w H s.heap a (XO a C (some dx)) from I.hok a _ h1)
 obtain⟨mA,n1,r⟩:=(show ObjOk X.prog X.w H s.heap dx (.xd fs) from I.hok dx _ h2)
 obtain⟨od,ho,hl⟩:=Tp n1
 refine⟨oe,od,⟨e1,e2,?_,?_⟩,λf=>⟨mA f,hl f,r f⟩⟩
 .unfold notCls;rw[e4]
 .rw[e3];exact ho
section
variable {X:Cx}{E:XK}{pos p p2 p3:Pos}{vn cn f:Str}
structure VM (K:Frag) (y:Str) (C:Addr):Prop where
 at_:nsIn K mainGlobals y=some (some (.ref C))
 cl:OK K C
 kt:cX K C
def Fy (i:Nat)(cs:List Str)(f:Str)(sd:Zf):M D:=match sd[i]? with
 |some (some (.xc x))=>if cs.contains x.cls&&x.ns==[f] then(match x.ds with | [d]=>.ok d|_=>.bad) else .bad
 |_=>.bad
def u9 (K:Frag)(ta:TE)(f:Str):TE:=λσ H Q=>ta σ H λx H1=>∃a C dx fs v,x=.ref a/\H1 a=some (XO a C (some dx))/\H1 dx=some (.xd fs)/\OK K C/\NoAttr K C f/\fs.lookup f=some v/\Q v H1
def yw {o:Expr}{ta:TE}(ha:PE X o ta)(hb:attributeBase o f X.env (eval o X.env)=eval o X.env:=by rfl):PE X (.Attribute o f pos) (u9 X.K ta f):=by
 intro pins s σ H Q I h
 refine Fg hb (Yf (ha pins s σ H _ I h) λov s1 ⟨x,H1,I1,rx,a,C,dx,fs,v,ex,e1,e2,c,n,l,q⟩=>?_)
 subst ex
 obtain rfl:ov=Value.ref a:=rx
 obtain⟨oe,od,I',hl⟩:=y9 I1 e1 e2
 obtain⟨r,h1,h2⟩:=hl f
 rw[l] at h2
 obtain⟨u,rfl,ru⟩:=RelO.some_of h2
 exact vA I1.kIn I' c (findObj_own c.hd n rfl h1) (Tq ru) ⟨v,H1,I1.tok _,ru,q⟩
def yv (i:Nat)(cs:List Str)(hk:∀y∈cs,∃C,VM X.K y C/\NoAttr X.K C f)(hN:X.N[i]?=some vn:=by rfl)(hv:Gm X.env.scope vn:=by trivial) (hd:(vn==("__debug__":Str))=false:=by decide) (MV:(vn==("__classdict__":Str))=false:=by decide)
  (hb:attributeBase (.Name vn p) f X.env (eval (.Name vn p) X.env)=eval (.Name vn p) X.env:=by rfl):Yt X E (.Attribute (.Name vn p) f pos) (Fy i cs f):=by
 refine⟨_,yw (Z6 hN hv hd MV) hb,λH0 B Hf sd σ H Q sr h=>?_⟩
 unfold Fy at h
 split at h
 .rename_i x ei
  split at h
  .rename_i hc
   obtain⟨qz,ZO⟩:=Bool.and_eq_true_iff.mp hc
   have SY:x.ns=[f]:=CO.mp ZO
   obtain⟨v,e1,a,C,dx,xs,rfl,e2,e3,e4,e5⟩:=sr.imS i _ ei rfl
   obtain⟨C',⟨z1,z2,z3⟩,z4⟩:=hk x.cls (by simpa using qz)
   rw[e3] at z1;cases z1
   split at h
   .rename_i d ed
    rw[ed] at e5
    obtain⟨y,r,rfl,ry,rn⟩:=reps_cons.mp e5
    rw[reps_nil] at rn
    subst rn
    cases dx with
    |none=>have:=e4.1;rw[SY] at this;cases this
    |some d'=>
     refine⟨.ref a,e1,a,C,d',_,y,rfl,sr.sub _ _ e2,sr.sub _ _ e4.1,z2,z4,?_,Po.ret (R:=rV X.K) sr.sub h ry⟩
     rw[SY]
     simp[List.zip,List.lookup]
   .exact h.elim
  .exact h.elim
 .exact h.elim
end
def SR.ofS {K:Frag}{Hf H:Hp}{sd:Zf}{σ:L2.St}(e:Same Hf H)(hl:sd.length=σ.length)(hS:∀(i:Nat) (t:S),sd[i]?=some (some t)->t.own=false/\∃v,σ[i]?=some (some v)/\RepS K Hf t v):
  SR K H (λa=>Lv H a/\Hf a=none) Hf sd σ H:=
 ⟨e,Same.refl _,λ_ h=>h.2,λ_ h=>h.1,hl,λi t h _=>(hS i t h).2,λi t h ho=>(by rw[(hS i t h).1] at ho;cases ho),λi _ t _ _ _ h ho _ _ _ _=>(by rw[(hS i t h).1] at ho;cases ho)⟩
end DL
namespace DL
open PySem PySem.Spec PyProof.Rows L2
def ItK (t:Bool)(h:Heap)(i l:Addr)(k:Nat):Prop:=∃o,h.get? i=some o/\o.cls=.type (if t then "tuple_iterator" else "list_iterator")/\o.data=.fields #[.ref l,.int k 0]
def SqK (t:Bool)(h:Heap)(l:Addr)(xs:Array Value):Prop:=∃o,h.get? l=some o/\o.cls=.type (if t then "tuple" else "list")/\∃n,o.data=.seq xs n
def ItK.at {t:Bool}{h h':Heap}{i l:Addr}{k:Nat}(x:ItK t h i l k)(q:∀o,h.get? i=some o->h'.get? i=some o):ItK t h' i l k:=let ⟨o,e,r⟩:=x;⟨o,q o e,r⟩
def SqK.at {t:Bool}{h h':Heap}{l:Addr}{xs:Array Value}(x:SqK t h l xs)(q:∀o,h.get? l=some o->h'.get? l=some o):SqK t h' l xs:=let ⟨o,e,r⟩:=x;⟨o,q o e,r⟩
section
variable {prog:Program}{w:World}{A:Around}{E:Value->Shared->Prop}{s:Shared}
def Vm {t:Bool}{it l:Addr}{i:Nat}{xs:Array Value}{x:Value}{Q:Value->Shared->Prop}(hi:ItK t s.heap it l i)(hl:SqK t s.heap l xs)(hx:xs[i]?=some x)(hQ:∀h',ItK t h' it l (i+1)->Heap.SameBut it s.heap h'->Q x {s with heap:=h'}):wpAny (model prog w) A (Builtin.SmallTypes.nextOf (.ref it)) Q E s:=by
 cases t with
 |false=>exact wpAny_nextOf_list_item (show s.heap.IsListIter it l i from hi) (show s.heap.IsList l xs from hl) hx hQ
 |true=>
  obtain⟨o,ho,hc,hd⟩:=id hi
  obtain⟨ol,gG,_,nl,gg⟩:=hl
  have ty:s.TypeIs (.ref it) "tuple_iterator":=⟨o,ho,hc⟩
  unfold Builtin.SmallTypes.nextOf
  refine AA (CW (name:=Str.ofString "__next__") ty DO (DI DO ty GY ?_ (HC _)))
  refine AA (m:=field (.ref it) 0) (BV ho hd (x:=.ref l) rfl ?_)
  dsimp only
  rw[AD (λz:(Value.ref l==Value.none)=true=>AY z)]
  refine AA (m:=field (.ref it) 1) (BV ho hd (x:=.int i 0) rfl (AA (m:=seqItems? (.ref l)) (DT gG gg ?_)))
  simp only[HG,hx]
  refine AA (HA ho hd (by simp) (AE ⟨x,rfl,AE (hQ _ ⟨_,EF _ ho (GV (FT hd _)),(Obj.cls_mapFields ..).trans hc,?_⟩ (ET ..))⟩))
  rw[FT hd];simp[rawInt]
def Nj {t:Bool}{it l:Addr}{i:Nat}{xs:Array Value}{Q:Value->Shared->Prop}(hh:A.handled=none)(hi:ItK t s.heap it l i)(hl:SqK t s.heap l xs)(hx:xs[i]?=none)
  (hE:∀h' e,Heap.ExtBut it s.heap h'->(∃o,h'.get? e=some o/\o.cls=.type "StopIteration")->E (.ref e) {s with heap:=h'}):wpAny (model prog w) A (Builtin.SmallTypes.nextOf (.ref it)) Q E s:=by
 cases t with
 |false=>exact wpAny_nextOf_list_end hh (show s.heap.IsListIter it l i from hi) (show s.heap.IsList l xs from hl) hx hE
 |true=>
  obtain⟨o,ho,hc,hd⟩:=id hi
  obtain⟨ol,gG,_,nl,gg⟩:=hl
  have ty:s.TypeIs (.ref it) "tuple_iterator":=⟨o,ho,hc⟩
  unfold Builtin.SmallTypes.nextOf
  refine AA (CW (name:=Str.ofString "__next__") ty DO (DI DO ty GY ?_ (HC _)))
  refine AA (m:=field (.ref it) 0) (BV ho hd (x:=.ref l) rfl ?_)
  dsimp only
  rw[AD (λz:(Value.ref l==Value.none)=true=>AY z)]
  refine AA (m:=field (.ref it) 1) (BV ho hd (x:=.int i 0) rfl (AA (m:=seqItems? (.ref l)) (DT gG gg ?_)))
  simp only[HG,hx]
  refine AA (FR (AA (HA ho hd (by simp) (AA (m:=newExc (.type "StopIteration") []) ?_))))
  simp only[newExc,newTuple]
  refine AA (DC (AA (m:=firstArgMember _ _) (wpAny_of_eq (a:=Value.none) (by first|rfl|(simp only[firstArgMember];rfl)) (DC ?_ (by size_fits)))) (by size_fits))
  simp only[raiseNew]
  refine AA (wpAny_handled ?_)
  first|rw[show A.in1.handled=none from hh]|rw[hh]
  exact AA (AE (wpAny_throw (hE _ _ (((ET ..).extBut.push _).push _) ⟨_,AH _ rfl,rfl⟩)))
def Ao {t:Bool}{l:Addr}{xs:Array Value}{Q:Value->Shared->Prop}(hl:SqK t s.heap l xs)
  (hQ:Q (.ref s.heap.objs.size) {s with heap:=s.heap.push {cls:=.type (if t then "tuple_iterator" else "list_iterator"),data:=.fields #[.ref l,.int 0 0]}}):wpAny (model prog w) A (pyIter (.ref l)) Q E s:=by
 cases t with
 |false=>exact EG (show s.heap.IsList l xs from hl) hQ
 |true=>exact PyProof.Rows.iter_tuple (show IsTup s.heap l xs from hl) hQ
def Ov {t1 t2:Bool}{z TI TO i1 i2 l1 l2:Addr}{k1 k2:Nat}{xs ys:Array Value}{x y a b:Value}{Q:Value->Shared->Prop}(D:ZipApart z TI TO i1 i2 l1 l2)(yz:IsZip s.heap z TI TO .none)(yI:IsPair s.heap TI (.ref i1) (.ref i2))(yO:IsPair s.heap TO a b)(y1:ItK t1 s.heap i1 l1 k1)(y2:ItK t2 s.heap i2 l2 k2)(m1:SqK t1 s.heap l1 xs)(m2:SqK t2 s.heap l2 ys)(ex:xs[k1]?=some x)(ey:ys[k2]?=some y)(hQ:∀h',IsZip h' z TI TO (rawInt s.heap.objs.size)->IsPair h' TO x y->ItK t1 h' i1 l1 (k1+1)->ItK t2 h' i2 l2 (k2+1)->IsPair h' s.heap.objs.size x y->h'.objs.size=s.heap.objs.size+1->(∀c o,c≠z->c≠TO->c≠i1->c≠i2->s.heap.get? c=some o->h'.get? c=some o)->Q (.ref s.heap.objs.size) {s with heap:=h'}):
  wpAny (model prog w) A (Builtin.«zip.__next__» ⟨[.ref z],[]⟩) (λfin s'=>∃v,fin=.done (.ret v)/\Q v s') E s:=by
 refine AA (m:=field (.ref z) 2) (BV yz rfl (x:=.bool false) rfl (AA (m:=field (.ref z) 3) (BV yz rfl (x:=.ref TI) rfl (AA (DT yI rfl ?_)))))
 refine AA (m:=Builtin.SmallTypes.ownedTupleIsFree (.ref z)) ?_
 unfold Builtin.SmallTypes.ownedTupleIsFree
 refine AA (BV yz rfl (x:=.none) rfl (AE ?_));simp only[EB]
 refine AA (FR (AA (BV yz rfl (x:=.ref TO) rfl (AA (CJ yz (by simp) λh1 z1 e1=>AA ?_)))))
 have z1:IsZip h1 z TI TO .ellipsis:=z1
 simp only[LC,LN,HU,LW]
 refine AA (AA (HM (AA (m:=Builtin.SmallTypes.nextOf (.ref i1)) (Vm (s:={s with heap:=h1}) (y1.at λo q=>e1.extBut _ _ D.i1z q) (m1.at λo q=>e1.extBut _ _ D.l1z q) ex λh2 n1 e2=>AE ?_))))
 have o2:IsPair h2 TO a b:=e2.extBut _ _ D.TOi1 (e1.extBut _ _ D.TOz yO)
 refine AA (DT o2 rfl (AA (GZ o2 λh3 o3 e3=>AA (IJ (AE ?_)))))
 have o3:IsPair h3 TO x b:=o3
 refine AA (AA (HM (AA (m:=Builtin.SmallTypes.nextOf (.ref i2)) (Vm (s:={s with heap:=h3}) (y2.at λo q=>e3.extBut _ _ D.TOi2.symm (e2.extBut _ _ D.i12.symm (e1.extBut _ _ D.i2z q))) (m2.at λo q=>e3.extBut _ _ D.l2TO (e2.extBut _ _ D.l2i1 (e1.extBut _ _ D.l2z q))) ey λh4 n2 e4=>AE ?_))))
 have o4:IsPair h4 TO x b:=e4.extBut _ _ D.TOi2 o3
 refine AA (DT o4 rfl (AA (GZ o4 λh5 o5 e5=>AA (IJ (AE (AE ?_))))))
 have o5:IsPair h5 TO x y:=o5
 refine AA (DT o5 rfl (AA (HB ?_)))
 have sz:h5.objs.size=s.heap.objs.size:=by rw[e5.1,e4.1,e3.1,e2.1,e1.1]
 have z5:IsZip h5 z TI TO .ellipsis:=e5.extBut _ _ D.TOz.symm (e4.extBut _ _ D.i2z.symm (e3.extBut _ _ D.TOz.symm (e2.extBut _ _ D.i1z.symm z1)))
 have kk:∀c o,c≠z->c≠TO->c≠i1->c≠i2->s.heap.get? c=some o->h5.get? c=some o:=λc o c1 c2 c3 c4 q=>e5.extBut _ _ c2 (e4.extBut _ _ c4 (e3.extBut _ _ c2 (e2.extBut _ _ c3 (e1.extBut _ _ c1 q))))
 have f1:ItK t1 h5 i1 l1 (k1+1):=n1.at λo q=>e5.extBut _ _ D.TOi1.symm (e4.extBut _ _ D.i12 (e3.extBut _ _ D.TOi1.symm q))
 have f2:ItK t2 h5 i2 l2 (k2+1):=n2.at λo q=>e5.extBut _ _ D.TOi2.symm q
 have zl:z<h5.objs.size:=AJ z5
 refine AA (m:=Builtin.SmallTypes.ownedTupleHandOut (.ref z) (.ref h5.objs.size)) ?_
 unfold Builtin.SmallTypes.ownedTupleHandOut
 have z6:IsZip (h5.push {cls:=.type "tuple", data:=.seq #[x,y]}) z TI TO .ellipsis:=AB _ z5
 refine AA (CJ z6 (by simp) λh7 z7 e7=>?_)
 have z7:IsZip h7 z TI TO (rawInt h5.objs.size):=z7
 refine CJ z7 (by simp) λh8 z8 e8=>?_
 have z8:IsZip h8 z TI TO (rawInt h5.objs.size):=z8
 have up:∀c o,c≠z->h5.get? c=some o->h8.get? c=some o:=λc o c1 q=>e8.extBut _ _ c1 (e7.extBut _ _ c1 (AB _ q))
 have nz:h5.objs.size≠z:=DH zl
 have T8:IsPair h8 h5.objs.size x y:=e8.extBut _ _ nz (e7.extBut _ _ nz (AH _ rfl))
 have s8:h8.objs.size=h5.objs.size+1:=by rw[e8.1,e7.1,CU]
 refine AE ⟨_,rfl,?_⟩
 rw[sz] at z8 T8 s8
 have fin:=hQ h8 z8 (up _ _ D.TOz o5) (f1.at λo q=>up _ o D.i1z q) (f2.at λo q=>up _ o D.i2z q) T8 s8 λc o c1 c2 c3 c4 q=>up c o c1 (kk c o c1 c2 c3 c4 q)
 rw[<-sz] at fin
 exact fin
def Zb8 {t1 t2:Bool}{z TI TO i1 i2 l1 l2:Addr}{k1 k2:Nat}{xs ys:Array Value}{a b:Value}{Q:Fin->Shared->Prop}(hh:A.handled=none)(D:ZipApart z TI TO i1 i2 l1 l2)(yz:IsZip s.heap z TI TO .none)(yI:IsPair s.heap TI (.ref i1) (.ref i2))(yO:IsPair s.heap TO a b)(y1:ItK t1 s.heap i1 l1 k1)(y2:ItK t2 s.heap i2 l2 k2)(m1:SqK t1 s.heap l1 xs)(m2:SqK t2 s.heap l2 ys)(ZJ:xs[k1]?=none\/ys[k2]?=none)
  (hE:∀h' e,(∀c o,c≠z->c≠TO->c≠i1->c≠i2->s.heap.get? c=some o->h'.get? c=some o)->(∃o,h'.get? e=some o/\o.cls=.type "StopIteration")->E (.ref e) {s with heap:=h'}):
  wpAny (model prog w) A (Builtin.«zip.__next__» ⟨[.ref z],[]⟩) Q E s:=by
 refine AA (m:=field (.ref z) 2) (BV yz rfl (x:=.bool false) rfl (AA (m:=field (.ref z) 3) (BV yz rfl (x:=.ref TI) rfl (AA (DT yI rfl ?_)))))
 refine AA (m:=Builtin.SmallTypes.ownedTupleIsFree (.ref z)) ?_
 unfold Builtin.SmallTypes.ownedTupleIsFree
 refine AA (BV yz rfl (x:=.none) rfl (AE ?_));simp only[EB]
 refine AA (FR (AA (BV yz rfl (x:=.ref TO) rfl (AA (CJ yz (by simp) λh1 z1 e1=>AA ?_)))))
 have z1:IsZip h1 z TI TO .ellipsis:=z1
 simp only[LC,LN,HU,LW]
 refine AA (AA (HM (AA (m:=Builtin.SmallTypes.nextOf (.ref i1)) ?_)))
 have u1:=y1.at (h':=h1) λo q=>e1.extBut _ _ D.i1z q
 have v1:=m1.at (h':=h1) λo q=>e1.extBut _ _ D.l1z q
 cases hx:xs[k1]? with
 |none=>
  refine Nj (s:={s with heap:=h1}) hh u1 v1 hx λh2 e e2 he=>?_
  obtain⟨oe,q1,q2⟩:=he
  have z2:IsZip h2 z TI TO .ellipsis:=e2 _ _ D.i1z.symm z1
  have nz:e≠z:=λr=>by subst r;rw[z2] at q1;cases q1;simp at q2
  exact CJ z2 (by simp) λh3 _ e3=>hE h3 e (λc o c1 _ c3 _ r=>e3.extBut _ _ c1 (e2 _ _ c3 (e1.extBut _ _ c1 r))) ⟨oe,e3.extBut _ _ nz q1,q2⟩
 |some x=>
  have hy:ys[k2]?=none:=by
   rcases ZJ with q|q
   .rw[hx] at q;cases q
   .exact q
  refine Vm (s:={s with heap:=h1}) u1 v1 hx λh2 n1 e2=>AE ?_
  have o2:IsPair h2 TO a b:=e2.extBut _ _ D.TOi1 (e1.extBut _ _ D.TOz yO)
  refine AA (DT o2 rfl (AA (GZ o2 λh3 o3 e3=>AA (IJ (AE ?_)))))
  refine AA (AA (HM (AA (m:=Builtin.SmallTypes.nextOf (.ref i2)) (Nj (s:={s with heap:=h3}) hh (y2.at λo q=>e3.extBut _ _ D.TOi2.symm (e2.extBut _ _ D.i12.symm (e1.extBut _ _ D.i2z q))) (m2.at λo q=>e3.extBut _ _ D.l2TO (e2.extBut _ _ D.l2i1 (e1.extBut _ _ D.l2z q))) hy λh4 e e4 he=>?_))))
  obtain⟨oe,q1,q2⟩:=he
  have z4:IsZip h4 z TI TO .ellipsis:=e4 _ _ D.i2z.symm (e3.extBut _ _ D.TOz.symm (e2.extBut _ _ D.i1z.symm z1))
  have nz:e≠z:=λr=>by subst r;rw[z4] at q1;cases q1;simp at q2
  exact CJ z4 (by simp) λh5 _ e5=>hE h5 e (λc o c1 c2 c3 c4 r=>e5.extBut _ _ c1 (e4 _ _ c4 (e3.extBut _ _ c2 (e2.extBut _ _ c3 (e1.extBut _ _ c1 r))))) ⟨oe,e5.extBut _ _ nz q1,q2⟩
def D3 {t1 t2:Bool}{z TI TO i1 i2 l1 l2:Addr}{k1 k2:Nat}{xs ys:Array Value}{x y a b:Value}{Q:Option Value->Shared->Prop}(D:ZipApart z TI TO i1 i2 l1 l2)(yz:IsZip s.heap z TI TO .none)(yI:IsPair s.heap TI (.ref i1) (.ref i2))(yO:IsPair s.heap TO a b)(y1:ItK t1 s.heap i1 l1 k1)(y2:ItK t2 s.heap i2 l2 k2)(m1:SqK t1 s.heap l1 xs)(m2:SqK t2 s.heap l2 ys)(ex:xs[k1]?=some x)(ey:ys[k2]?=some y)(hQ:∀h',IsZip h' z TI TO (rawInt s.heap.objs.size)->IsPair h' TO x y->ItK t1 h' i1 l1 (k1+1)->ItK t2 h' i2 l2 (k2+1)->IsPair h' s.heap.objs.size x y->h'.objs.size=s.heap.objs.size+1->(∀c o,c≠z->c≠TO->c≠i1->c≠i2->s.heap.get? c=some o->h'.get? c=some o)->Q (some (.ref s.heap.objs.size)) {s with heap:=h'}):
  wpAny (model prog w) A (pyNext (.ref z)) Q E s:=by
 have ty:s.TypeIs (.ref z) "zip":=⟨_,yz,rfl⟩
 unfold pyNext
 exact AA (GI (CW (name:=Str.ofString "__next__") ty GT (DI GT ty F.entry_zip_next
  (Ov D yz yI yO y1 y2 m1 m2 ex ey λh' a1 a2 a3 a4 a5 a6 a7=>AE (hQ h' a1 a2 a3 a4 a5 a6 a7)) (F.args_zip_next_1 _))))
def Ow {t1 t2:Bool}{z TI TO i1 i2 l1 l2:Addr}{k1 k2:Nat}{xs ys:Array Value}{a b:Value}{Q:Option Value->Shared->Prop}(hh:A.handled=none)(D:ZipApart z TI TO i1 i2 l1 l2)(yz:IsZip s.heap z TI TO .none)(yI:IsPair s.heap TI (.ref i1) (.ref i2))(yO:IsPair s.heap TO a b)(y1:ItK t1 s.heap i1 l1 k1)(y2:ItK t2 s.heap i2 l2 k2)(m1:SqK t1 s.heap l1 xs)(m2:SqK t2 s.heap l2 ys)(ZJ:xs[k1]?=none\/ys[k2]?=none)(hQ:∀h',(∀c o,c≠z->c≠TO->c≠i1->c≠i2->s.heap.get? c=some o->h'.get? c=some o)->Q none {s with heap:=h'}):wpAny (model prog w) A (pyNext (.ref z)) Q E s:=by
 have ty:s.TypeIs (.ref z) "zip":=⟨_,yz,rfl⟩
 unfold pyNext
 refine AA (GI (CW (name:=Str.ofString "__next__") ty GT (DI GT ty F.entry_zip_next (Zb8 hh D yz yI yO y1 y2 m1 m2 ZJ λh' e hk he=>?_) (F.args_zip_next_1 _))))
 obtain⟨o,q1,q2⟩:=he
 exact AA (wpAny_isInstance (T:="StopIteration") (b:=true) ⟨o,q1,q2⟩ isSubtype_stop (AE (hQ _ hk)))
abbrev Ap (t:Bool)(l:Addr):Obj:={cls:=.type (if t then "tuple_iterator" else "list_iterator"),data:=.fields #[.ref l,.int 0 0]}
abbrev aD (t1 t2:Bool)(h:Heap)(l1 l2:Addr):Heap:=(h.push (Ap t1 l1)).push (Ap t2 l2)
abbrev dZ (t1 t2:Bool)(h:Heap)(l1 l2:Addr):Heap:=((aD t1 t2 h l1 l2).push {cls:=.type "tuple", data:=.seq #[.ref h.objs.size,.ref (h.push (Ap t1 l1)).objs.size]}).push {cls:=.type "tuple", data:=.seq #[.none,.none]}
abbrev aj (t1 t2:Bool)(h:Heap)(l1 l2:Addr):Heap:=(dZ t1 t2 h l1 l2).push {cls:=.type "zip", data:=.fields #[.none,.bool false,.bool false,.ref (aD t1 t2 h l1 l2).objs.size,.ref ((aD t1 t2 h l1 l2).push {cls:=.type "tuple", data:=.seq #[.ref h.objs.size,.ref (h.push (Ap t1 l1)).objs.size]}).objs.size]}
def tV (t1 t2:Bool)(l1 l2:Addr)(xs ys:Array Value):Meets (Builtin.«zip.__new__» ⟨[.type "zip", .ref l1,.ref l2],[]⟩) (λ_ R s=>SqK t1 s.heap l1 xs/\SqK t2 s.heap l2 ys/\R (.ok (.ret (.ref (dZ t1 t2 s.heap l1 l2).objs.size))) {s with heap:=aj t1 t2 s.heap l1 l2}):=
 .of_wp λprog w A R s h=>by
  obtain⟨hp,g,d,tk,os⟩:=s
  obtain⟨h1,h2,h⟩:=h
  have sb:=sub_zip
  have b1:SqK t1 (Shared.heap ⟨hp,g,d,tk,os⟩) l1 xs:=h1
  have b2:SqK t2 (Shared.heap ⟨hp.push (Ap t1 l1),g,d,tk,os⟩) l2 ys:=h2.at λo q=>AB _ q
  wp_walk using Ao b1,Ao b2
  exact⟨_,rfl,h⟩
def u6 {t1 t2:Bool}{l1 l2:Addr}{xs ys:Array Value}{Q:Value->Shared->Prop}(m1:SqK t1 s.heap l1 xs)(m2:SqK t2 s.heap l2 ys)(h:∀h',IsZip h' (s.heap.objs.size+4) (s.heap.objs.size+2) (s.heap.objs.size+3) .none->IsPair h' (s.heap.objs.size+2) (.ref s.heap.objs.size) (.ref (s.heap.objs.size+1))->IsPair h' (s.heap.objs.size+3) .none .none ->
   ItK t1 h' s.heap.objs.size l1 0->ItK t2 h' (s.heap.objs.size+1) l2 0->(∀c o,s.heap.get? c=some o->h'.get? c=some o)->Q (.ref (s.heap.objs.size+4)) {s with heap:=h'}):wpAny (model prog w) A (call (.type "zip") [.ref l1,.ref l2]) Q E s:=by
 refine callType_new F.called_zip (by decide) (F.typeCall_zip_2 _ _) (F.newCall_zip_2 _ _) (λobj=>F.args_object_init_3 obj _ _) F.entry_zip_new (tV t1 t2 l1 l2 xs ys) ⟨m1,m2,?_⟩
 have z1:(s.heap.push (Ap t1 l1)).objs.size=s.heap.objs.size+1:=CU ..
 have z2:(aD t1 t2 s.heap l1 l2).objs.size=s.heap.objs.size+2:=by rw[CU,z1]
 have z3:((aD t1 t2 s.heap l1 l2).push {cls:=.type "tuple", data:=.seq #[.ref s.heap.objs.size,.ref (s.heap.push (Ap t1 l1)).objs.size]}).objs.size=s.heap.objs.size+3:=by rw[CU,z2]
 have z4:(dZ t1 t2 s.heap l1 l2).objs.size=s.heap.objs.size+4:=by rw[CU,z3]
 have g5:(aj t1 t2 s.heap l1 l2).get? (dZ t1 t2 s.heap l1 l2).objs.size=some _:=AH _ rfl
 have g4:(aj t1 t2 s.heap l1 l2).get? ((aD t1 t2 s.heap l1 l2).push {cls:=.type "tuple", data:=.seq #[.ref s.heap.objs.size,.ref (s.heap.push (Ap t1 l1)).objs.size]}).objs.size=some {cls:=.type "tuple", data:=.seq #[.none,.none]}:=AB _ (AH _ rfl)
 have g3:(aj t1 t2 s.heap l1 l2).get? (aD t1 t2 s.heap l1 l2).objs.size=some {cls:=.type "tuple", data:=.seq #[.ref s.heap.objs.size,.ref (s.heap.push (Ap t1 l1)).objs.size]}:=AB _ (AB _ (AH _ rfl))
 have g2:(aj t1 t2 s.heap l1 l2).get? (s.heap.push (Ap t1 l1)).objs.size=some (Ap t2 l2):=AB _ (AB _ (AB _ (AH _ rfl)))
 have g1:(aj t1 t2 s.heap l1 l2).get? s.heap.objs.size=some (Ap t1 l1):=AB _ (AB _ (AB _ (AB _ (AH _ rfl))))
 show _/\_
 rw[z2,z3,z4] at g5
 rw[z1,z2] at g3
 rw[z3] at g4
 rw[z1] at g2
 rw[z4]
 exact⟨⟨_,g5,rfl⟩,h _ g5 g3 g4 ⟨_,g1,rfl,rfl⟩ ⟨_,g2,rfl,rfl⟩ λc o q=>AB _ (AB _ (AB _ (AB _ (AB _ q))))⟩
end
def R6 (t:Bool)(K:PySem.W.Frag)(H:Hp)(a:Addr)(xs:List V):Prop:=if t=true then SqT K H a xs else SqL K H a xs
def Kx {X:Cx}{pins:List (Addr×Obj)}{σ:L2.St}{H:Hp}{s:Shared}{t:Bool}{a:Addr}{xs:List V}(I:Inv X pins σ H s)(h:R6 t X.K H a xs):∃its:List Value,Vals xs its/\SqK t s.heap a its.toArray:=by
 cases t with
 |false=>
  obtain⟨its,rv,p,_⟩:=I.list (show SqL X.K H a xs from h)
  exact⟨its,rv,p.isList⟩
 |true=>
  obtain⟨its,rv,p,_⟩:=I.tuple (show SqT X.K H a xs from h)
  exact⟨its,rv,p⟩
def Fz {X:Cx}{pins:List (Addr×Obj)}{σ:L2.St}{H:Hp}{s:Shared}{t:Bool}{a:Addr}{xs ys:List V}(I:Inv X pins σ H s)(h:R6 t X.K H a xs)(h':R6 t X.K H a ys):xs=ys:=by
 cases t with
 |false=>exact I.list_inj (show SqL X.K H a xs from h) (show SqL X.K H a ys from h')
 |true=>exact I.tuple_inj (show SqT X.K H a xs from h) (show SqT X.K H a ys from h')
def Jp {K:PySem.W.Frag}{H H':Hp}{t:Bool}{a:Addr}{xs:List V}(e:Same H H')(h:R6 t K H a xs):R6 t K H' a xs:=by
 cases t with
 |false=>exact e.seq (show SqL K H a xs from h)
 |true=>exact e.seqT (show SqT K H a xs from h)
def iQ (t1 t2:Bool)(K:PySem.W.Frag)(a b:Addr):It:=
 ⟨λi H=>∃xs ys x y,R6 t1 K H a xs/\R6 t2 K H b ys/\xs[i]?=some x/\ys[i]?=some y,
  λi H v H'=>∃p x y,H p=none/\v=.ref p/\H'=upd H p (.tup [x,y])/\(∀xs,R6 t1 K H a xs->xs[i]?=some x)/\∀ys,R6 t2 K H b ys->ys[i]?=some y,
  λi H=>∃xs ys,R6 t1 K H a xs/\R6 t2 K H b ys/\(xs.length<=i\/ys.length<=i)⟩
abbrev sL (t1 t2:Bool)(a b z TI TO i1 i2:Addr)(i:Nat)(h:Heap):Prop:=IsZip h z TI TO .none/\IsPair h TI (.ref i1) (.ref i2)/\(∃p q,IsPair h TO p q)/\ItK t1 h i1 a i/\ItK t2 h i2 b i/\a<z/\b<z/\a≠TO/\b≠TO/\a≠i1/\a≠i2/\b≠i1/\b≠i2
def Ox {P:Program}{w:World}{K:PySem.W.Frag}{es:List Expr}{k:Nat}{pos:Pos}(t1 t2:Bool)(a b z TI TO i1 i2:Addr)(A:ZA z TI TO i1 i2):Turn P w K (.Tuple es k pos) (iQ t1 t2 K a b) [z,TI,TO,i1,i2] z (sL t1 t2 a b z TI TO i1 i2) where
 mem:=by simp
 obj:=λi h st c hc=>by
  obtain⟨hz,WR,⟨p,q,YB⟩,⟨o1,e1,c1,d1⟩,⟨o2,e2,c2,d2⟩,_⟩:=st
  simp at hc
  rcases hc with rfl|rfl|rfl|rfl|rfl
  .exact⟨_,hz,λv z=>by cases z⟩
  .exact⟨_,WR,λv z=>by cases z⟩
  .exact⟨_,YB,λv z=>by cases z⟩
  .exact⟨o1,e1,λv z=>by rw[d1] at z;cases z⟩
  .exact⟨o2,e2,λv z=>by rw[d2] at z;cases z⟩
 keep:=λi h h' st kk=>by
  obtain⟨hz,WR,⟨p,q,YB⟩,h1,h2,ap⟩:=st
  exact⟨kk z (by simp) _ hz,kk TI (by simp) _ WR,⟨p,q,kk TO (by simp) _ YB⟩,h1.at λo e=>kk i1 (by simp) o e,h2.at λo e=>kk i2 (by simp) o e,ap⟩
 item:=by
  intro X hP hw hK hc i pins s σ H E I hf st hg
  subst hP hw hK
  obtain⟨xs,ys,x,y,hq1,VQ,hx,hy⟩:=hg
  obtain⟨its1,rv1,p1⟩:=Kx I hq1
  obtain⟨its2,rv2,p2⟩:=Kx I VQ
  obtain⟨u1,pq,oW⟩:=rv1.get hx
  obtain⟨u2,pj,oV⟩:=rv2.get hy
  obtain⟨hz,WR,⟨p,q,YB⟩,h1,h2,w1,w2,w3,w4,w5,w6,w7,w8⟩:=id st
  have D:ZipApart z TI TO i1 i2 a b:=⟨A.TIz,A.TOz,A.i1z,A.i2z,A.TITO,A.TIi1,A.TIi2,A.TOi1,A.TOi2,A.i12,AI w1,w3,w5,w6,AI w2,w4,w7,w8⟩
  refine D3 D hz WR YB h1 h2 p1 p2 (x:=u1) (y:=u2) (by simpa using pq) (by simpa using pj) λh' a1 a2 a3 a4 a5 a6 a7=>⟨_,rfl,wpAny_letOwnedTupleGo_zip a1 λh'' b1 b2=>?_⟩
  have lt:∀{c o},s.heap.get? c=some o->c≠s.heap.objs.size:=λe=>AI (AJ e)
  have kk:∀b u,b ∉ [z,TI,TO,i1,i2]->s.heap.get? b=some u->h''.get? b=some u:=λb u nb q=>(b2.2 b (λz=>nb (by simp[z]))).trans (a7 b u (λz=>nb (by simp[z])) (λz=>nb (by simp[z])) (λz=>nb (by simp[z])) (λz=>nb (by simp[z])) q)
  have hT:h''.get? s.heap.objs.size=some {cls:=.type "tuple", data:=.seq #[u1,u2]}:=(b2.2 _ (CQ (lt hz))).trans a5
  refine⟨.ref s.heap.objs.size,_,I.turnedT (o:=.tup [x,y]) (t':=s.toks) hf kk (AO _) ⟨by show 2<=sizeLine;decide,[u1,u2],.cons oW (.cons oV .nil),⟨_,hT,rfl,_,rfl⟩⟩,rfl,
   ⟨_,x,y,I.fresh,rfl,rfl,λzs hy=>by rw[Fz I hy hq1];exact hx,λzs pY=>by rw[Fz I pY VQ];exact hy⟩,
   ⟨b1,(b2.2 TI A.TIz).trans (a7 _ _ A.TIz A.TITO A.TIi1 A.TIi2 WR),⟨u1,u2,(b2.2 TO A.TOz).trans a2⟩,a3.at λo q=>(b2.2 i1 A.i1z).trans q,a4.at λo q=>(b2.2 i2 A.i2z).trans q,w1,w2,w3,w4,w5,w6,w7,w8⟩,λb hb=>?_⟩
  have:b≠s.heap.objs.size:=by
   obtain⟨o1,e1,_⟩:=id h1
   obtain⟨o2,e2,_⟩:=id h2
   have RC:=hb
   simp at RC
   rcases RC with rfl|rfl|rfl|rfl|rfl
   .exact lt hz
   .exact lt WR
   .exact lt YB
   .exact lt e1
   .exact lt e2
  rw[Zl this];exact(hf b hb).1
 done:=by
  intro X hP hw hK hc i pins s σ H E I hf st hg
  subst hP hw hK
  obtain⟨xs,ys,hq1,VQ,hx⟩:=hg
  obtain⟨its1,rv1,p1⟩:=Kx I hq1
  obtain⟨its2,rv2,p2⟩:=Kx I VQ
  have j1:=rv1.length
  have j0:=rv2.length
  obtain⟨hz,WR,⟨p,q,YB⟩,h1,h2,w1,w2,w3,w4,w5,w6,w7,w8⟩:=id st
  have D:ZipApart z TI TO i1 i2 a b:=⟨A.TIz,A.TOz,A.i1z,A.i2z,A.TITO,A.TIi1,A.TIi2,A.TOi1,A.TOi2,A.i12,AI w1,w3,w5,w6,AI w2,w4,w7,w8⟩
  refine Ow (I.ok.hd hc) D hz WR YB h1 h2 p1 p2 ?_ λh' eb=>⟨rfl,I.turnedF (t':=s.toks) hf λb u nb q=>eb b u (λz=>nb (by simp[z])) (λz=>nb (by simp[z])) (λz=>nb (by simp[z])) (λz=>nb (by simp[z])) q⟩
  rcases hx with hx|hx
  .exact .inl (by simp;lia)
  .exact .inr (by simp;lia)
 self:=λ_ _ _ _ _ st h=>wpAny_pyIter_zip st.1 h
section
variable {X:Cx}{E:XK}{pos p p2:Pos}{es:List Expr}{k:Nat}
def sJ (t1 t2:Bool)(K:PySem.W.Frag)(tl:TA):TI:=λσ H R=>tl σ H λvs H1=>∃a b,vs=[.ref a,.ref b]/\(∃xs,R6 t1 K H1 a xs)/\(∃ys,R6 t2 K H1 b ys)/\R (iQ t1 t2 K a b) H1
def yu (t1 t2:Bool){l m:Expr}{tl:TA} (hg:Gl X "zip") (hm:X.mg "zip"=none) (hl:PA X [l,m] tl) (hs:starEach [l,m] X.env=[(false,eval l X.env),(false,eval m X.env)]:=by rfl) (hs2:starEach [m] X.env=[(false,eval m X.env)]:=by rfl):
  PI X (.Tuple es k p2) (.Call (.Name "zip" p) [l,m] [] pos) (sJ t1 t2 X.K tl):=by
 intro pins s σ H R I h
 refine Call_ (Gn I hg hm boot_zip (DX (Yf (hl pos pins s σ H _ I h) λus s1 ⟨vs,H1,I1,r1,q1⟩=>?_) (by rw[hs,hs2]) (by rw[hs2];rfl)))
 obtain⟨a,b,rfl,⟨xs,hq⟩,⟨ys,VQ⟩,q⟩:=q1
 obtain⟨u,w',rfl,rx,ry⟩:=jI r1
 cases rx
 cases ry
 obtain⟨its,rv,pl⟩:=Kx I1 hq
 obtain⟨its2,rv2,pl2⟩:=Kx I1 VQ
 refine u6 pl pl2 λh' e1 e2 e3 e4 e5 e7=>wpAny_pyIter_zip e1 ?_
 have I2:Inv X pins σ H1 {s1 with heap:=h'}:=I1.kept (t':=s1.toks) e7
 have la:a<s1.heap.objs.size:=by obtain⟨o,z,_⟩:=pl;exact AJ z
 have lb:b<s1.heap.objs.size:=by obtain⟨o,z,_⟩:=pl2;exact AJ z
 refine⟨s1.heap.objs.size+4,[s1.heap.objs.size+4,s1.heap.objs.size+2,s1.heap.objs.size+3,s1.heap.objs.size,s1.heap.objs.size+1],_,_,H1,rfl,I2,Ox t1 t2 a b (s1.heap.objs.size+4) (s1.heap.objs.size+2) (s1.heap.objs.size+3) s1.heap.objs.size (s1.heap.objs.size+1) (sO _),
  ⟨e1,e2,⟨_,_,e3⟩,e4,e5,AM la (FV _ _),AM lb (FV _ _),AI (AM la (FV _ _)),AI (AM lb (FV _ _)),AI la,AI (DY la),AI lb,AI (DY lb)⟩,λb hb=>?_,q⟩
 have hb:s1.heap.objs.size<=b:=by simp at hb;rcases hb with rfl|rfl|rfl|rfl|rfl<;>lia
 exact I1.fpOk hb (I1.hok.fresh hb)
def xD {t1 t2:Bool}{K:PySem.W.Frag}{Hf H:Hp}{a b:Addr}{xs ys:List V}{ds es:List D}(h:R6 t1 K Hf a xs)(r:Reps K Hf ds xs)(h':R6 t2 K Hf b ys)(r':Reps K Hf es ys):Pk K Hf H (eJ ds es) (iQ t1 t2 K a b):=by
 intro i MB H1 e1 e2
 have h2:=Jp e2 (Jp e1 h)
 have h3:=Jp e2 (Jp e1 h')
 rw[Zbu]
 cases q:ds[i]? with
 |none=>exact⟨xs,ys,h2,h3,.inl (BH.mp (r.none_of q))⟩
 |some d=>
  cases q':es[i]? with
  |none=>exact⟨xs,ys,h2,h3,.inr (BH.mp (r'.none_of q'))⟩
  |some e=>
   obtain⟨x,ex,rx⟩:=r.get q
   obtain⟨y,ey,ry⟩:=r'.get q'
   refine⟨⟨xs,ys,x,y,h2,h3,ex,ey⟩,λv H2 hy=>?_⟩
   obtain⟨p,x',y',hp,rfl,rfl,hall,bq⟩:=hy
   have aV:=hall xs h2
   rw[ex] at aV
   cases aV
   have dM:=bq ys h3
   rw[ey] at dM
   cases dM
   exact⟨_,Gr.alloc e2 hp _,Gr.tup e2 hp (Reps.cons (rx.mono e1) (Reps.cons (ry.mono e1) Reps.nil))⟩
end
end DL
namespace DL
open PySem PySem.Spec PyProof.Rows L2 PySem.W
def Aq (K:Frag)(C:Addr):Bool:=findIn K (.ref C) "__setattr__"== some (some (.builtin "object.__setattr__"))&&findIn K (.ref C) "__getattribute__"== some (some (.builtin "BaseException.__getattribute__")) &&
 findIn K (.ref C) "__getattr__"== some none&&hasDictIn K C&&(clsIn K C).any (λcd=>Wg cd.mro)
def F0 {K:Frag}{C:Addr}(h:Aq K C=true):OK K C:=by
 unfold Aq at h
 simp only[BC,CO] at h
 exact⟨h.1.1.1.1,h.1.1.1.2,h.1.1.2,h.1.2,h.2⟩
def Ar (K:Frag)(C:Addr):Bool:=findIn K (.ref C) "__class__"== some (some (.builtin "object.__class__"))&&specialIn K (.builtin "object.__class__") "__get__"== some (some (.builtin "getset_descriptor.__get__")) &&
 takesIn K (.builtin "object.__class__")==some true&&mroIn K C (.type "object")==some true
def yq {K:Frag}{C:Addr}(h:Ar K C=true):cX K C:=by
 unfold Ar at h
 simp only[BC,CO] at h
 exact⟨h.1.1.1,h.1.1.2,h.1.2,h.2⟩
def As (K:Frag)(C D:Addr):Bool:=subIn K (.ref C) (.ref D)==some true&&subIn K (.ref D) (.type "BaseException")==some true&&typeIn K (.ref D)==some (.type "type")&&instIn K (.ref D) (.type "type")==some true&&instIn K (.ref D) (.type "tuple")==some false
def yo {K:Frag}{C D:Addr}(h:As K C D=true):XS K C D:=by
 unfold As at h
 simp only[BC,CO] at h
 exact⟨h.1.1.1.1,h.1.1.1.2,h.1.1.2,h.1.2,h.2⟩
def U8 (s:Stmt)(j:Nat):Stmt:=match s with
 |.ClassDef _ _ _ body _ _ _ _ _ _ _=>body.getD j (.Pass ⟨0,0,0,0⟩)
 |_=>.Pass ⟨0,0,0,0⟩
def ym {K:Frag}{y:Str}{C:Addr}(h1:nsIn K mainGlobals y=some (some (.ref C)))(h2:Aq K C=true)(h3:Ar K C=true):VM K y C:=⟨h1,F0 h2,yq h3⟩
def nq {P:Str->Prop}{y:Str}(h:P y):∀z∈[y],P z:=λz hz=>by
 have:z=y:=by simpa using hz
 rw[this];exact h
def Au {X:Cx}{E:XK}{x:Str}{i:Int}{t:Tok}{pos:Pos}(hm:X.mg x=some (.int i t))(hg:Gl X x:=by rfl) (hd:(x==("__debug__":Str))=false:=by decide):Yt X E (.Name x pos) (eC (.int i)):=
 ⟨_,E8 (v:=.int i) hg hm ⟨t,rfl⟩ hd,λ_ _ _ _ _ _ _ sr h=>Po.ret sr.sub h (rep_int.mpr rfl)⟩
end DL
namespace DL
open PySem PySem.Spec PyProof.Rows L2
open AutoSeq1 (wpAny_loadPart')
section
variable {prog:Program}{w:World}{A:Around}{E:Value->Shared->Prop}{s:Shared}
def D4 {t:Bool}{e it l:Addr}{i:Nat}{xs:Array Value}{x old:Value}{Q:Value->Shared->Prop}(he:IsEnum s.heap e it i old)(hi:ItK t s.heap it l i)(hl:SqK t s.heap l xs)(hx:xs[i]?=some x)(ne:e≠it)
  (hQ:∀h',IsEnumOut h' e it ((i:Int)+1) x s.heap.objs.size->ItK t h' it l (i+1)->h'.get? s.heap.objs.size=some {cls:=.type "tuple", data:=.seq #[.int i s.toks,x]}->(∀b o,b≠e->b≠it->s.heap.get? b=some o->h'.get? b=some o)->Q (.ref s.heap.objs.size) {s with heap:=h',toks:=s.toks+1}):
  wpAny (model prog w) A (Builtin.«enumerate.__next__» ⟨[.ref e],[]⟩) (λfin s'=>∃v,fin=.done (.ret v)/\Q v s') E s:=by
 obtain⟨hp,g,d,tk,os⟩:=s
 refine AA (m:=field (.ref e) 2) (BV he rfl (x:=.ref it) rfl (AA (Vm hi hl hx λh1 n1 c1=>?_)))
 replace c1:Heap.SameBut it hp h1:=c1
 have b1:IsEnum h1 e it i old:=(c1.2 e ne).trans he
 refine AA (m:=field (.ref e) 3) (BV (s:=⟨h1,g,d,tk,os⟩) b1 rfl (x:=rawInt i) rfl (AA (m:=field (.ref e) 4) (BV (s:=⟨h1,g,d,tk,os⟩) b1 rfl (x:=.none) rfl ?_)))
 refine AA (m:=mkInt i) (wpAny_mkInt ?_)
 refine AA (m:=setField (.ref e) 3 (rawInt ((i:Int)+1))) (CJ (s:=⟨h1,g,d,tk+1,os⟩) b1 (by simp) λh2 b2 c2=>?_)
 replace c2:Heap.SameBut e h1 h2:=c2
 replace b2:IsEnum h2 e it ((i:Int)+1) old:=b2
 refine AA (m:=setField (.ref e) 4 .none) (CJ (s:=⟨h2,g,d,tk+1,os⟩) b2 (by simp) λh3 b3 c3=>?_)
 replace c3:Heap.SameBut e h2 h3:=c3
 replace b3:IsEnum h3 e it ((i:Int)+1) old:=b3
 refine AA (m:=newTuple [.int i tk,x]) (HB ?_)
 have sz:h3.objs.size=hp.objs.size:=by rw[c3.1,c2.1,c1.1]
 have el:e<hp.objs.size:=AJ he
 have ge:hp.objs.size≠e:=DH el
 have b4:IsEnum (h3.push {cls:=.type "tuple", data:=.seq #[.int i tk,x]}) e it ((i:Int)+1) old:=AB _ b3
 have t4:(h3.push {cls:=.type "tuple", data:=.seq #[.int i tk,x]}).get? hp.objs.size=some {cls:=.type "tuple", data:=.seq #[.int i tk,x]}:=by rw[<-sz];exact AH _ rfl
 have k4:∀b o,b≠e->b≠it->hp.get? b=some o->(h3.push {cls:=.type "tuple", data:=.seq #[.int i tk,x]}).get? b=some o:=λb o q1 q2 q=>AB _ (c3.extBut _ _ q1 (c2.extBut _ _ q1 (c1.extBut _ _ q2 q)))
 have n4:ItK t (h3.push {cls:=.type "tuple", data:=.seq #[.int i tk,x]}) it l (i+1):=n1.at λo q=>AB _ (c3.extBut _ _ ne.symm (c2.extBut _ _ ne.symm q))
 rw[sz]
 generalize (h3.push {cls:=.type "tuple", data:=.seq #[.int i tk,x]})=h4 at b4 t4 k4 n4
 refine AA (m:=Builtin.SmallTypes.ownedTupleIsFree (.ref e)) ?_
 unfold Builtin.SmallTypes.ownedTupleIsFree
 refine AA (BV (s:=⟨h4,g,d,tk+1,os⟩) b4 rfl (x:=.none) rfl (AE ?_))
 simp only[EB]
 refine AA (FR (AA (BV (s:=⟨h4,g,d,tk+1,os⟩) b4 rfl (x:=old) rfl (AA (CJ (s:=⟨h4,g,d,tk+1,os⟩) b4 (by simp) λh5 b5 c5=>?_)))))
 replace c5:Heap.SameBut e h4 h5:=c5
 replace b5:IsEnum h5 e it ((i:Int)+1) x:=b5
 refine AA (m:=Builtin.SmallTypes.ownedTupleHandOut (.ref e) (.ref hp.objs.size)) ?_
 unfold Builtin.SmallTypes.ownedTupleHandOut
 refine AA (CJ (s:=⟨h5,g,d,tk+1,os⟩) b5 (by simp) λh6 b6 c6=>?_)
 replace c6:Heap.SameBut e h5 h6:=c6
 replace b6:IsEnumOut h6 e it ((i:Int)+1) x hp.objs.size:=b6
 refine CJ (s:=⟨h6,g,d,tk+1,os⟩) b6 (by simp) λh7 b7 c7=>?_
 replace c7:Heap.SameBut e h6 h7:=c7
 replace b7:IsEnumOut h7 e it ((i:Int)+1) x hp.objs.size:=b7
 have up:∀b o,b≠e->h4.get? b=some o->h7.get? b=some o:=λb o q1 q=>c7.extBut _ _ q1 (c6.extBut _ _ q1 (c5.extBut _ _ q1 q))
 exact AA (IJ (AE ⟨_,rfl,hQ h7 b7 (n4.at λo q=>up _ _ ne.symm q) (up _ _ ge t4) λb o q1 q2 q=>up b o q1 (k4 b o q1 q2 q)⟩))
def D5 {t:Bool}{e it l:Addr}{i:Nat}{xs:Array Value}{x old:Value}{Q:Option Value->Shared->Prop}(he:IsEnum s.heap e it i old)(hi:ItK t s.heap it l i)(hl:SqK t s.heap l xs)(hx:xs[i]?=some x)(ne:e≠it)
  (hQ:∀h',IsEnumOut h' e it ((i:Int)+1) x s.heap.objs.size->ItK t h' it l (i+1)->h'.get? s.heap.objs.size=some {cls:=.type "tuple", data:=.seq #[.int i s.toks,x]}->(∀b o,b≠e->b≠it->s.heap.get? b=some o->h'.get? b=some o)->Q (some (.ref s.heap.objs.size)) {s with heap:=h',toks:=s.toks+1}):
  wpAny (model prog w) A (pyNext (.ref e)) Q E s:=by
 have ty:s.TypeIs (.ref e) "enumerate":=⟨_,he,rfl⟩
 unfold pyNext
 exact AA (GI (CW (name:=Str.ofString "__next__") ty FG (DI FG ty LI
  (D4 he hi hl hx ne λh' a b c d=>AE (hQ h' a b c d)) (KO _))))
def Oy {t:Bool}{e it l:Addr}{i:Nat}{xs:Array Value}{old:Value}{Q:Option Value->Shared->Prop}(hh:A.handled=none)(he:IsEnum s.heap e it i old)(hi:ItK t s.heap it l i)(hl:SqK t s.heap l xs)(hx:xs[i]?=none)(hQ:∀h',Heap.ExtBut it s.heap h'->Q none {s with heap:=h'}):wpAny (model prog w) A (pyNext (.ref e)) Q E s:=by
 have ty:s.TypeIs (.ref e) "enumerate":=⟨_,he,rfl⟩
 unfold pyNext
 refine AA (GI (CW (name:=Str.ofString "__next__") ty FG (DI FG ty LI ?_ (KO _))))
 refine AA (m:=field (.ref e) 2) (BV he rfl (x:=.ref it) rfl (AA (Nj hh hi hl hx λh' y q1 q2=>?_)))
 obtain⟨o,ho,hc⟩:=q2
 exact AA (wpAny_isInstance (T:="StopIteration") (b:=true) ⟨o,ho,hc⟩ isSubtype_stop (AE (hQ _ q1)))
abbrev ai (t:Bool)(h:Heap)(l:Addr):Heap:=(h.push (Ap t l)).push {cls:=.type "enumerate", data:=.fields #[.none,.bool false,.ref h.objs.size,rawInt 0,.none,.none]}
def tU (l:Addr)(xs:Array Value):Meets (Builtin.«enumerate.__new__» ⟨[.type "enumerate", .ref l],[]⟩) (λ_ R s=>SqK true s.heap l xs/\R (.ok (.ret (.ref (s.heap.push (Ap true l)).objs.size))) {s with heap:=ai true s.heap l}):=
 .of_wp λprog w A R s h=>by
  obtain⟨hp,g,d,tk,os⟩:=s
  obtain⟨h1,h⟩:=h
  have sb:=sub_enumerate
  obtain⟨o,hl,hc,n,hd⟩:=id h1
  have b1:SqK true (Shared.heap ⟨hp,g,d,tk,os⟩) l xs:=h1
  wp_walk using GS hl
  refine wpAny_stack_any λst=>AE ?_
  split
  .rename_i c _ _ _ _ _
   cases (c==Value.type "enumerate")
   .wp_walk using GS hl,Ao b1
    exact⟨_,rfl,h⟩
   .wp_walk using GS hl,Ao b1
    exact⟨_,rfl,h⟩
  .wp_walk using GS hl,Ao b1
   exact⟨_,rfl,h⟩
def u5 {l:Addr}{xs:Array Value}{Q:Value->Shared->Prop}(m1:SqK true s.heap l xs)(h:∀h',IsEnum h' (s.heap.objs.size+1) s.heap.objs.size 0 .none->ItK true h' s.heap.objs.size l 0->(∀c o,s.heap.get? c=some o->h'.get? c=some o)->Q (.ref (s.heap.objs.size+1)) {s with heap:=h'}):wpAny (model prog w) A (call (.type "enumerate") [.ref l]) Q E s:=by
 refine callType_new F.called_enumerate (by decide) (F.typeCall_enumerate_1 _) (F.newCall_enumerate_1 _) (λobj=>F.args_object_init_2 obj _) F.entry_enumerate_new (tU l xs) ⟨m1,?_⟩
 have z1:(s.heap.push (Ap true l)).objs.size=s.heap.objs.size+1:=CU ..
 have g2:(ai true s.heap l).get? (s.heap.push (Ap true l)).objs.size=some _:=AH _ rfl
 have g1:(ai true s.heap l).get? s.heap.objs.size=some (Ap true l):=AB _ (AH _ rfl)
 show _/\_
 rw[z1] at g2
 rw[z1]
 exact⟨⟨_,g2,rfl⟩,h _ g2 ⟨_,g1,rfl,rfl⟩ λc o q=>AB _ (AB _ q)⟩
end
def ij (K:PySem.W.Frag)(a:Addr):It:=
 ⟨λi H=>∃xs x,SqT K H a xs/\xs[i]?=some x,λi H x H'=>∃p y,H p=none/\x=.ref p/\H'=upd H p (.tup [.int i,y])/\∀xs,SqT K H a xs->xs[i]?=some y,λi H=>∃xs,SqT K H a xs/\xs.length<=i⟩
def D6 {P:Program}{w:World}{K:PySem.W.Frag}{es:List Expr}{k:Nat}{pos:Pos}(a e it:Addr)(hne:e≠it):Turn P w K (.Tuple es k pos) (ij K a) [e,it] e (λi h=>(∃old,IsEnum h e it (i:Nat) old)/\ItK true h it a i) where
 mem:=by simp
 obj:=λi h st b hb=>by
  obtain⟨⟨old,h1⟩,h2⟩:=st
  rcases AZ.mp hb with rfl|hb
  .exact⟨_,h1,λv z=>by cases z⟩
  .have eb:b=it:=by simpa using hb
   subst eb
   obtain⟨o,e,c,d⟩:=h2
   exact⟨o,e,λv z=>by rw[d] at z;cases z⟩
 keep:=λi h h' st kk=>by
  obtain⟨⟨old,h1⟩,h2⟩:=st
  exact⟨⟨old,kk e (by simp) _ h1⟩,h2.at λo q=>kk it (by simp) o q⟩
 item:=by
  intro X hP hw hK hc i pins s σ H E I hf st hg
  subst hP hw hK
  obtain⟨⟨old,h1⟩,h2⟩:=st
  obtain⟨xs,x,hq,hx⟩:=hg
  obtain⟨its,rv,p,hz⟩:=I.tuple hq
  obtain⟨u,hu,ru⟩:=rv.get hx
  refine D5 h1 h2 (show SqK true s.heap a its.toArray from p) (x:=u) (by simpa using hu) hne λh' a1 a2 a3 a5=>⟨_,rfl,wpAny_letOwnedTupleGo_enum a1 λh'' b1 b2=>?_⟩
  have ge:e≠s.heap.objs.size:=AI (AJ h1)
  have kk:∀b u,b ∉ [e,it]->s.heap.get? b=some u->h''.get? b=some u:=λb u nb q=>(b2.2 b (λz=>nb (by simp[z]))).trans (a5 b u (λz=>nb (by simp[z])) (λz=>nb (by simp[z])) q)
  have hT:h''.get? s.heap.objs.size=some {cls:=.type "tuple", data:=.seq #[.int i s.toks,u]}:=(b2.2 _ (CQ ge)).trans a3
  have rJ:it≠s.heap.objs.size:=by obtain⟨o,e,_⟩:=id h2;exact AI (AJ e)
  refine⟨.ref s.heap.objs.size,_,I.turnedT (o:=.tup [.int i,x]) (t':=s.toks+1) hf kk (AO _) ⟨by show 2<=sizeLine;decide,[.int i s.toks,u],.cons ⟨_,rfl⟩ (.cons ru .nil),⟨_,hT,rfl,_,rfl⟩⟩,rfl,
   ⟨_,x,I.fresh,rfl,rfl,λys hy=>by rw[I.tuple_inj hy hq];exact hx⟩,⟨⟨u,by simpa using b1⟩,a2.at λo q=>(b2.2 it (CQ hne)).trans q⟩,λb hb=>?_⟩
  have:b≠s.heap.objs.size:=by
   rcases AZ.mp hb with rfl|hb
   .exact ge
   .have eb:b=it:=by simpa using hb
    subst eb;exact rJ
  rw[Zl this];exact(hf b hb).1
 done:=by
  intro X hP hw hK hc i pins s σ H E I hf st hg
  subst hP hw hK
  obtain⟨⟨old,h1⟩,h2⟩:=st
  obtain⟨xs,hq,hx⟩:=hg
  obtain⟨its,rv,p,hz⟩:=I.tuple hq
  have hl:=rv.length
  exact Oy (I.ok.hd hc) h1 h2 (show SqK true s.heap a its.toArray from p) (by simp;lia) λh' eb=>⟨rfl,I.turnedF (t':=s.toks) hf λb u nb q=>eb b u (λz=>nb (by simp[z])) q⟩
 self:=λ_ _ _ _ _ st h=>let ⟨⟨_,h1⟩,_⟩:=st;wpAny_pyIter_enum h1 h
section
variable {X:Cx}{E:XK}{pos p p2:Pos}{es:List Expr}{k:Nat}
def tS (K:PySem.W.Frag)(tl:TA):TI:=λσ H R=>tl σ H λvs H1=>∃a,vs=[.ref a]/\(∃xs,SqT K H1 a xs)/\R (ij K a) H1
def Zca {l:Expr}{tl:TA} (hg:Gl X "enumerate") (hm:X.mg "enumerate"=none) (hl:PA X [l] tl) (hs:starEach [l] X.env=[(false,eval l X.env)]:=by rfl):PI X (.Tuple es k p2) (.Call (.Name "enumerate" p) [l] [] pos) (tS X.K tl):=by
 intro pins s σ H R I h
 refine Call_ (Gn I hg hm boot_enumerate (DX (Yf (hl pos pins s σ H _ I h) λus s1 ⟨vs,H1,I1,r1,q1⟩=>?_) hs rfl))
 obtain⟨a,rfl,⟨xs,hq⟩,q⟩:=q1
 obtain⟨u,rfl,rx⟩:=Vx r1
 cases rx
 obtain⟨its,rv,pl,hz⟩:=I1.tuple hq
 refine u5 (show SqK true s1.heap a its.toArray from pl) λh' e1 e2 e4=>wpAny_pyIter_enum e1 ?_
 have I2:Inv X pins σ H1 {s1 with heap:=h'}:=I1.kept (t':=s1.toks) e4
 refine⟨s1.heap.objs.size+1,[s1.heap.objs.size+1,s1.heap.objs.size],_,_,H1,rfl,I2,D6 a (s1.heap.objs.size+1) s1.heap.objs.size (Nat.succ_ne_self _),⟨⟨_,by simpa using e1⟩,e2⟩,λb hb=>?_,q⟩
 have hb:s1.heap.objs.size<=b:=by simp at hb;rcases hb with rfl|rfl<;>lia
 exact I1.fpOk hb (I1.hok.fresh hb)
def nR (fs:Zf->M (List D))(sd:Zf):M (List D):=(fs sd).bind λds=>match ds with
 |[.tup xs]=>.ok (Rz 0 xs)
 |_=>.bad
def yj {K:PySem.W.Frag}{Hf H:Hp}{a:Addr}{xs:List V}{ds:List D}(h:SqT K Hf a xs)(r:Reps K Hf ds xs):Pk K Hf H (Rz 0 ds) (ij K a):=by
 intro i MB H1 e1 e2
 have h2:=e2.seqT (e1.seqT h)
 rw[T6]
 cases q:ds[i]? with
 |some d=>
  obtain⟨x,ex,rx⟩:=r.get q
  refine⟨⟨xs,x,h2,ex⟩,λy H2 hy=>?_⟩
  obtain⟨p,y',hp,rfl,rfl,hall⟩:=hy
  have ey:=hall xs h2
  rw[ex] at ey
  cases ey
  exact⟨_,Gr.alloc e2 hp _,Gr.tup e2 hp (Reps.cons (rep_int.mpr (by simp)) (Reps.cons (rx.mono e1) Reps.nil))⟩
 |none=>exact⟨xs,h2,BH.mp (r.none_of q)⟩
def Oz {l:Expr}{fs:Zf->M (List D)} (hg:Gl X "enumerate") (hm:X.mg "enumerate"=none) (h:S2 X E [l] fs) (hs:starEach [l] X.env=[(false,eval l X.env)]:=by rfl):ar X E (.Tuple es k p2) (.Call (.Name "enumerate" p) [l] [] pos) (nR fs):=by
 obtain⟨t,pt,q⟩:=h
 refine⟨_,Zca hg hm pt hs,λH0 B Hf sd σ H R sr h=>?_⟩
 refine q H0 B Hf sd σ H _ sr (Po.bind h λds vs MB H1 _ g1 rs h1=>?_)
 split at h1
 .rename_i xs
  obtain⟨v,rfl,rv⟩:=Jw rs
  obtain⟨a,ys,rfl,ha,hr⟩:=Qg rv
  exact⟨a,rfl,⟨ys,g1.sub.seqT ha⟩,Po.ret (R:=Pk X.K) g1.sub h1 (yj ha hr)⟩
 .exact h1.elim
end
end DL
namespace DL
open PySem PySem.Spec PyProof.Rows L2 PySem.W
def S8 (q:Nat->Nat->Option Bool){α:Type}:KasT α->Option α
 |.ret a=>some a
 |.ask i j k=>match q i j with
  |some b=>S8 q (k b)
  |none=>none
theorem F1 {q:Nat->Nat->Option Bool}{cmp:Nat->Nat->(Bool->Shared->Prop)->Shared->Prop}{α:Type}{Q:α->Shared->Prop}{s:Shared}{a:α}(hc:∀i j b C,q i j=some b->C b s->cmp i j C s):∀t:KasT α,S8 q t=some a->Q a s->t.kasWp cmp Q s
 |.ret b,e,h=>by
  cases (BD (show some b=some a from e))
  exact h
 |.ask i j k,e,h=>by
  unfold S8 at e
  cases z:q i j with
  |none=>rw[z] at e;cases e
  |some b=>
   rw[z] at e
   exact hc i j b _ z (F1 hc (k b) e h)
def iP:V->V->Option Bool
 |.int a,.int b=>some (decide (a<b))
 |.str a,.str b=>some (decide (a.cps.toList<b.cps.toList))
 |_,_=>none
def dY:V->V->Option Bool
 |.int a,.int b=>some (a==b)
 |.str a,.str b=>some (a==b)
 |_,_=>none
def dX:List V->List V->Option Bool
 |[],[]=>some false
 |x::xs,y::ys=>match dY x y with
  |some true=>dX xs ys
  |some false=>iP x y
  |none=>none
 |_,_=>none
section
variable {prog:Program}{w:World}{A:Around}{E:Value->Shared->Prop}{s:Shared}
def xC {x y:V}{u v:Value}{b:Bool}{Q:Bool->Shared->Prop}(h:dY x y=some b)(rx:RelV x u)(ry:RelV y v)(q:Q b s):wpAny (model prog w) A (eqBool u v) Q E s:=by
 unfold dY at h
 split at h
 .obtain⟨t,rfl⟩:=rx
  obtain⟨t',rfl⟩:=ry
  cases h
  exact wpAny_eqBool_int q
 .obtain⟨t,rfl⟩:=rx
  obtain⟨t',rfl⟩:=ry
  cases h
  exact PyProof.Rows.eqBool_str q
 .cases h
def xB {o:Bool}{x y:V}{u v:Value}{b:Bool}{Q:Bool->Shared->Prop}(h:iP x y=some b)(rx:RelV x u)(ry:RelV y v)(q:Q b s):wpAny (model prog w) A (oneLt' o u v) Q E s:=by
 unfold iP at h
 split at h
 .obtain⟨t,rfl⟩:=rx
  obtain⟨t',rfl⟩:=ry
  cases h
  cases o with
  |true=>exact oneLt_int q
  |false=>exact kat_one _ _ (PyProof.Rows.lt_int q)
 .obtain⟨t,rfl⟩:=rx
  obtain⟨t',rfl⟩:=ry
  cases h
  cases o with
  |true=>exact PyProof.Rows.oneLt_str q
  |false=>exact kat_one _ _ (PyProof.Rows.lt_str q)
 .cases h
theorem nQ {o:Bool}{r:Bool}{Q:Bool->Shared->Prop}:∀{xs ys:List V}{us vs:List Value} (i:Nat),dX xs ys=some r->Vals xs us->Vals ys vs->Q r s->KatLex prog w A o false Q (us.zip vs) i s
 |[],[],_,_,i,h,.nil,.nil,q=>by
  cases (BD (show some false=some r from h))
  exact kat_nil q
 |x::xs,y::ys,_,_,i,h,.cons rx r1,.cons ry r2,q=>by
  unfold dX at h
  refine kat_cons ?_
  cases z:dY x y with
  |none=>rw[z] at h;cases h
  |some b=>
   rw[z] at h
   refine xC z rx ry ?_
   cases b with
   |true=>exact kat_yes (nQ (i+1) h r1 r2 q)
   |false=>exact kat_no (xB h rx ry q)
 |[],_::_,_,_,_,h,_,_,_=>by cases h
 |_::_,[],_,_,_,h,_,_,_=>by cases h
def D7 {a:Addr}{vs:List Value}{n:Nat}{κ:SortKind}{q:Nat->Nat->Option Bool}{p:Array Nat}{P:Fin->Shared->Prop} (ho:s.heap.get? a=some (seqObj "list" vs.toArray n)) (h2:2<=vs.length) (dI:vs.length<64)
  (hk:∀h',(∀b o,b≠a->s.heap.get? b=some o->h'.get? b=some o)->∀Q:SortKind->Shared->Prop,Q κ {s with heap:=h'}->wpAny (model prog w) A (keyKind' vs.toArray) Q E {s with heap:=h'})
  (hq:∀h',(∀b o,b≠a->s.heap.get? b=some o->h'.get? b=some o)->∀i j b (C:Bool->Shared->Prop),q i j=some b->C b {s with heap:=h'}->kas_ask prog w A κ vs i j C {s with heap:=h'})
  (hp:S8 q (kas_sort vs.length)=some p) (h:p.size=vs.length->P (.done (.ret .none)) {s with heap:=sortedHeap s.heap a vs (p.toList.map λi=>vs.getD i Value.none).toArray}):
  wpAny (model prog w) A (Builtin.«list.sort» ⟨[.ref a],[]⟩) P E s:=by
 have la:a<s.heap.objs.size:=AJ ho
 obtain⟨e1,bT⟩:∃e1,(s.heap.update a (Obj.mapSeq λ_=>#[])).get? a=some (seqObj "list" #[] e1):=⟨_,LL ho λ_=>#[]⟩
 have keep:∀b o,b≠a->s.heap.get? b=some o->(((s.heap.update a (Obj.mapSeq λ_=>#[])).push (seqObj "tuple" vs.toArray 0)).push (seqObj "list" #[] 0)).get? b=some o:=
  λb o nb e=>AB _ (AB _ ((CD _ _ (CQ nb)).trans e))
 have bS:(((s.heap.update a (Obj.mapSeq λ_=>#[])).push (seqObj "tuple" vs.toArray 0)).push (seqObj "list" #[] 0)).get? a=some (seqObj "list" #[] e1):=AB _ (AB _ bT)
 have z1:vs.toArray.size<=sizeLine:=by rw[AL,CH];lia
 have n2:¬vs.toArray.size<2:=by rw[AL];lia
 rw[list_sort_plain]
 refine AA (JQ ho rfl (AA (GX ho rfl (AA (KS bT rfl (AA (HB (AA (GH (BY ?_) (CI _))) (by simpa using z1))))) z1 (CI _))))
 dsimp only
 rw[AD n2,AD n2]
 refine AA (hk _ keep _ ?_)
 have hz:(vs.toArray.zip vs.toArray)=pairsOf vs:=rfl
 refine AA (CB (kat_run (ks:=vs) (vs:=vs) (κ:=κ) (Q:=λRX s'=>p.size=vs.length/\arrOf RX=p.map (kas_item (vs.toArray.zip vs.toArray))/\failedOf RX=none/\s'=_) (G:=λp' s'=>p'=p/\s'=_) rfl h2 dI
  (λp' RX s' a1 a2 a3 a4=>by obtain⟨rfl,e⟩:=a4;exact⟨a1,a2,a3,e⟩) (F1 (hq _ keep) _ hp ⟨rfl,rfl⟩)) ?_ λ_ _ x=>x)
 rintro⟨⟨⟩,RX⟩ s' ⟨zz,rD,hf,rfl⟩
 dsimp only
 have bO:=kat_snds (ks:=vs) (vs:=vs) rfl rD
 refine AA (KS bS rfl (AA (GX bS rfl ?_ (CI _) (by rw[bO,AL,BM,EK,zz,CH];lia))))
 rw[hf]
 simp only[KH,CS,DQ]
 rw[bO]
 exact AE (h zz)
def Av {t:Bool}{l:Addr}{vs:List Value}{Q:List Value->Shared->Prop}(hl:SqK t s.heap l vs.toArray) (h:Q vs {s with heap:=(s.heap.push (seqObj "list" #[] 0)).update s.heap.objs.size (Obj.mapSeq (·++vs.toArray))}) (hz:vs.length<=sizeLine):
  wpAny (model prog w) A (collect (.ref l)) Q E s:=by
 cases t with
 |false=>exact collect_list (show s.heap.IsList l vs.toArray from hl) h hz
 |true=>
  obtain⟨o,ho,hc,n,hd⟩:=id hl
  have UU:(s.heap.push (seqObj "list" #[] 0)).get? l=some o:=AB _ ho
  have hn:(s.heap.push (seqObj "list" #[] 0)).get? s.heap.objs.size=some (seqObj "list" #[] 0):=AH _ rfl
  unfold collect
  refine AA (wpAny_runValue (codeAny_builtin entry_proto_collect' (AA (m:=newList []) (GH (AE ⟨HV _ (by decide +kernel),codeAny_builtin entry_list_iadd' ?_⟩)))))
  change wpAny _ _ (Builtin.List.listExtendWith _ _ _) _ _ _
  unfold Builtin.List.listExtendWith
  refine AA (KQ (T:="tuple") ⟨o,UU,hc⟩ ?_)
  have ht:(Value.type "tuple"== Value.type "tuple")=true:=by rfl
  rw[AC (by rw[ht];simp)]
  refine AA (JQ UU hd (AA (JQ hn rfl ?_)))
  rw[AD (by simp)]
  refine AA (GX hn rfl (AE ?_) (CI _) (by show(#[]++vs.toArray).size<=_;simp only[Array.size_append,AL,FF];lia))
  change wpAny _ _ (do
   let o <-load s.heap.objs.size
   match o.data with
   |.seq xs _=>pure xs.toList
   |_=>unsupported "internal:collect") Q E _
  refine AA (wpAny_load (LL hn _) ?_)
  change wpAny _ _ (pure ((#[]:Array Value)++vs.toArray).toList) Q E _
  have e0:((#[]:Array Value)++vs.toArray).toList=vs:=by simp
  rw[e0]
  exact AE h
def yg {t:Bool}{l:Addr}{vs:List Value}{κ:SortKind}{q:Nat->Nat->Option Bool}{p:Array Nat}{Q:Value->Shared->Prop}(hl:SqK t s.heap l vs.toArray)(h2:2<=vs.length)(dI:vs.length<64)(hk:∀A' E' h',(∀b o,s.heap.get? b=some o->h'.get? b=some o)->∀Q:SortKind->Shared->Prop,Q κ {s with heap:=h'}->wpAny (model prog w) A' (keyKind' vs.toArray) Q E' {s with heap:=h'})(hq:∀A' h',(∀b o,s.heap.get? b=some o->h'.get? b=some o)->∀i j b (C:Bool->Shared->Prop),q i j=some b->C b {s with heap:=h'}->kas_ask prog w A' κ vs i j C {s with heap:=h'})(hp:S8 q (kas_sort vs.length)=some p)(h:p.size=vs.length->Q (.ref (s.heap.objs.size+1)) {s with heap:=sortedAll s.heap vs (p.toList.map λi=>vs.getD i Value.none).toArray}):
  wpAny (model prog w) A (call (.builtin "sorted") [.ref l]) Q E s:=by
 have z1:vs.length<=sizeLine:=by rw[CH];lia
 refine JW kind_sorted plain_sorted entry_sorted (args_sorted1 _) ?_
 unfold Builtin.«sorted»
 refine AA (m:=checkCount "sorted" 1 1 _) (AE (AA (Av hl (AA (GH ?_ z1)) z1)))
 have hsz:((s.heap.push (seqObj "list" #[] 0)).update s.heap.objs.size (Obj.mapSeq (·++vs.toArray))).objs.size=s.heap.objs.size+1:=(Heap.size_update ..).trans (size_push' ..)
 have ZC:(((s.heap.push (seqObj "list" #[] 0)).update s.heap.objs.size (Obj.mapSeq (·++vs.toArray))).push (seqObj "list" vs.toArray 0)).get? (s.heap.objs.size+1)=some (seqObj "list" vs.toArray 0):=hsz▸AH _ rfl
 have keep:∀b o,s.heap.get? b=some o->(((s.heap.push (seqObj "list" #[] 0)).update s.heap.objs.size (Obj.mapSeq (·++vs.toArray))).push (seqObj "list" vs.toArray 0)).get? b=some o:=λb o e=>
  AB _ ((CD _ _ (DH (AJ e))).trans (AB _ e))
 have nb:∀b o,s.heap.get? b=some o->b≠s.heap.objs.size+1:=λb o e=>AI (DY (AJ e))
 change wpAny _ _ _ _ _ {s with heap:=((s.heap.push (seqObj "list" #[] 0)).update s.heap.objs.size (Obj.mapSeq (·++vs.toArray))).push (seqObj "list" vs.toArray 0)}
 rw[hsz]
 refine AA (BY (DI slot_list_sort ⟨_,ZC,rfl⟩ entry_list_sort (D7 (κ:=κ) (q:=q) (p:=p) ZC h2 dI (λh' e Q hQ=>hk _ _ h' (λb o z=>e b o (nb b o z) (keep b o z)) Q hQ)
  (λh' e=>hq _ h' λb o z=>e b o (nb b o z) (keep b o z)) hp λhz=>⟨_,rfl,AE ⟨_,rfl,h hz⟩⟩) (args_list_sort _)))
def D8 {a:Addr}{vs:List Value}{n:Nat}{P:Fin->Shared->Prop} (ho:s.heap.get? a=some (seqObj "list" vs.toArray n)) (h2:vs.length<2)
  (h:P (.done (.ret .none)) {s with heap:=sortedHeap s.heap a vs vs.toArray}):wpAny (model prog w) A (Builtin.«list.sort» ⟨[.ref a],[]⟩) P E s:=by
 obtain⟨e1,bT⟩:∃e1,(s.heap.update a (Obj.mapSeq λ_=>#[])).get? a=some (seqObj "list" #[] e1):=⟨_,LL ho λ_=>#[]⟩
 have bS:(((s.heap.update a (Obj.mapSeq λ_=>#[])).push (seqObj "tuple" vs.toArray 0)).push (seqObj "list" #[] 0)).get? a=some (seqObj "list" #[] e1):=AB _ (AB _ bT)
 have z1:vs.toArray.size<=sizeLine:=by rw[AL,CH];lia
 rw[list_sort_plain]
 refine AA (JQ ho rfl (AA (GX ho rfl (AA (KS bT rfl (AA (HB (AA (GH (BY ?_) (CI _))) (by simpa using z1))))) z1 (CI _))))
 dsimp only
 have n2:vs.toArray.size<2:=by rw[AL];exact h2
 rw[AC n2,AC n2]
 refine AA (AE ?_)
 rw[StateT.run_pure]
 refine AA (AE ?_)
 dsimp only
 have eo:(vs.toArray.zip vs.toArray).map (·.2)=vs.toArray:=by
  apply Array.toList_inj.mp
  rw[Array.toList_map,Array.toList_zip,List.map_snd_zip]
  lia
 refine AA (KS bS rfl (AA (GX bS rfl ?_ (CI _) (by show((vs.toArray.zip vs.toArray).map (·.2)).size<=_;rw[eo];lia))))
 simp only[KH,CS,DQ]
 change wpAny _ _ (ret .none) _ _ {s with heap:=sortedHeap s.heap a vs ((vs.toArray.zip vs.toArray).map (·.2))}
 rw[eo]
 exact AE h
def yb {t:Bool}{l:Addr}{vs:List Value}{Q:Value->Shared->Prop}(hl:SqK t s.heap l vs.toArray)(h2:vs.length<2)(h:Q (.ref (s.heap.objs.size+1)) {s with heap:=sortedAll s.heap vs vs.toArray}):
  wpAny (model prog w) A (call (.builtin "sorted") [.ref l]) Q E s:=by
 have z1:vs.length<=sizeLine:=by rw[CH];lia
 refine JW kind_sorted plain_sorted entry_sorted (args_sorted1 _) ?_
 unfold Builtin.«sorted»
 refine AA (m:=checkCount "sorted" 1 1 _) (AE (AA (Av hl (AA (GH ?_ z1)) z1)))
 have hsz:((s.heap.push (seqObj "list" #[] 0)).update s.heap.objs.size (Obj.mapSeq (·++vs.toArray))).objs.size=s.heap.objs.size+1:=(Heap.size_update ..).trans (size_push' ..)
 have ZC:(((s.heap.push (seqObj "list" #[] 0)).update s.heap.objs.size (Obj.mapSeq (·++vs.toArray))).push (seqObj "list" vs.toArray 0)).get? (s.heap.objs.size+1)=some (seqObj "list" vs.toArray 0):=hsz▸AH _ rfl
 change wpAny _ _ _ _ _ {s with heap:=((s.heap.push (seqObj "list" #[] 0)).update s.heap.objs.size (Obj.mapSeq (·++vs.toArray))).push (seqObj "list" vs.toArray 0)}
 rw[hsz]
 exact AA (BY (DI slot_list_sort ⟨_,ZC,rfl⟩ entry_list_sort (D8 ZC h2 ⟨_,rfl,AE ⟨_,rfl,h⟩⟩) (args_list_sort _)))
end
def Pb:List V->Bool
 |.str _::_=>true
 |_=>false
def Pc:List V->Bool
 |.int _::_=>true
 |_=>false
def RowsH (h:Heap):List Value->List (List V)->Prop:=Paired λu y=>∃a us,u=Value.ref a/\IsTup h a us.toArray/\Vals y us
def RowsH.mono {h h':Heap}{us:List Value}{ys:List (List V)}(k:∀b o,h.get? b=some o->h'.get? b=some o)(r:RowsH h us ys):RowsH h' us ys:=
 Paired.mapP r λu y q=>by
  obtain⟨a,vs,e,⟨o,e1,e2⟩,e3⟩:=q
  exact⟨a,vs,e,⟨o,k _ _ e1,e2⟩,e3⟩
theorem RowsH.firstS {h:Heap}:∀{us:List Value}{ys:List (List V)},RowsH h us ys->ys.all Pb=true->∃fs,KatTups h us fs/\(∀v∈fs,∃x t,v=Value.str x t)/\fs.length=us.length
 |_,_,.nil,_=>⟨[],KatTups.nil,λv hv=>(by cases hv),rfl⟩
 |_,y::ys,.cons q r,hs=>by
  rw[DV,BC] at hs
  obtain⟨fs,k1,k2,k3⟩:=RowsH.firstS r hs.2
  obtain⟨a,vs,rfl,⟨o,e1,e2,n,e3⟩,e4⟩:=q
  cases y with
  |nil=>simp[Pb] at hs
  |cons z y=>
   cases z with
   |str x=>
    cases e4 with
    |cons rx rr=>
     obtain⟨t,rfl⟩:=rx
     exact⟨Value.str x t::fs,KatTups.cons e1 e2 e3 (by simp) k1,λv hv=>by
      rcases AZ.mp hv with rfl|hv
      .exact⟨x,t,rfl⟩
      .exact k2 v hv,by rw[AW,AW,k3]⟩
   |_=>simp[Pb] at hs
theorem RowsH.firstI {h:Heap}:∀{us:List Value}{ys:List (List V)},RowsH h us ys->ys.all Pc=true->∃fs,KatTups h us fs/\(∀v∈fs,∃x t,v=Value.int x t)/\fs.length=us.length
 |_,_,.nil,_=>⟨[],KatTups.nil,λv hv=>(by cases hv),rfl⟩
 |_,y::ys,.cons q r,hs=>by
  rw[DV,BC] at hs
  obtain⟨fs,k1,k2,k3⟩:=RowsH.firstI r hs.2
  obtain⟨a,vs,rfl,⟨o,e1,e2,n,e3⟩,e4⟩:=q
  cases y with
  |nil=>simp[Pc] at hs
  |cons z y=>
   cases z with
   |int x=>
    cases e4 with
    |cons rx rr=>
     obtain⟨t,rfl⟩:=rx
     exact⟨Value.int x t::fs,KatTups.cons e1 e2 e3 (by simp) k1,λv hv=>by
      rcases AZ.mp hv with rfl|hv
      .exact⟨x,t,rfl⟩
      .exact k2 v hv,by rw[AW,AW,k3]⟩
   |_=>simp[Pc] at hs
theorem RowsH.get {h:Heap}:∀{us:List Value}{ys:List (List V)}{i:Nat}{y:List V},RowsH h us ys->ys[i]?=some y->∃a vs,us.getD i Value.none=Value.ref a/\IsTup h a vs.toArray/\Vals y vs
 |_,_,_,_,.nil,e=>by simp at e
 |_,_,0,_,.cons q _,e=>by
  simp at e
  subst e
  obtain⟨a,vs,rfl,e1,e2⟩:=q
  exact⟨a,vs,rfl,e1,e2⟩
 |_,_,i+1,_,.cons _ r,e=>by
  obtain⟨a,vs,e1,e2,e3⟩:=RowsH.get (i:=i) r (by simpa using e)
  exact⟨a,vs,by simpa using e1,e2,e3⟩
def Aw (ys:List (List V))(i j:Nat):Option Bool:=match ys[i]?,ys[j]? with
 |some x,some y=>if x.length=y.length then dX x y else none
 |_,_=>none
def yZ {prog:Program}{w:World}{A:Around}{s:Shared}{o:Bool}{us:List Value}{ys:List (List V)}(r:RowsH s.heap us ys){i j:Nat}{b:Bool}{C:Bool->Shared->Prop}(e:Aw ys i j=some b)(h:C b s):kas_ask prog w A (tuples' o) us i j C s:=by
 unfold Aw at e
 split at e
 .rename_i x y ex ey
  split at e
  .rename_i hl
   obtain⟨a,vs,e1,⟨o1,e2,_,n,e3⟩,e4⟩:=r.get ex
   obtain⟨a',vs',iD,⟨o1',dO,_,n',sF⟩,e4'⟩:=r.get ey
   unfold kas_ask
   rw[e1,iD]
   refine kat_lt e2 e3 dO sF ?_
   have l1:=e4.length
   have l2:=e4'.length
   have:decide (vs.toArray.size<vs'.toArray.size)=false:=AR (by rw[AL,AL];lia)
   rw[this]
   exact nQ 0 e e4 e4' h
  .cases e
 .cases e
def RowsT (H:Hp):List V->List (List V)->Prop:=Paired λz y=>∃a,z=V.ref a/\H a=some (.tup y)
theorem nP {X:Cx}{pins:List (Addr×Obj)}{σ:L2.St}{H:Hp}{s:Shared}(I:Inv X pins σ H s):∀{zs:List V}{ys:List (List V)}{us:List Value},RowsT H zs ys->Vals zs us->RowsH s.heap us ys
 |_,_,_,.nil,.nil=>.nil
 |_,_,_,.cons q r,.cons v t=>.cons (by
   obtain⟨a,rfl,e⟩:=q
   cases v
   obtain⟨its,rv,p,_⟩:=I.tuple (SqT.of e)
   exact⟨a,its,rfl,p,rv⟩) (nP I r t)
theorem T7 {zs:List V}{us:List Value}(r:Vals zs us):∀l:List Nat,Vals (l.map λi=>zs.getD i .non) (l.map λi=>us.getD i Value.none)
 |[]=>.nil
 |i::l=>.cons (by
   by_cases h:i<zs.length
   .obtain⟨u,e1,e2⟩:=r.get (CC h)
    dsimp only
    rw[BF,BF,e1,CC h]
    exact e2
   .have h1:zs[i]?=none:=BH.mpr (by lia)
    have h2:us[i]?=none:=r.none_of h1
    dsimp only
    rw[BF,BF,h1,h2]
    exact rfl) (T7 r l)
section
variable {X:Cx}{E:XK}
def D9:CallR X (.builtin "sorted") (λxs H Q=>∃(t:Bool) (p:Addr) (zs:List V) (ys:List (List V)) (q:Array Nat),xs=[.ref p]/\R6 t X.K H p zs/\RowsT H zs ys/\2<=zs.length/\zs.length<64/\(ys.all Pb||ys.all Pc)=true /\
  S8 (Aw ys) (kas_sort zs.length)=some q/\∀l,H l=none->Q (.ref l) (upd H l (.lst (q.toList.map λi=>zs.getD i .non)))):=by
 intro pins s σ H xs us Q I r h
 obtain⟨t,p,zs,ys,q,rfl,hp,hr,h2,dI,hh,hq,k⟩:=h
 obtain⟨u,rfl,rx⟩:=Vx r
 cases rx
 obtain⟨its,rv,pl⟩:=Kx I hp
 have hl:=rv.length
 have rows:=nP I hr rv
 have kind:∃o:Bool,∀A' E' h',(∀b o,s.heap.get? b=some o->h'.get? b=some o)->∀Q:SortKind->Shared->Prop,Q (tuples' o) {s with heap:=h'}->wpAny (model X.prog X.w) A' (keyKind' its.toArray) Q E' {s with heap:=h'}:=by
  rcases DU _ _▸hh with hh|hh
  .refine⟨Value.type "str" != Value.type "tuple", λA' E' h' e Q hQ=>?_⟩
   obtain⟨fs,k1,k2,k3⟩:=(rows.mono e).firstS hh
   exact kat_kind (s:={s with heap:=h'}) (T:=Value.type "str") k1 (by lia) (λv hv=>by obtain⟨x,t,rfl⟩:=k2 v hv;exact Looks.of_pure rfl) (by rfl) hQ
  .refine⟨Value.type "int" != Value.type "tuple", λA' E' h' e Q hQ=>?_⟩
   obtain⟨fs,k1,k2,k3⟩:=(rows.mono e).firstI hh
   exact kat_kind (s:={s with heap:=h'}) (T:=Value.type "int") k1 (by lia) (λv hv=>by obtain⟨x,t,rfl⟩:=k2 v hv;exact Looks.of_pure rfl) (by rfl) hQ
 obtain⟨o,kind⟩:=kind
 refine yg (κ:=tuples' o) (q:=Aw ys) (p:=q) pl (by lia) (by lia) kind (λA' h' e i j b C z c=>yZ (s:={s with heap:=h'}) (rows.mono e) z c) (by rw[<-hl];exact hq) λhz=>?_
 obtain⟨n,he⟩:=sortedAll_at s.heap its (q.toList.map λi=>its.getD i Value.none).toArray
 refine⟨.ref (s.heap.objs.size+1),_,I.laid (t':=s.toks) (o:=.lst (q.toList.map λi=>zs.getD i .non)) (λb o e=>sortedAll_old e) (DR _) ?_,rfl,k _ (I.hok.fresh (DR _))⟩
 refine⟨?_,(q.toList.map λi=>its.getD i Value.none),n,T7 rv _,by simpa using he⟩
 rw[BM,EK,hz,CH]
 lia
def Ax:CallR X (.builtin "sorted") (λxs H Q=>(∃(t:Bool) (p:Addr) (zs:List V),xs=[.ref p]/\R6 t X.K H p zs/\zs.length<2/\∀l,H l=none->Q (.ref l) (upd H l (.lst zs))) \/
  ∃(t:Bool) (p:Addr) (zs:List V) (ys:List (List V)) (q:Array Nat),xs=[.ref p]/\R6 t X.K H p zs/\RowsT H zs ys/\2<=zs.length/\zs.length<64/\(ys.all Pb||ys.all Pc)=true /\
  S8 (Aw ys) (kas_sort zs.length)=some q/\∀l,H l=none->Q (.ref l) (upd H l (.lst (q.toList.map λi=>zs.getD i .non)))):=by
 intro pins s σ H xs us Q I r h
 rcases h with h|h
 .obtain⟨t,p,zs,rfl,hp,h2,k⟩:=h
  obtain⟨u,rfl,rx⟩:=Vx r
  cases rx
  obtain⟨its,rv,pl⟩:=Kx I hp
  have hl:=rv.length
  refine yb pl (by lia) ?_
  obtain⟨n,he⟩:=sortedAll_at s.heap its its.toArray
  refine⟨.ref (s.heap.objs.size+1),_,I.laid (t':=s.toks) (o:=.lst zs) (λb o e=>sortedAll_old e) (DR _) ?_,rfl,k _ (I.hok.fresh (DR _))⟩
  refine⟨?_,its,n,rv,by simpa using he⟩
  rw[CH]
  lia
 .exact D9 _ _ _ _ _ _ _ I r h
def jD:D->Option V
 |.int i=>some (.int i)
 |.str x=>some (.str x)
 |_=>none
def Mp:List D->Option (List V)
 |[]=>some []
 |d::r=>match jD d,Mp r with
  |some v,some vs=>some (v::vs)
  |_,_=>none
def F2:List D->Option (List (List V))
 |[]=>some []
 |.tup ds::r=>match Mp ds,F2 r with
  |some v,some vs=>some (v::vs)
  |_,_=>none
 |_::_=>none
def O0 {K:PySem.W.Frag}{H:Hp}{d:D}{v x:V}(e:jD d=some v)(r:Rep K H d x):x=v:=by
 unfold jD at e
 split at e
 .cases e;exact rep_int.mp r
 .cases e;exact rep_str.mp r
 .cases e
theorem Pd {K:PySem.W.Frag}{H:Hp}:∀{ds:List D}{vs xs:List V},Mp ds=some vs->Reps K H ds xs->xs=vs
 |[],vs,xs,e,r=>by
  cases e
  exact reps_nil.mp r
 |d::ds,vs,xs,e,r=>by
  obtain⟨x,t,rfl,h1,h2⟩:=reps_cons.mp r
  unfold Mp at e
  split at e
  .rename_i a b ea eb
   cases e
   rw[O0 ea h1,Pd eb h2]
  .cases e
theorem R7 {K:PySem.W.Frag}{H:Hp}:∀{ds:List D}{ys:List (List V)}{xs:List V},F2 ds=some ys->Reps K H ds xs->RowsT H xs ys
 |[],ys,xs,e,r=>by
  cases e
  rw[reps_nil.mp r]
  exact .nil
 |d::ds,ys,xs,e,r=>by
  obtain⟨x,t,rfl,h1,h2⟩:=reps_cons.mp r
  cases d with
  |tup es=>
   unfold F2 at e
   split at e
   .rename_i a b ea eb
    cases e
    obtain⟨p,us,rfl,hp,hr⟩:=rep_tup.mp h1
    have:=Pd ea hr
    subst this
    exact .cons ⟨p,rfl,hp⟩ (R7 eb h2)
   .cases e
  |_=>cases e
def RowsT.mono {H H':Hp}{xs:List V}{ys:List (List V)}(e:Same H H')(r:RowsT H xs ys):RowsT H' xs ys:=Paired.mapP r λ_ _ q=>by
 obtain⟨a,h1,h2⟩:=q
 exact⟨a,h1,e _ _ h2⟩
theorem T9 {K:PySem.W.Frag}{H:Hp}{ds:List D}{zs:List V}(r:Reps K H ds zs):∀l:List Nat,Reps K H (l.map λi=>ds.getD i .non) (l.map λi=>zs.getD i .non)
 |[]=>Reps.nil
 |i::l=>Reps.cons (by
   by_cases h:i<ds.length
   .obtain⟨x,e1,e2⟩:=r.get (CC h)
    dsimp only
    rw[BF,BF,e1,CC h]
    exact e2
   .have h1:ds[i]?=none:=BH.mpr (by lia)
    have h2:zs[i]?=none:=r.none_of h1
    dsimp only
    rw[BF,BF,h1,h2]
    exact rep_non.mpr rfl) (T9 r l)
def Ea (ds:List D):M D:=match F2 ds with
 |some ys=>if 2<=ds.length/\ds.length<64/\(ys.all Pb||ys.all Pc)=true then(match S8 (Aw ys) (kas_sort ds.length) with
   |some p=>.ok (.lst (p.toList.map λi=>ds.getD i .non))
   |none=>.bad) else .bad
 |none=>.bad
def Mq (ds:List D):M D:=if ds.length<2 then .ok (.lst ds) else Ea ds
def Eb:List D->M D
 |[.lst ds]=>Mq ds
 |[.tup ds]=>Mq ds
 |_=>.bad
def O1 {t:Bool}{Hf H:Hp}{p:Addr}{zs:List V}{ds:List D}{Q:VK}(e:Same Hf H)(hp:R6 t X.K Hf p zs)(hr:Reps X.K Hf ds zs)(q:Po X.K E (rV X.K) Hf H (Ea ds) Q):
  ∃(t:Bool) (p':Addr) (zs:List V) (ys:List (List V)) (q:Array Nat),[V.ref p]=[V.ref p']/\R6 t X.K H p' zs/\RowsT H zs ys/\2<=zs.length/\zs.length<64/\(ys.all Pb||ys.all Pc)=true /\
  S8 (Aw ys) (kas_sort zs.length)=some q/\∀l,H l=none->Q (.ref l) (upd H l (.lst (q.toList.map λi=>zs.getD i .non))):=by
 unfold Ea at q
 have hl:=hr.length
 split at q
 .rename_i ys ey
  split at q
  .rename_i hc
   split at q
   .rename_i a ea
    exact⟨t,p,zs,ys,a,rfl,Jp e hp,(R7 ey hr).mono e,by lia,by lia,hc.2.2,by rw[<-hl];exact ea,λl hl=>q _ _ _ (Gr.alloc e hl _) (Gr.lst e hl (T9 hr _))⟩
   .exact q.elim
  .exact q.elim
 .exact q.elim
def La {t:Bool}{Hf H:Hp}{p:Addr}{zs:List V}{ds:List D}{Q:VK}(e:Same Hf H)(hp:R6 t X.K Hf p zs)(hr:Reps X.K Hf ds zs)(q:Po X.K E (rV X.K) Hf H (Mq ds) Q):
  (∃(t:Bool) (p':Addr) (zs:List V),[V.ref p]=[V.ref p']/\R6 t X.K H p' zs/\zs.length<2/\∀l,H l=none->Q (.ref l) (upd H l (.lst zs))) \/
  ∃(t:Bool) (p':Addr) (zs:List V) (ys:List (List V)) (q:Array Nat),[V.ref p]=[V.ref p']/\R6 t X.K H p' zs/\RowsT H zs ys/\2<=zs.length/\zs.length<64/\(ys.all Pb||ys.all Pc)=true /\
  S8 (Aw ys) (kas_sort zs.length)=some q/\∀l,H l=none->Q (.ref l) (upd H l (.lst (q.toList.map λi=>zs.getD i .non))):=by
 unfold Mq at q
 split at q
 .rename_i h
  have hl:=hr.length
  exact .inl ⟨t,p,zs,rfl,Jp e hp,by lia,λl hl=>q _ _ _ (Gr.alloc e hl _) (Gr.lst e hl hr)⟩
 .exact .inr (O1 e hp hr q)
def Zcf:Vz X E (.builtin "sorted") Eb:=by
 refine⟨_,Ax,λHf H xs ds Q e r q=>?_⟩
 unfold Eb at q
 split at q
 .obtain⟨x,rfl,h⟩:=Jw r
  obtain⟨p,ys,rfl,hp,hr⟩:=rep_lst.mp h
  exact La (t:=false) e hp hr q
 .obtain⟨x,rfl,h⟩:=Jw r
  obtain⟨p,ys,rfl,hp,hr⟩:=Qg h
  exact La (t:=true) e hp hr q
 .exact q.elim
def jC:D->Option V
 |.non=>some .non
 |.bl b=>some (.bl b)
 |.int i=>some (.int i)
 |.str x=>some (.str x)
 |_=>none
def O2 {K:PySem.W.Frag}{H:Hp}{d:D}{v x:V}(e:jC d=some v)(r:Rep K H d x):x=v/\Vy v=true:=by
 unfold jC at e
 split at e
 .cases e;exact⟨rep_non.mp r,rfl⟩
 .cases e;exact⟨rep_bl.mp r,rfl⟩
 .cases e;exact⟨rep_int.mp r,rfl⟩
 .cases e;exact⟨rep_str.mp r,rfl⟩
 .cases e
def eG (cs:List V)(neg:Bool)(d:D):M D:=match jC d with
 |some x=>.ok (.bl (if neg then !dr x cs else dr x cs))
 |none=>.bad
def cQ (K:PySem.W.Frag)(a:Addr)(cs:List V):Bool:=match K.lookup a with
 |some o=>(match o.cls,o.data with
  |.type n,.seq its _=>decide (n="tuple")&&decide (its.size<=1000)&&decide (its.toList.map eh=cs.map some)&&cs.all Vy
  |_,_=>false)
 |none=>false
theorem Pe:∀{cs:List V}{us:List Value},us.map eh=cs.map some->cs.all Vy=true->Vals cs us
 |[],[],_,_=>.nil
 |c::cs,u::us,e,f=>by
  rw[BA,BA] at e
  injection e with e1 e2
  rw[DV,BC] at f
  refine .cons ?_ (Pe e2 f.2)
  cases u<;>simp[eh] at e1<;>subst e1<;>first|exact rfl|exact⟨_,rfl⟩
 |[],_::_,e,_=>by simp at e
 |_::_,[],e,_=>by simp at e
def zN {K:PySem.W.Frag}{H:Hp}{a:Addr}{cs:List V}(h:cQ K a cs=true):SqT K H a cs/\cs.all Vy=true:=by
 unfold cQ at h
 split at h
 .rename_i o eo
  split at h
  .rename_i n its m e1 e2
   rw[BC,BC,BC] at h
   obtain⟨⟨⟨h1,h2⟩,h3⟩,h4⟩:=h
   have h1:=BK h1
   subst h1
   refine⟨.inr ⟨o,its,m,eo,e1,e2,?_,Pe (BK h3) h4⟩,h4⟩
   have:=BK h2
   rw[CH]
   lia
  .cases h
 .cases h
variable {e:Expr}{x:Str}{pos p2:Pos}{a:Addr}{cs:List V}{f:Zf->M D}
def nO {f:Zf->M D}{sd:Zf}{Hf H:Hp}{Q:Bool->Hp->Prop}(h:Po X.K E rQ Hf H (DL.tB f sd) Q):Po X.K E (rV X.K) Hf H (f sd) (λv H'=>∃k,v=.bl k/\Q k H'):=
 Po.bind h λd v MB H1 _ g1 rv h1=>by
  unfold asB at h1
  split at h1
  .exact⟨_,rep_bl.mp rv,Po.ret (R:=rQ) g1.sub h1 rfl⟩
  .exact h1.elim
def R8 (hm:X.mg x=some (.ref a))(ht:cQ X.K a cs=true)(he:Yt X E e f)(hg:Gl X x:=by rfl) (hd:(x==("__debug__":Str))=false:=by decide):B8 X E (.Compare e [.NotIn] [.Name x p2] pos) (DL.tB (YK (eG cs true) f)):=by
 obtain⟨t,p,q⟩:=he
 refine⟨_,Lz Mb p (E8 (v:=.ref a) hg hm rfl hd) (by with_unfolding_all rfl),λH0 B Hf sd σ H Q sr h=>?_⟩
 refine q H0 B Hf sd σ H _ sr (Po.bind (nO h) λd v MB H1 _ g1 rv h1=>?_)
 unfold eG at h1
 split at h1
 .rename_i y ey
  obtain⟨rfl,fy⟩:=O2 ey rv
  obtain⟨hs,fc⟩:=zN (H:=H1) ht
  exact⟨a,cs,rfl,.inr hs,fy,fc,Po.ret g1.sub h1 (rep_bl.mpr rfl)⟩
 .exact h1.elim
def zM (i:Nat){key:Expr}{p1:Pos}{fk:Zf->M D}(hu:X.A.units+64<cLine)(hk:Yt X E key fk)(hi:X.N[i]?=some x:=by rfl)(YX:Gm X.env.scope x:=by trivial)
  (hd:(x==("__debug__":Str))=false:=by decide) (MV:(x==("__classdict__":Str))=false:=by decide):B8 X E (.Compare key [.In] [.Name x p1] pos) (DL.tB (ic i fk)):=by
 obtain⟨tk,pk,qk⟩:=hk
 refine⟨_,n9 (xq (by lia) pk (Z6 hi YX hd MV)) (by rfl),λH0 B Hf sd σ H Q sr h=>?_⟩
 have h:=nO h
 unfold ic at h
 split at h
 case isFalse=>exact h.elim
 case isTrue hdc=>exact Zby (g:=id) qk sr hdc h
end
def k6 (f:Zf->M D)(sd:Zf):M O:=(f sd).bind λ_=>.ok (.nx sd)
def xA {X:Cx}{E:XK}{pos:Pos}{e:Expr}{f:Zf->M D}(h:Yt X E e f)(hs:swapsWith e none pos.line X.env=pure false:=by rfl):Wq X E (.Expr e pos) (k6 f):=by
 obtain⟨t,p,q⟩:=h
 refine⟨_,Us p hs,λH0 B Hf sd σ H D sr h=>?_⟩
 refine q H0 B Hf sd σ H _ sr (PoS.bind sr h λd v MB H1 _ g1 sr1 rv h1=>?_)
 exact h1 _ MB H1 (Same.refl _) sr1
end DL
namespace DL
open PySem PySem.Spec PyProof.Rows L2
theorem R9 {α β:Type}{F:α->β->Prop}:∀{l:List α}{m:List β},Paired F l m->∀{i:Nat}{a:α},l[i]?=some a->∃b,m[i]?=some b/\F a b
 |_,_,.nil,i,a,e=>by simp at e
 |_,_,.cons h t,0,a,e=>by simp at e;subst e;exact⟨_,rfl,h⟩
 |_,_,.cons h t,i+1,a,e=>by
  obtain⟨b,e1,e2⟩:=R9 t (i:=i) (by simpa using e)
  exact⟨b,by simpa using e1,e2⟩
section
variable {X:Cx}{E:XK}{pos p1 p2 pos':Pos}{key value:Expr}{x:Str}
def tR {σ:L2.St}{i:Nat}{v:Option V}(hi:i≠0):(σ.set i v)[0]?=σ[0]?:=AF hi
end
def Wp (H:Hp)(a:Addr):Hp:=λb=>if b=a then none else H b
def Ki (H:Hp)(a:Addr):Same (Wp H a) H:=λb u q=>by
 unfold Wp at q
 split at q
 .cases q
 .exact q
def Kj (H:Hp)(a:Addr):Wp H a a=none:=AC rfl
def X5 {H:Hp}{a b:Addr}(h:b≠a):Wp H a b=H b:=AD h
structure GrM (a:Addr) (Hf H LZ H':Hp):Prop where
 fz:Same Hf LZ
 sub:Same LZ H'
 all:∀b u,b≠a->H b=some u->H' b=some u
 ban:∀b,Lv H b->Hf b=none->LZ b=none
def ah (K:PySem.W.Frag)(Hf:Hp):List S->List V->Prop:=Paired λs v=>s.own=false/\RepS K Hf s v
def cL (K:PySem.W.Frag)(Hf _H:Hp)(ss:List S)(vs:List V):Prop:=ah K Hf ss vs
def aB (X:Cx)(E:XK)(es:List Expr)(f:Zf->M (List S)):Prop:=
 ∃t:TA,PA X es t/\∀(H0:Hp) (B:Addr->Prop) (Hf:Hp) (sd:Zf) (σ:L2.St) (H:Hp) (Q:List V->Hp->Prop),SR X.K H0 B Hf sd σ H->Po X.K E (cL X.K) Hf H (f sd) Q->t σ H Q
def Wh:S->Bool
 |.ob _ _ _=>true
 |.fl _ _ _=>true
 |_=>false
def Jq {s:S}(h:Wh s=true):s.own=false:=by
 cases s<;>first|rfl|cases h
def Ay (_:Zf):M (List S):=.ok []
def Ub (i:Nat)(fr:Zf->M (List S))(sd:Zf):M (List S):=match sd[i]? with
 |some (some s)=>if Wh s then(fr sd).bind λss=>.ok (s::ss) else .bad
 |_=>.bad
def Az (fa:Zf->M D)(fr:Zf->M (List S))(sd:Zf):M (List S):=(fa sd).bind λd=>(fr sd).bind λss=>.ok (.im d::ss)
section
variable {X:Cx}{E:XK}{pos p p1 p2 apos:Pos}{a:Expr}{es:List Expr}{x:Str}
def Mr:aB X E [] Ay:=⟨_,Xs,λ_ _ _ _ _ _ _ sr h=>Po.ret (R:=cL X.K) sr.sub h .nil⟩
def Ms {fa:Zf->M D}{fr:Zf->M (List S)}(ha:Yt X E a fa)(hr:aB X E es fr)(hs:starEach (a::es) X.env=(false,eval a X.env)::starEach es X.env:=by rfl):aB X E (a::es) (Az fa fr):=by
 obtain⟨ta,pa,qa⟩:=ha
 obtain⟨tr,pr,qr⟩:=hr
 refine⟨_,Qj pa pr hs,λH0 B Hf sd σ H Q sr h=>?_⟩
 refine qa H0 B Hf sd σ H _ sr (Po.bind h λd v MB H1 _ g1 rv h1=>?_)
 refine qr H0 B MB sd σ H1 _ (sr.gr g1) (Po.bind h1 λds vs MI H2 _ g2 rs h2=>?_)
 exact Po.ret (R:=cL X.K) g2.sub h2 (.cons ⟨rfl,Rep.mono g2.fz rv⟩ rs)
def Ky (i:Nat){fr:Zf->M (List S)}(hr:aB X E es fr)(hN:X.N[i]?=some x:=by rfl)(hv:Gm X.env.scope x:=by trivial) (hd:(x==("__debug__":Str))=false:=by decide)
  (MV:(x==("__classdict__":Str))=false:=by decide) (hs:starEach (.Name x p::es) X.env=(false,eval (.Name x p) X.env)::starEach es X.env:=by rfl):aB X E (.Name x p::es) (Ub i fr):=by
 obtain⟨tr,pr,qr⟩:=hr
 refine⟨_,Qj (Z6 hN hv hd MV) pr hs,λH0 B Hf sd σ H Q sr h=>?_⟩
 unfold Ub at h
 split at h
 .rename_i s ei
  split at h
  .rename_i ho
   obtain⟨v,e1,e2⟩:=sr.imS i s ei (Jq ho)
   refine⟨v,e1,qr H0 B Hf sd σ H _ sr (Po.bind h λss vs MB H1 _ g1 rs h1=>?_)⟩
   exact Po.ret (R:=cL X.K) g1.sub h1 (.cons ⟨Jq ho,e2.mono g1.fz⟩ rs)
  .exact h.elim
 .exact h.elim
end
def Pf (K:PySem.W.Frag)(F:List S->M S):Sp:=λvs H Q _=>∃Hf ss s,Same Hf H/\ah K Hf ss vs/\F ss=.ok s/\∀v LZ H',Gr Hf H LZ H'->RS K H LZ H' s v->Q v H'
def F3 (n m:Nat)(f:Zf->M O)(ss:List S):M S:=if ss.length=n then Wc (f (ss.map some++List.replicate m none)) else .bad
def Ux {K:PySem.W.Frag}{N:List Str}{Hf H:Hp}{ss:List S}{vs:List V}{m:Nat}(e:Same Hf H)(r:ah K Hf ss vs)(hN:N.length=ss.length+m):
  SR K H (λa=>Lv H a/\Hf a=none) Hf (ss.map some++List.replicate m none) (L2.Y6 N vs) H:=by
 have hlen:=DN r
 have es:L2.Y6 N vs=vs.map some++List.replicate m none:=by
  unfold L2.Y6
  rw[show N.length-vs.length=m by lia]
 rw[es]
 refine SR.ofS e (by simp[hlen]) λi t h=>?_
 by_cases hl:i<ss.length
 .rw[BN (by simpa using hl),BP] at h
  cases q:ss[i]? with
  |none=>rw[q] at h;cases h
  |some s=>
   rw[q] at h
   cases h
   obtain⟨v,e1,e2,e3⟩:=R9 r q
   have:i<vs.length:=(AG.mp e1).1
   exact⟨e2,v,by rw[BN (by simpa using this),BP,e1];rfl,e3⟩
 .rw[BZ (by simpa using hl),CN] at h
  split at h<;>cases h
def Ec {P:Program}{w:World}{K:PySem.W.Frag}{mg:Str->Option Value}{base:Heap}{x qual:Str}{st:Stmt}{f:Addr}{fd:FuncData}{N ps:List Str}{k m n:Nat}{fb:Zf->M O}(F:Fun K x qual st f fd)(sc:MA N ps (Zg st))(hn:ps.length=n)(hN:N.length=n+m)(ND:∀(ME:Value) (A:Around) (outer:List Env) (s:Shared) (H:Hp) (E:XK),Room k (A.deeper (envOfC qual (Zg st) s.heap.objs.size f ME)) ->
   U3 (Jl Yi P w K mg base N qual (Zg st) f ME A outer s H E).nox E0 (Qz st) fb):MC P w K mg base Yi (k+1) f fd ps (Pf K (F3 n m fb)):=by
 refine F.ok sc (λvs H Q E h=>?_) (λME A outer s H vs Q E hr h=>?_)
 .obtain⟨Hf,ss,s,e,r,hF,_⟩:=h
  unfold F3 at hF
  split at hF
  .rename_i hl
   rw[<-DN r,hl,hn]
  .cases hF
 .obtain⟨Hf,ss,s',e,r,hF,q⟩:=h
  obtain⟨t,p,qt⟩:=ND ME A outer s H E hr
  unfold F3 at hF
  split at hF
  .rename_i hl
   refine⟨t,p,qt H _ Hf _ (L2.Y6 N vs) H _ (Ux (N:=N) (m:=m) e r (by lia)) ?_⟩
   generalize fb (ss.map some++List.replicate m none)=ro at hF
   have back:∀{v:V}{LZ H':Hp}{s:DL.S},Same Hf LZ->RU H (λa=>Lv H a/\Hf a=none) LZ H'->RS K H LZ H' s v->s=s'->Q v H':=λ{v LZ H' s} e1 e2 e3 e4=>by
    subst e4
    exact q v LZ H' ⟨e1,e2.sub,e2.all,λa h1 h2=>e2.ban a ⟨h1,h2⟩⟩ e3
   cases ro with
   |ok o=>
    cases o with
    |rt s2=>
     have e':s2=s':=by cases hF;rfl
     exact λv LZ H' e1 e2 e3=>back e1 e2 e3 e'
    |nx sd'=>
     have e':DL.S.im .non=s':=by cases hF;rfl
     exact λσ' LZ H' e1 sr'=>back (v:=.non) (s:=DL.S.im .non) e1 sr'.fin (show Rep K LZ .non .non from rep_non.mpr rfl) e'
    |bk sd'=>cases hF
    |ct sd'=>cases hF
   |ex x=>cases hF
   |bad=>cases hF
  .cases hF
def W7:M S->M D
 |.ok (.im d)=>.ok d
 |_=>.bad
def Sa (F:List S->M S)(fs:Zf->M (List S))(sd:Zf):M D:=(fs sd).bind λss=>W7 (F ss)
def Mt {K:PySem.W.Frag}{E:XK}{MB H1:Hp}{F:List S->M S}{ss:List S}{vs:List V}{Q:VK}(e:Same MB H1)(rs:ah K MB ss vs)(h:Po K E (rV K) MB H1 (W7 (F ss)) Q){E':XK}:Pf K F vs H1 Q E':=by
 cases q:F ss with
 |ok s=>
  rw[q] at h
  cases s with
  |im d=>exact⟨MB,ss,.im d,e,rs,q,λv LZ H' g rv=>h v LZ H' g rv⟩
  |ow ds=>exact h.elim
  |od kvs=>exact h.elim
  |dk kvs=>exact h.elim
  |xc x=>exact h.elim
  |fn x=>exact h.elim
  |ob a c r=>exact h.elim
  |fl a g q=>exact h.elim
 |ex x=>rw[q] at h;exact h.elim
 |bad=>rw[q] at h;exact h.elim
section
variable {X:Cx}{E:XK}{pos p p1 p2 apos:Pos}{a:Expr}{es:List Expr}{x vn m:Str}{k:Nat}{f:Addr}{fd:FuncData}{ps:List Str}{F:List S->M S}
def A0 {fs:Zf->M (List S)}(G:MC X.prog X.w X.K X.mg X.base Yi k f fd ps (Pf X.K F))(hr:Room k X.A)(hm:X.mg x=some (.ref f))(hk:PySem.W.keepIn X.K (.ref f)=true)(hb:Binds X.K fd ps [])(ha:aB X E (a::es) fs)(hg:Gl X x:=by rfl) (NT:(x==("__debug__":Str))=false:=by decide) (he:starEach (a::es) X.env=(false,eval a X.env)::starEach es X.env:=by rfl) (MT:(backTo pos (starEach es X.env)).any (·.1)=false:=by rfl):
  Yt X E (.Call (.Name x p) (a::es) [] pos) (Sa F fs):=by
 obtain⟨t,pt,qt⟩:=ha
 refine⟨_,Ve (dvs:=[]) (E:=E0) G hr hg hm hk hb .nil Kf pt NT he MT,λH0 B Hf sd σ H Q sr h=>?_⟩
 refine qt H0 B Hf sd σ H _ sr (Po.bind h λss vs MB H1 _ g1 rs h1=>?_)
 show Pf X.K F (vs++[]) H1 Q _
 rw[BJ]
 exact Mt g1.sub rs h1
structure RW (K:PySem.W.Frag) (c:Str) (C:Addr):Prop where
 at_:PySem.W.nsIn K mainGlobals c=some (some (.ref C))
 cls:Cls K C
def W8 {K:PySem.W.Frag}{H:Hp}{r:List (Str×D)}{gs:List (Str×V)}(h:RepKV K H r gs)(n:Str):match r.lookup n with
  |some d=>∃v,gs.lookup n=some v/\Rep K H d v
  |none=>gs.lookup n=none:=by
 induction h with
 |nil=>rfl
 | @cons p q l l' hp ht ih=>
  obtain⟨p1,p2⟩:=p
  obtain⟨q1,q2⟩:=q
  obtain⟨e,rp⟩:=hp
  have e:p1=q1:=e
  subst e
  rw[ED,ED]
  cases n==p1 with
  |true=>exact⟨q2,rfl,rp⟩
  |false=>exact ih
def Qy (i:Nat)(c n:Str)(sd:Zf):M D:=match sd[i]? with
 |some (some (.ob _ c' r))=>if c'=c then(match r.lookup n with|some d=>.ok d|none=>.bad) else .bad
 |_=>.bad
def Qn (i:Nat){c n:Str}{C:Addr}(oc:RW X.K c C)(na:NoAttr X.K C n)(hN:X.N[i]?=some vn:=by rfl)(hv:Gm X.env.scope vn:=by trivial) (hd:(vn==("__debug__":Str))=false:=by decide)
  (MV:(vn==("__classdict__":Str))=false:=by decide) (hb:attributeBase (.Name vn p) n X.env (eval (.Name vn p) X.env)=eval (.Name vn p) X.env:=by rfl):Yt X E (.Attribute (.Name vn p) n pos) (Qy i c n):=by
 refine⟨_,V6 (Z6 hN hv hd MV) hb,λH0 B Hf sd σ H Q sr h=>?_⟩
 unfold Qy at h
 split at h
 .rename_i a c' r ei
  split at h
  .rename_i ec
   subst ec
   obtain⟨v,e1,C',dx,gs,rfl,e2,e3,e4⟩:=sr.imS i _ ei rfl
   rw[oc.at_] at e2
   cases e2
   have kl:=W8 e4 n
   split at h
   .rename_i d el
    rw[el] at kl
    obtain⟨v,l,rv⟩:=kl
    exact⟨.ref a,e1,a,C,dx,gs,v,rfl,sr.sub _ _ e3,oc.cls,na,l,Po.ret (R:=rV X.K) sr.sub h rv⟩
   .exact h.elim
  .exact h.elim
 .exact h.elim
def Xa (i:Nat)(c n:Str)(F:List S->M S)(fs:Zf->M (List D))(sd:Zf):M D:=match sd[i]? with
 |some (some (.ob a c' r))=>if c'=c/\r.lookup n=none then(fs sd).bind λds=>W7 (F (.ob a c' r::ds.map S.im)) else .bad
 |_=>.bad
theorem Mu {K:PySem.W.Frag}{H:Hp}:∀{ds:List D}{vs:List V},Reps K H ds vs->ah K H (ds.map S.im) vs
 |[],_,r=>by rw[reps_nil.mp r];exact .nil
 |d::ds,_,r=>by
  obtain⟨x,t,rfl,h,q⟩:=reps_cons.mp r
  exact .cons ⟨rfl,h⟩ (Mu q)
def Lb {c n:Str}{C:Addr}{t:TA}{fs:Zf->M (List D)}{i:Nat}(oc:RW X.K c C)(qt:∀(H0:Hp) (B:Addr->Prop) (Hf:Hp) (sd:Zf) (σ:L2.St) (H:Hp) (Q:List V->Hp->Prop),SR X.K H0 B Hf sd σ H->Po X.K E (rA X.K) Hf H (fs sd) Q->t σ H Q){H0:Hp}{B:Addr->Prop}{Hf:Hp}{sd:Zf}{σ:L2.St}{H:Hp}{Q:VK}{E':XK}(sr:SR X.K H0 B Hf sd σ H)(h:Po X.K E (rV X.K) Hf H (Xa i c n F fs sd) Q):jL C n (Pf X.K F) [] E' (cW i) t σ H Q:=by
 unfold Xa at h
 split at h
 .rename_i a c' r ei
  split at h
  .rename_i ec
   obtain⟨ec,el⟩:=ec
   subst ec
   obtain⟨v,e1,C',dx,gs,rfl,e2,e3,e4⟩:=sr.imS i _ ei rfl
   rw[oc.at_] at e2
   cases e2
   have kl:=W8 e4 n
   rw[el] at kl
   refine⟨.ref a,e1,a,dx,gs,rfl,sr.sub _ _ e3,kl,qt H0 B Hf sd σ H _ sr (Po.bind h λds vs MB H1 _ g1 rs h1=>?_)⟩
   rw[BJ]
   have ro:RepS X.K MB (.ob a c' r) (.ref a):=RepO.mono g1.fz ⟨C,dx,gs,rfl,oc.at_,e3,e4⟩
   exact Mt g1.sub (.cons ⟨rfl,ro⟩ (Mu rs)) h1
  .exact h.elim
 .exact h.elim
def Uc (i:Nat){c:Str}{C:Addr}{fs:Zf->M (List D)}{pl:Sem Bool}(oc:RW X.K c C)(hm:NI X.K C m f)(G:MC X.prog X.w X.K X.mg X.base Yi k f fd ps (Pf X.K F))(hr:Room k X.A)(hb:Binds X.K fd ps [])(ha:S2 X E (a::es) fs)(hN:X.N[i]?=some vn:=by rfl)(hv:Gm X.env.scope vn:=by trivial) (hd:(vn==("__debug__":Str))=false:=by decide) (MV:(vn==("__classdict__":Str))=false:=by decide)
  (RA:starEach (a::es) X.env=(false,eval a X.env)::starEach es X.env:=by rfl) (MT:(backTo pos (starEach es X.env)).any (·.1)=false:=by rfl)
  (ht:eval (.Call (.Attribute (.Name vn p) m apos) (a::es) [] pos) X.env=(do
   let ov <-eval (.Name vn p) X.env
   standAt apos.atName
   let (f,first) <-holding [ov] (getMethod ov m pl)
   callWith pos f first (backTo pos (starEach (a::es) X.env)) (backToKw pos (keywordEach [] X.env))):=by rfl):Yt X E (.Call (.Attribute (.Name vn p) m apos) (a::es) [] pos) (Xa i c m F fs):=by
 obtain⟨t,pt,qt⟩:=ha
 exact⟨_,L6 (dvs:=[]) (E:=E0) (pl:=pl) (Z6 hN hv hd MV) oc.cls hm G hr hb .nil Kf pt RA MT ht,λH0 B Hf sd σ H Q sr h=>Lb oc qt sr h⟩
def Kd (i:Nat){c:Str}{C:Addr}{pl:Sem Bool}(oc:RW X.K c C)(hm:NI X.K C m f)(G:MC X.prog X.w X.K X.mg X.base Yi k f fd ps (Pf X.K F))(hr:Room k X.A)(hb:Binds X.K fd ps [])(hN:X.N[i]?=some vn:=by rfl)(hv:Gm X.env.scope vn:=by trivial) (hd:(vn==("__debug__":Str))=false:=by decide) (MV:(vn==("__classdict__":Str))=false:=by decide)
  (ht:eval (.Call (.Attribute (.Name vn p) m apos) [] [] pos) X.env=(do
   let ov <-eval (.Name vn p) X.env
   standAt apos.atName
   let (f,first) <-holding [ov] (getMethod ov m pl)
   callWith pos f first (backTo pos (starEach [] X.env)) (backToKw pos (keywordEach [] X.env))):=by rfl):Yt X E (.Call (.Attribute (.Name vn p) m apos) [] [] pos) (Xa i c m F Zk):=
 ⟨_,B3 (dvs:=[]) (E:=E0) (pl:=pl) (Z6 hN hv hd MV) oc.cls hm G hr hb .nil Kf ht,λH0 B Hf sd σ H Q sr h=>Lb oc (λ_ _ _ _ _ _ _ sr h=>Po.ret sr.sub h Reps.nil) sr h⟩
end
def Kz (it ip:Nat)(f:Zf->M O):List (S×D)->Zf->M O
 |[],sd=>.ok (.nx sd)
 |od::r,sd=>(f ((sd.set it (some od.1)).set ip (some (.im od.2)))).bind λx=>match x with
  |.nx RV=>Kz it ip f r RV
  |.ct RV=>Kz it ip f r RV
  |.bk RV=>.ok (.nx RV)
  |.rt s=>.ok (.rt s)
def W9 (it ip i1 i2:Nat)(f1 f2:Zf->M D)(f:Zf->M O)(sd:Zf):M O:=match sd[i1]?,sd[i2]? with
 |some (some o1),some (some o2)=>if Wh o1&&Wh o2 then(f1 sd).bind λd1=>(f2 sd).bind λd2=>Kz it ip f [(o1,d1),(o2,d2)] sd else .bad
 |_,_=>.bad
def PrV (K:PySem.W.Frag)(Hf:Hp)(od:S×D)(v:V):Prop:=∃p a b,v=.ref p/\Hf p=some (.tup [a,b])/\od.1.own=false/\RepS K Hf od.1 a/\Rep K Hf od.2 b
theorem PrV.mono {K:PySem.W.Frag}{H H':Hp}(e:Same H H'){od:S×D}{v:V}(h:PrV K H od v):PrV K H' od v:=by
 obtain⟨p,a,b,e1,e2,e3,e4,e5⟩:=h
 exact⟨p,a,b,e1,e _ _ e2,e3,e4.mono e,e5.mono e⟩
section
variable {X:Cx}{E:XK}{pos q0 q1 q2 pt pp p1 p2 pg:Pos}{x1 x2 xt xp:Str}{e1 e2:Expr}{k0 k1 k2 kt:Nat}
def Zcj (it ip i1 i2:Nat){body:List Stmt}{f1 f2:Zf->M D}{f:Zf->M O}(hp:PassesOwn (model X.prog X.w) X.A X.env X.xe)(hc:X.calm=true)(hN:X.N.Nodup)(h1:Yt X E e1 f1)(h2:Yt X E e2 f2)(hb:U3 X E body f)(n1:X.N[i1]?=some x1:=by rfl)(n2:X.N[i2]?=some x2:=by rfl)(nt:X.N[it]?=some xt:=by rfl)(np:X.N[ip]?=some xp:=by rfl)(v1:Gm X.env.scope x1:=by trivial)(v2:Gm X.env.scope x2:=by trivial)(lt:VJ X.env.scope xt:=by trivial)(lp:VJ X.env.scope xp:=by trivial)(ft:X.fn xt=true\/X.env.scope.names.lookup xt=some .local:=by first|exact .inl rfl|exact .inr rfl)(fp:X.fn xp=true\/X.env.scope.names.lookup xp=some .local:=by first|exact .inl rfl|exact .inr rfl)
  (d1:(x1==("__debug__":Str))=false:=by decide) (c1:(x1==("__classdict__":Str))=false:=by decide) (d2:(x2==("__debug__":Str))=false:=by decide) (c2:(x2==("__classdict__":Str))=false:=by decide)
  (s1:starEach [.Name x1 p1,e1] X.env=(false,eval (.Name x1 p1) X.env)::starEach [e1] X.env:=by rfl) (oP:starEach [e1] X.env=(false,eval e1 X.env)::starEach [] X.env:=by rfl)
  (s2:starEach [.Name x2 p2,e2] X.env=(false,eval (.Name x2 p2) X.env)::starEach [e2] X.env:=by rfl) (oM:starEach [e2] X.env=(false,eval e2 X.env)::starEach [] X.env:=by rfl)
  (s3:starEach [.Tuple [.Name x1 p1,e1] k1 q1,.Tuple [.Name x2 p2,e2] k2 q2] X.env=(false,eval (.Tuple [.Name x1 p1,e1] k1 q1) X.env)::starEach [.Tuple [.Name x2 p2,e2] k2 q2] X.env:=by rfl)
  (s4:starEach [.Tuple [.Name x2 p2,e2] k2 q2] X.env=(false,eval (.Tuple [.Name x2 p2,e2] k2 q2) X.env)::starEach [] X.env:=by rfl)
  (g1:(assignEach [.Name xt pt,.Name xp pp] X.env).map (·.2)=assign (.Name xt pt) X.env::(assignEach [.Name xp pp] X.env).map (·.2):=by rfl) (g2:(assignEach [.Name xp pp] X.env).map (·.2)=assign (.Name xp pp) X.env::(assignEach [] X.env).map (·.2):=by rfl)
  (gn:(assignEach [.Name xt pt,.Name xp pp] X.env).length=2:=by rfl) (gs:(assignEach [.Name xt pt,.Name xp pp] X.env).findIdx? (·.1)=none:=by rfl)
  (hs:∀x,foldedSetIterable (.Tuple [.Tuple [.Name x1 p1,e1] k1 q1,.Tuple [.Name x2 p2,e2] k2 q2] k0 q0) X.env x=pure x:=by intro _;rfl):
  Wq X E (.For (.Tuple [.Name xt pt,.Name xp pp] kt pg) (.Tuple [.Tuple [.Name x1 p1,e1] k1 q1,.Tuple [.Name x2 p2,e2] k2 q2] k0 q0) body [] pos) (W9 it ip i1 i2 f1 f2 f):=by
 obtain⟨t1,oz,oZ⟩:=h1
 obtain⟨t2,oy,oY⟩:=h2
 obtain⟨tb,pb,qb⟩:=hb
 refine⟨_,Da hp hc (xM (L5 (Qj (L5 (Qj (Z6 n1 v1 d1 c1) (Qj oz Xs oP) s1)) (Qj (L5 (Qj (Z6 n2 v2 d2 c2) (Qj oy Xs oM) s2)) Xs s4) s3))) (ng hc (P8 (Pu hN nt lt ft) (P8 (Pu hN np lp fp) Fe g2) g1) gn gs) pb hs,λH0 B Hf sd σ H D sr h=>?_⟩
 unfold W9 at h
 split at h
 .rename_i o1 o2 rX rW
  split at h
  .rename_i ho
   rw[BC] at ho
   obtain⟨w1,a1,a2⟩:=sr.imS i1 o1 rX (Jq ho.1)
   refine⟨w1,a1,oZ H0 B Hf sd σ H _ sr (PoS.bind sr h λy1 u1 MB H1 _ g1 sr1 r1 h1=>?_)⟩
   refine⟨by rw[CH];simp,λa hl=>?_⟩
   have G1:=Gr.alloc g1.sub hl (.tup [w1,u1])
   have sr2:=sr1.gr G1
   obtain⟨w2,b1,b2⟩:=sr2.imS i2 o2 rW (Jq ho.2)
   refine⟨w2,b1,oY H0 B _ sd σ _ _ sr2 (PoS.bind sr2 (PoS.weak G1.fz h1) λy2 u2 MI H2 _ g2 sr3 r2 h2=>?_)⟩
   refine⟨by rw[CH];simp,λb j0=>?_⟩
   have G2:=Gr.alloc g2.sub j0 (.tup [w2,u2])
   have sr4:=sr3.gr G2
   refine⟨by rw[CH];simp,λz qV=>?_⟩
   have G3:=Gr.alloc sr4.sub qV (.tup [V.ref a,V.ref b])
   have sr5:=sr4.gr G3
   have m2:=g2.fz.trans (G2.fz.trans G3.fz)
   have P1:PrV X.K (upd (upd MI b (.tup [w2,u2])) z (.tup [.ref a,.ref b])) (o1,y1) (.ref a):=⟨a,w1,u1,rfl,m2 _ _ Zo,Jq ho.1,(a2.mono (g1.fz.trans G1.fz)).mono m2,(r1.mono G1.fz).mono m2⟩
   have P2:PrV X.K (upd (upd MI b (.tup [w2,u2])) z (.tup [.ref a,.ref b])) (o2,y2) (.ref b):=⟨b,w2,u2,rfl,G3.fz _ _ Zo,Jq ho.2,b2.mono m2,r2.mono (G2.fz.trans G3.fz)⟩
   have hz:(upd (upd MI b (.tup [w2,u2])) z (.tup [V.ref a,V.ref b])) z=some (.tup [V.ref a,V.ref b]):=Zo
   have h3:=PoS.weak (G2.fz.trans G3.fz) h2
   generalize upd (upd MI b (.tup [w2,u2])) z (.tup [.ref a,.ref b])=SQ at *
   generalize upd (upd H2 b (.tup [w2,u2])) z (.tup [.ref a,.ref b])=H3 at *
   refine⟨z,rfl,⟨_,SqT.of (sr5.sub _ _ hz)⟩,?_⟩
   refine⟨λi m σ' H'=>m=2-i/\∃LZ sd',Same SQ LZ/\SR X.K H0 B LZ sd' σ' H'/\PoS X.K E H0 B LZ (Kz it ip f ([(o1,y1),(o2,y2)].drop i) sd') D,⟨2,rfl,SQ,sd,Same.refl _,sr5,h3⟩,?_⟩
   rintro i m σ' H' ⟨rfl,LZ,sd',e',sr',h'⟩
   have sq:SqT X.K H' z [V.ref a,V.ref b]:=SqT.of (sr'.sub _ _ (e' _ _ hz))
   have one:∀(od:S×DL.D) (v:V) (r:List (S×DL.D)) (n:Nat),[(o1,y1),(o2,y2)].drop i=od::r->[V.ref a,V.ref b][i]?=some v->PrV X.K SQ od v->r=[(o1,y1),(o2,y2)].drop (i+1)->2-(i+1)<2-i ->
     (av X.K z).go i H'/\∃N:L2.St->Hp->Prop,(∀σ' H',N σ' H'->∃m',m'<2-i/\(m'=2-(i+1)/\∃LZ sd',Same SQ LZ/\SR X.K H0 B LZ sd' σ' H'/\PoS X.K E H0 B LZ (Kz it ip f ([(o1,y1),(o2,y2)].drop (i+1)) sd') D))/\∀x YQ,(av X.K z).yld i H' x YQ->lT X.K 2 (jK (Fd it) (jK (Fd ip) lq)) x σ' YQ λσ2 H2=>tb {D with nx:=N,ct:=N,bk:=D.nx} σ2 H2:=λod v r n ed ev pv er hl=>by
    refine⟨⟨_,_,sq,ev⟩,λσ' H'=>∃LZ sd',Same SQ LZ/\SR X.K H0 B LZ sd' σ' H'/\PoS X.K E H0 B LZ (Kz it ip f ([(o1,y1),(o2,y2)].drop (i+1)) sd') D,λσ2 H2 w=>⟨2-(i+1),hl,rfl,w⟩,λx YQ hy=>?_⟩
    obtain⟨e,hy⟩:=hy
    subst e
    have ex:=hy _ sq
    rw[ev] at ex
    cases ex
    obtain⟨p,va,vb,rfl,q1,q2,q3,q4⟩:=pv.mono e'
    refine .inl ⟨p,[va,vb],rfl,.inl (SqT.of (sr'.sub _ _ q1)),rfl,va,[vb],rfl,vb,[],rfl,rfl,?_⟩
    have sr6:=(sr'.set_st it q2 q3).set_im ip q4
    refine qb H0 B LZ _ _ YQ _ sr6 ?_
    rw[ed] at h'
    unfold Kz at h'
    cases ef:f ((sd'.set it (some od.1)).set ip (some (.im od.2))) with
    |ok o=>
     rw[ef] at h'
     cases o with
     |nx s'=>rw[<-er];exact λσ' MI H2 e2 sr2=>⟨MI,s',e'.trans e2,sr2,PoS.weak e2 h'⟩
     |ct s'=>rw[<-er];exact λσ' MI H2 e2 sr2=>⟨MI,s',e'.trans e2,sr2,PoS.weak e2 h'⟩
     |bk s'=>exact h'
     |rt s=>exact h'
    |ex x=>rw[ef] at h';exact h'
    |bad=>rw[ef] at h';exact h'
   match i,sq,h',one with
   |0,sq,h',one=>exact .inr (one (o1,y1) (.ref a) [(o2,y2)] 0 rfl rfl P1 rfl (by decide))
   |1,sq,h',one=>exact .inr (one (o2,y2) (.ref b) [] 0 rfl rfl P2 rfl (by decide))
   |i+2,sq,h',one=>
    have h2:PoS X.K E H0 B LZ (.ok (.nx sd')) D:=by simpa[Kz] using h'
    exact .inl ⟨⟨_,sq,by simp⟩,h2 σ' LZ H' (Same.refl _) sr'⟩
  .exact h.elim
 .exact h.elim
end
def Ed (i:Nat)(fk fd:Zf->M D)(sd:Zf):M D:=match sd[i]? with
 |some (some (.fl _ _ q))=>(fk sd).bind λk=>(fd sd).bind λd=>(match k with
  |.tup ds=>(match Jn ds with
   |some ks=>.ok ((Yu q ks).getD d)
   |none=>.bad)
  |_=>.bad)
 |_=>.bad
section
variable {X:Cx}{E:XK}{pos p p1 p2 apos cB cpos:Pos}{a key dflt:Expr}{es:List Expr}{x vn m:Str}{k:Nat}{f:Addr}{fd:FuncData}{ps:List Str}{F:List S->M S}
def Zck (i:Nat){C:Addr}{fk fd:Zf->M D}(hu:X.A.units+64<cLine) (oc:RW X.K "Floor" C) (na:NoAttr X.K C "by_square") (hk:Yt X E key fk) (hf:Yt X E dflt fd)
  (hN:X.N[i]?=some vn:=by rfl) (hv:Gm X.env.scope vn:=by trivial) (hd:(vn==("__debug__":Str))=false:=by decide) (MV:(vn==("__classdict__":Str))=false:=by decide)
  (hb:attributeBase (.Name vn p) "by_square" X.env (eval (.Name vn p) X.env)=eval (.Name vn p) X.env:=by rfl) (mm:M2 X (.Attribute (.Name vn p) "by_square" cB) "get" apos key dflt cpos:=by exact⟨rfl,rfl,rfl,rfl⟩):
  Yt X E (.Call (.Attribute (.Attribute (.Name vn p) "by_square" cB) "get" apos) [key,dflt] [] cpos) (Ed i fk fd):=by
 obtain⟨tk,pk,qk⟩:=hk
 obtain⟨td,pd,qd⟩:=hf
 refine⟨_,Zbc (by lia) (V6 (Z6 hN hv hd MV) hb) pk pd mm,λH0 B Hf sd σ H Q sr h=>?_⟩
 unfold Ed at h
 split at h
 .rename_i a g q ei
  obtain⟨v,e1,C',dx,gs,d,kq,ys,rfl,e2,e3,e4,e6,e7⟩:=sr.imS i _ ei rfl
  rw[oc.at_] at e2
  cases e2
  refine⟨.ref a,e1,a,C,dx,gs,.ref d,rfl,sr.sub _ _ e3,oc.cls,na,e4.sq,d,rfl,.inr ⟨ys,.inl (sr.sub _ _ e6)⟩,?_⟩
  refine qk H0 B Hf sd σ H _ sr (Po.bind h λdk y MB H1 _ g1 ry h1=>?_)
  refine qd H0 B MB sd σ H1 _ (sr.gr g1) (Po.bind h1 λdd z MI H2 _ g2 rz h2=>?_)
  split at h2
  .rename_i ds
   split at h2
   .rename_i ks ek
    obtain⟨b,rfl,rC⟩:=Nd ek g2.sub (ry.mono g2.fz)
    have r2:=(e7.mono g1.fz).mono g2.fz
    refine⟨_,DGet.t (g2.sub _ _ (g2.fz _ _ (g1.fz _ _ e6))) rC,?_⟩
    cases eg:Yu q ks with
    |some d'=>
     obtain⟨v,ev,rv⟩:=r2.get ks eg
     rw[ev]
     rw[eg] at h2
     exact Po.ret (R:=rV X.K) g2.sub h2 rv
    |none=>
     rw[r2.none ks eg]
     rw[eg] at h2
     exact Po.ret (R:=rV X.K) g2.sub h2 rz
   .exact h2.elim
  .exact h2.elim
 .exact h.elim
def Sb (i:Nat)(F:List S->M S)(fs:Zf->M (List D))(sd:Zf):M D:=match sd[i]? with
 |some (some (.fl a g q))=>(fs sd).bind λds=>W7 (F (.fl a g q::ds.map S.im))
 |_=>.bad
def Zcl (i:Nat){C:Addr}{fs:Zf->M (List D)}{pl:Sem Bool} (oc:RW X.K "Floor" C) (hm:NI X.K C "people_at" f) (G:MC X.prog X.w X.K X.mg X.base Yi k f fd ps (Pf X.K F)) (hr:Room k X.A) (hb:Binds X.K fd ps []) (ha:S2 X E (a::es) fs)
  (hN:X.N[i]?=some vn:=by rfl) (hv:Gm X.env.scope vn:=by trivial) (hd:(vn==("__debug__":Str))=false:=by decide) (MV:(vn==("__classdict__":Str))=false:=by decide)
  (RA:starEach (a::es) X.env=(false,eval a X.env)::starEach es X.env:=by rfl) (MT:(backTo pos (starEach es X.env)).any (·.1)=false:=by rfl)
  (ht:eval (.Call (.Attribute (.Name vn p) "people_at" apos) (a::es) [] pos) X.env=(do
   let ov <-eval (.Name vn p) X.env
   standAt apos.atName
   let (f,first) <-holding [ov] (getMethod ov "people_at" pl)
   callWith pos f first (backTo pos (starEach (a::es) X.env)) (backToKw pos (keywordEach [] X.env))):=by rfl):Yt X E (.Call (.Attribute (.Name vn p) "people_at" apos) (a::es) [] pos) (Sb i F fs):=by
 obtain⟨t,pt,qt⟩:=ha
 refine⟨_,L6 (dvs:=[]) (E:=E0) (pl:=pl) (Z6 hN hv hd MV) oc.cls hm G hr hb .nil Kf pt RA MT ht,λH0 B Hf sd σ H Q sr h=>?_⟩
 unfold Sb at h
 split at h
 .rename_i a g q ei
  obtain⟨v,e1,rv⟩:=sr.imS i _ ei rfl
  obtain⟨C',dx,gs,d,kq,ys,rfl,e2,e3,e4,e6,e7⟩:=id rv
  rw[oc.at_] at e2
  cases e2
  refine⟨.ref a,e1,a,dx,gs,rfl,sr.sub _ _ e3,e4.m1,qt H0 B Hf sd σ H _ sr (Po.bind h λds vs MB H1 _ g1 rs h1=>?_)⟩
  rw[BJ]
  have ro:RepS X.K MB (.fl a g q) (.ref a):=RepS.mono g1.fz rv
  exact Mt g1.sub (.cons ⟨rfl,ro⟩ (Mu rs)) h1
 .exact h.elim
end
def A1 (n:Str)(d:D):List (Str×D)->List (Str×D)
 |[]=>[(n,d)]
 |(g,x)::r=>if g=n then(g,d)::r else(g,x)::A1 n d r
def nN {K:PySem.W.Frag}{H:Hp}{r:List (Str×D)}{gs:List (Str×V)}(h:RepKV K H r gs)(n:Str){d:D}{v:V}(rv:Rep K H d v):RepKV K H (A1 n d r) (Ya n v gs):=by
 induction h with
 |nil=>exact .cons ⟨rfl,rv⟩ .nil
 | @cons p q l l' hp ht ih=>
  obtain⟨p1,p2⟩:=p
  obtain⟨q1,q2⟩:=q
  obtain⟨e,rp⟩:=hp
  have e:p1=q1:=e
  subst e
  unfold A1 Ya
  by_cases z:p1=n
  .rw[AC z,AC z];exact .cons ⟨rfl,rv⟩ ht
  .rw[AD z,AD z];exact .cons ⟨rfl,rp⟩ ih
def eV (K:PySem.W.Frag)(C:Addr)(Hf H:Hp)(a:Addr)(r:List (Str×D)):Prop:=∃dx gs,H a=some (.ins C dx gs)/\RepKV K Hf r gs
def Pp (K:PySem.W.Frag)(C:Addr)(F:List (Str×D)->List D->Option (List (Str×D))):Sp:=λvs H Q _=>∃Hf r ds a rest r',vs=.ref a::rest/\Same Hf H/\Hf a=none/\eV K C Hf H a r/\Reps K Hf ds rest/\F r ds=some r' /\
 ∀LZ H',GrM a Hf H LZ H'->eV K C LZ H' a r'->Q .non H'
theorem GrM.refl {a:Addr}{Hf H:Hp}(e:Same Hf H):GrM a Hf H Hf H:=⟨Same.refl _,e,λ_ _ _ q=>q,λ_ _ q=>q⟩
theorem GrM.trans {a:Addr}{Hf H MB H1 MI H2:Hp}(x:GrM a Hf H MB H1)(y:GrM a MB H1 MI H2)(hl:Lv H a->Lv H1 a):GrM a Hf H MI H2:=
 ⟨x.fz.trans y.fz,y.sub,λb u hb q=>y.all b u hb (x.all b u hb q),λb hb hn=>y.ban b (by
  by_cases e:b=a
  .subst e;exact hl hb
  .obtain⟨o,ho,n⟩:=hb
   exact⟨o,x.all b o e ho,n⟩) (x.ban b hb hn)⟩
def Sc {H:Hp}{a C dx:Addr}{gs:List (Str×V)}(h:H a=some (.ins C dx gs)):Lv H a:=⟨_,h,λ_ q=>by cases q⟩
def GrM.of_gr {a:Addr}{Hf H LZ H':Hp}(g:Gr Hf H LZ H'):GrM a Hf H LZ H':=⟨g.fz,g.sub,λb u _ q=>g.all b u q,g.ban⟩
structure TV (K:PySem.W.Frag) (C:Addr):Prop where
 oc:RW K "Track" C
 n1:NoAttr K C "begin"
 n2:NoAttr K C "square"
 n3:NoAttr K C "heading"
 n4:NoAttr K C "due"
 n5:NoAttr K C "lap"
def iO (r:List (Str×D))(n:Str):Option Int:=match r.lookup n with
 |some (.int i)=>some i
 |_=>none
def w9 {K:PySem.W.Frag}{H:Hp}{r:List (Str×D)}{gs:List (Str×V)}(h:RepKV K H r gs){n:Str}{i:Int}(e:iO r n=some i):gs.lookup n=some (.int i):=by
 unfold iO at e
 split at e
 .rename_i j ej
  cases e
  have k:=W8 h n
  rw[ej] at k
  obtain⟨v,e1,e2⟩:=k
  rw[rep_int] at e2
  rw[e1,e2]
 .cases e
structure ISt (K:PySem.W.Frag) (C a:Addr) (H0:Hp) (B:Addr->Prop) (Hb Hf:Hp) (sd:Zf) (σ:L2.St) (H:Hp) (r:List (Str×D)):Prop where
 fb:Same Hb Hf
 sr:SR K H0 B Hf sd σ H
 s0:σ[0]?=some (some (.ref a))
 h0:H0 a=none
 hf:Hf a=none
 im:∀(i:Nat) (t:S),sd[i]?=some (some t)->t.own=false
 at_:eV K C Hf H a r
section
variable {K:PySem.W.Frag}{C a:Addr}{H0:Hp}{B:Addr->Prop}{Hb Hf H LZ H':Hp}{sd:Zf}{σ:L2.St}{r:List (Str×D)}
theorem ISt.gr (x:ISt K C a H0 B Hb Hf sd σ H r)(g:Gr Hf H LZ H'):ISt K C a H0 B Hb LZ sd σ H' r:=by
 obtain⟨dx,gs,e1,e2⟩:=x.at_
 exact⟨x.fb.trans g.fz,x.sr.gr g,x.s0,x.h0,g.ban a (Sc e1) x.hf,x.im,dx,gs,g.all _ _ e1,e2.mono g.fz⟩
theorem ISt.upd (x:ISt K C a H0 B Hb Hf sd σ H r){dx:Addr}{gs:List (Str×V)}{r':List (Str×D)}(h:RepKV K Hf r' gs):ISt K C a H0 B Hb Hf sd σ (L2.upd H a (.ins C dx gs)) r':=by
 have sr:=x.sr
 refine⟨x.fb,⟨λb u q=>?_,λb u q=>?_,sr.ban,sr.bt,sr.len,sr.imS,λi t e o=>?_,λi j t u p aP e1 o1 _ _ _ _=>?_⟩,x.s0,x.h0,x.hf,x.im,dx,gs,Zo,h⟩
 .rw[Zl (Zt q x.hf)];exact sr.sub b u q
 .rw[Zl (Zt q x.h0)];exact sr.all b u q
 .rw[x.im i t e] at o;cases o
 .rw[x.im i t e1] at o1;cases o1
theorem ISt.set (x:ISt K C a H0 B Hb Hf sd σ H r)(i:Nat)(hi:i≠0){d:D}{v:V}(h:Rep K Hf d v):ISt K C a H0 B Hb Hf (sd.set i (some (.im d))) (σ.set i (some v)) H r:=by
 refine⟨x.fb,x.sr.set_im i h,(tR hi).trans x.s0,x.h0,x.hf,λj t e=>?_,x.at_⟩
 by_cases hj:i=j
 .subst hj
  have hl:i<sd.length:=by
   have:=(AG.mp e).1
   simpa using this
  rw[AK hl] at e
  cases e
  rfl
 .rw[AF hj] at e
  exact x.im j t e
end
def Lc {K:PySem.W.Frag}{N:List Str}{C:Addr}{Hf H:Hp}{r:List (Str×D)}{ds:List D}{a:Addr}{vs:List V}{m:Nat}(e:Same Hf H)(ea:Hf a=none)(ta:eV K C Hf H a r)(rs:Reps K Hf ds vs)(hN:N.length=ds.length+1+m):
  ISt K C a (Wp H a) (λb=>Lv (Wp H a) b/\Hf b=none) Hf Hf (none::(ds.map (λd=>some (S.im d))++List.replicate m none)) (L2.Y6 N (.ref a::vs)) H r:=by
 have hlen:=rs.length
 have es:L2.Y6 N (V.ref a::vs)=some (V.ref a)::(vs.map some++List.replicate m none):=by
  unfold L2.Y6
  rw[BA,LF,show N.length-(V.ref a::vs).length=m by rw[AW];lia]
 rw[es]
 have tl:∀(i:Nat) (t:S),(none::(ds.map (λd=>some (S.im d))++List.replicate m none))[i]?=some (some t)->t.own=false/\∃v,(some (V.ref a)::(vs.map some++List.replicate m none))[i]?=some (some v)/\RepS K Hf t v:=λi t h=>by
  cases i with
  |zero=>rw[IT] at h;cases h
  |succ i=>
   rw[ES] at h ⊢
   by_cases hl:i<ds.length
   .rw[BN (by simpa using hl),BP] at h
    cases q:ds[i]? with
    |none=>rw[q] at h;cases h
    |some d=>
     rw[q] at h
     cases h
     obtain⟨y,e1,e2⟩:=rs.get q
     have:i<vs.length:=(AG.mp e1).1
     exact⟨rfl,y,by rw[BN (by simpa using this),BP,e1];rfl,e2⟩
   .rw[BZ (by simpa using hl),CN] at h
    split at h<;>cases h
 refine⟨Same.refl _,⟨e,Ki H a,λ_ h=>h.2,λ_ h=>h.1,by simp[hlen],λi t h _=>(tl i t h).2,λi t h ho=>?_,λi j t u p aP h ho h' UU _ _=>?_⟩,rfl,Kj H a,ea,λi t h=>(tl i t h).1,ta⟩
 .rw[(tl i t h).1] at ho;cases ho
 .rw[(tl i t h).1] at ho;cases ho
def ISt.back {K:PySem.W.Frag}{C a:Addr}{Hf H LZ H':Hp}{sd:Zf}{σ:L2.St}{r:List (Str×D)}(x:ISt K C a (Wp H a) (λb=>Lv (Wp H a) b/\Hf b=none) Hf LZ sd σ H' r):GrM a Hf H LZ H':=by
 refine⟨x.fb,x.sr.sub,λb u hb hu=>x.sr.all b u ((X5 hb).trans hu),λb hb hn=>?_⟩
 by_cases kF:b=a
 .subst kF;exact x.hf
 .obtain⟨o,ho,OU⟩:=hb
  exact x.sr.ban b ⟨⟨o,(X5 kF).trans ho,OU⟩,hn⟩
abbrev Qs:=List (Str×D)
def Ee (X:Cx)(C:Addr)(e:Expr)(g:Zf->Qs->M D):Prop:=
 ∃t:TE,PE X e t/\∀(a:Addr) (H0:Hp) (B:Addr->Prop) (Hb Hf:Hp) (sd:Zf) (σ:L2.St) (H:Hp) (r:Qs) (Q:VK),ISt X.K C a H0 B Hb Hf sd σ H r->Po X.K E0 (rV X.K) Hf H (g sd r) Q->t σ H Q
def dW (X:Cx)(C:Addr)(e:Expr)(g:Zf->Qs->M Bool):Prop:=
 ∃t:TT,PT X e t/\∀(a:Addr) (H0:Hp) (B:Addr->Prop) (Hb Hf:Hp) (sd:Zf) (σ:L2.St) (H:Hp) (r:Qs) (Q:Bool->Hp->Prop),ISt X.K C a H0 B Hb Hf sd σ H r->Po X.K E0 rQ Hf H (g sd r) Q->t σ H Q
def iN (K:PySem.W.Frag)(C a:Addr)(H0:Hp)(B:Addr->Prop)(Hb:Hp)(o:Option (Zf×Qs))(D':Ends):Prop:=match o with
 |some x=>∀σ' LZ H',ISt K C a H0 B Hb LZ x.1 σ' H' x.2->D'.nx σ' H'
 |none=>False
def aA (X:Cx)(C:Addr)(st:Stmt)(g:Zf->Qs->Option (Zf×Qs)):Prop:=
 ∃t:TS,PS X st t/\∀(a:Addr) (H0:Hp) (B:Addr->Prop) (Hb Hf:Hp) (sd:Zf) (σ:L2.St) (H:Hp) (r:Qs) (D':Ends),ISt X.K C a H0 B Hb Hf sd σ H r->iN X.K C a H0 B Hb (g sd r) D'->t D' σ H
def Ef (X:Cx)(C:Addr)(st:List Stmt)(g:Zf->Qs->Option (Zf×Qs)):Prop:=
 ∃t:TS,PSs X st t/\∀(a:Addr) (H0:Hp) (B:Addr->Prop) (Hb Hf:Hp) (sd:Zf) (σ:L2.St) (H:Hp) (r:Qs) (D':Ends),ISt X.K C a H0 B Hb Hf sd σ H r->iN X.K C a H0 B Hb (g sd r) D'->t D' σ H
def iM {α:Type}:M α->Option α
 |.ok a=>some a
 |_=>none
def ig (sd:Zf)(r:Qs):Option (Zf×Qs):=some (sd,r)
def Kk (f g:Zf->Qs->Option (Zf×Qs))(sd:Zf)(r:Qs):Option (Zf×Qs):=(f sd r).bind λx=>g x.1 x.2
def VZ (c:Zf->Qs->M Bool)(f g:Zf->Qs->Option (Zf×Qs))(sd:Zf)(r:Qs):Option (Zf×Qs):=(iM (c sd r)).bind λb=>if b then f sd r else g sd r
def Nk (n:Str)(e:Zf->Qs->M D)(sd:Zf)(r:Qs):Option (Zf×Qs):=(iM (e sd r)).bind λd=>if r.length<=900 then some (sd,A1 n d r) else none
def O3 (i:Nat)(e:Zf->Qs->M D)(sd:Zf)(r:Qs):Option (Zf×Qs):=(iM (e sd r)).bind λd=>some (sd.set i (some (.im d)),r)
def cP (n:Str)(e:Zf->Qs->M D)(sd:Zf)(r:Qs):Option (Zf×Qs):=match iO r n,e sd r with
 |some i,.ok (.int j)=>if r.length<=900 then some (sd,A1 n (.int (i+j)) r) else none
 |_,_=>none
def F4 (m:Str)(F:Qs->List D->Option Qs)(sd:Zf)(r:Qs):Option (Zf×Qs):=if r.lookup m=none then(F r []).map λr'=>(sd,r') else none
def J2 (f:Zf->M D)(sd:Zf)(_:Qs):M D:=f sd
def V1 (n:Str)(_:Zf)(r:Qs):M D:=match r.lookup n with
 |some d=>.ok d
 |none=>.bad
def C7 (g:D->D->M D)(fa fb:Zf->Qs->M D)(sd:Zf)(r:Qs):M D:=(fa sd r).bind λx=>(fb sd r).bind λy=>g x y
def eU (c:Zf->Qs->M Bool)(fa fb:Zf->Qs->M D)(sd:Zf)(r:Qs):M D:=(c sd r).bind λb=>if b then fa sd r else fb sd r
def gB (f:Zf->Qs->M D)(sd:Zf)(r:Qs):M Bool:=(f sd r).bind asB
section
variable {X:Cx}{C:Addr}{pos pos' p p1 apos WB:Pos}{e e1 e2:Expr}{x vn n m:Str}
def Y4 {f:Zf->M D}(h:Yt X E0 e f):Ee X C e (J2 f):=by
 obtain⟨t,pt,q⟩:=h
 exact⟨t,pt,λa H0 B Hb Hf sd σ H r Q x h=>q H0 B Hf sd σ H Q x.sr h⟩
def Vn (cl:Cls X.K C)(na:NoAttr X.K C n)(hN:X.N[0]?=some vn:=by rfl)(hv:Gm X.env.scope vn:=by trivial) (hd:(vn==("__debug__":Str))=false:=by decide)
  (MV:(vn==("__classdict__":Str))=false:=by decide) (hb:attributeBase (.Name vn p) n X.env (eval (.Name vn p) X.env)=eval (.Name vn p) X.env:=by rfl):Ee X C (.Attribute (.Name vn p) n pos) (V1 n):=by
 refine⟨_,V6 (Z6 hN hv hd MV) hb,λa H0 B Hb Hf sd σ H r Q x h=>?_⟩
 obtain⟨dx,gs,e1,e2⟩:=x.at_
 have k:=W8 e2 n
 unfold V1 at h
 split at h
 .rename_i d ed
  rw[ed] at k
  obtain⟨v,l,rv⟩:=k
  exact⟨.ref a,x.s0,a,C,dx,gs,v,rfl,e1,cl,na,l,Po.ret (R:=rV X.K) x.sr.sub h rv⟩
 .exact h.elim
def lL {fa fb:Zf->Qs->M D}{g:D->D->M D}{ta tb:TE}{rr:R2}{a:Addr}{H0:Hp}{B:Addr->Prop}{Hb Hf:Hp}{sd:Zf}{σ:L2.St}{H:Hp}{r:Qs}{Q:VK}(qa:∀(a:Addr) (H0:Hp) (B:Addr->Prop) (Hb Hf:Hp) (sd:Zf) (σ:L2.St) (H:Hp) (r:Qs) (Q:VK),ISt X.K C a H0 B Hb Hf sd σ H r->Po X.K E0 (rV X.K) Hf H (fa sd r) Q->ta σ H Q)(qb:∀(a:Addr) (H0:Hp) (B:Addr->Prop) (Hb Hf:Hp) (sd:Zf) (σ:L2.St) (H:Hp) (r:Qs) (Q:VK),ISt X.K C a H0 B Hb Hf sd σ H r->Po X.K E0 (rV X.K) Hf H (fb sd r) Q->tb σ H Q)(hr:∀(Hf H:Hp) (x y:V) (dx dy:D) (Q:VK),Same Hf H->Rep X.K Hf dx x->Rep X.K Hf dy y->Po X.K E0 (rV X.K) Hf H (g dx dy) Q->rr x y H Q)(x:ISt X.K C a H0 B Hb Hf sd σ H r)(h:Po X.K E0 (rV X.K) Hf H (C7 g fa fb sd r) Q):au rr ta tb σ H Q:=by
 refine qa a H0 B Hb Hf sd σ H r _ x (Po.bind h λd1 v1 MB H1 _ g1 r1 h1=>?_)
 refine qb a H0 B Hb MB sd σ H1 r _ (x.gr g1) (Po.bind h1 λd2 v2 MI H2 _ g2 r2 h2=>?_)
 exact hr MI H2 v1 v2 d1 d2 Q g2.sub (Rep.mono g2.fz r1) r2 h2
def nM {op:Operator}{g:D->D->M D}{fa fb:Zf->Qs->M D}(ho:Rn X E0 (binaryOp op) g)(ha:Ee X C e1 fa)(hb:Ee X C e2 fb):Ee X C (.BinOp e1 op e2 pos) (C7 g fa fb):=by
 obtain⟨r,hr,qr⟩:=ho
 obtain⟨ta,pa,qa⟩:=ha
 obtain⟨tb,pb,qb⟩:=hb
 exact⟨_,mh hr pa pb,λa H0 B Hb Hf sd σ H r Q x h=>lL qa qb qr x h⟩
def kz (g:D->M D)(fa:Zf->Qs->M D)(sd:Zf)(r:Qs):M D:=(fa sd r).bind g
def v9 {op:UnaryOp}{g:D->M D}{fa:Zf->Qs->M D}(ho:iR X E0 (unaryOp op) g)(ha:Ee X C e1 fa):Ee X C (.UnaryOp op e1 pos) (kz g fa):=by
 obtain⟨r,hr,qr⟩:=ho
 obtain⟨ta,pa,qa⟩:=ha
 refine⟨_,mf hr pa,λa H0 B Hb Hf sd σ H r Q x h=>?_⟩
 refine qa a H0 B Hb Hf sd σ H r _ x (Po.bind h λd v MB H1 _ g1 rv h1=>?_)
 exact qr MB H1 v d Q g1.sub rv h1
def F5 {op:CmpOp}{g:D->D->M D}{fa fb:Zf->Qs->M D}(ho:Rn X E0 (compareOp op) g)(ha:Ee X C e1 fa)(hb:Ee X C e2 fb)(hm:behindInMarks op e2=false):dW X C (.Compare e1 [op] [e2] pos) (gB (C7 g fa fb)):=by
 obtain⟨r,hr,qr⟩:=ho
 obtain⟨ta,pa,qa⟩:=ha
 obtain⟨tb,pb,qb⟩:=hb
 refine⟨_,Lz hr pa pb hm,λa H0 B Hb Hf sd σ H r Q x h=>?_⟩
 refine lL qa qb qr x (Po.bind h λd v MB H1 _ g1 rv h1=>?_)
 unfold asB at h1
 split at h1
 .exact⟨_,rep_bl.mp rv,Po.ret (R:=rQ) g1.sub h1 rfl⟩
 .exact h1.elim
def F6 {f:Zf->M Bool}(h:B8 X E0 e f):dW X C e (λsd _=>f sd):=by
 obtain⟨t,pt,q⟩:=h
 exact⟨t,pt,λa H0 B Hb Hf sd σ H r Q x h=>q H0 B Hf sd σ H Q x.sr h⟩
def v5 {c:Zf->Qs->M Bool}{fa fb:Zf->Qs->M D}{ce:Expr}(hc:dW X C ce c)(ha:Ee X C e1 fa)(hb:Ee X C e2 fb):Ee X C (.IfExp ce e1 e2 pos) (eU c fa fb):=by
 obtain⟨tc,pc,qc⟩:=hc
 obtain⟨ta,pa,qa⟩:=ha
 obtain⟨tb,pb,qb⟩:=hb
 refine⟨_,B1 pc pa pb,λa H0 B Hb Hf sd σ H r Q x h=>?_⟩
 refine qc a H0 B Hb Hf sd σ H r _ x (Po.bind (R:=rQ) h λb v MB H1 _ g1 rv h1=>?_)
 have e:b=v:=rv
 subst e
 cases b with
 |true=>rw[AC rfl] at h1 ⊢;exact qa a H0 B Hb MB sd σ H1 r Q (x.gr g1) h1
 |false=>rw[AD AY] at h1 ⊢;exact qb a H0 B Hb MB sd σ H1 r Q (x.gr g1) h1
def F7:Ef X C [] ig:=⟨_,Pt,λ_ _ _ _ Hf _ _ _ _ _ x h=>h _ Hf _ x⟩
def K0 {st:Stmt}{g:Zf->Qs->Option (Zf×Qs)}(h:aA X C st g):Ef X C [st] g:=by
 obtain⟨t,pt,q⟩:=h
 exact⟨t,Xo pt,q⟩
def Xb {st:Stmt}{rest:List Stmt}{f g:Zf->Qs->Option (Zf×Qs)}(h:aA X C st f)(h2:Ef X C rest g):Ef X C (st::rest) (Kk f g):=by
 obtain⟨t,pt,q⟩:=h
 obtain⟨t2,SS,q2⟩:=h2
 refine⟨_,Qp pt SS,λa H0 B Hb Hf sd σ H r D' x h=>?_⟩
 refine q a H0 B Hb Hf sd σ H r _ x ?_
 unfold Kk at h
 cases e:f sd r with
 |none=>rw[e] at h;exact h.elim
 |some y=>
  rw[e] at h
  exact λσ' LZ H' x'=>q2 a H0 B Hb LZ y.1 σ' H' y.2 D' x' h
def Eg {c:Expr}{xs ys:List Stmt}{k:Zf->Qs->M Bool}{f g:Zf->Qs->Option (Zf×Qs)}(hc:dW X C c k)(h:Ef X C xs f)(h2:Ef X C ys g):aA X C (.If c xs ys pos) (VZ k f g):=by
 obtain⟨t,pt,q⟩:=hc
 obtain⟨t1,oh,q1⟩:=h
 obtain⟨t2,SS,q2⟩:=h2
 refine⟨_,E9 pt oh SS,λa H0 B Hb Hf sd σ H r D' x h=>?_⟩
 refine q a H0 B Hb Hf sd σ H r _ x ?_
 unfold VZ at h
 cases ek:k sd r with
 |ok b=>
  rw[ek] at h
  intro v MB H1 g1 rv
  have e:b=v:=rv
  subst e
  cases b with
  |true=>exact q1 a H0 B Hb MB sd σ H1 r D' (x.gr g1) h
  |false=>exact q2 a H0 B Hb MB sd σ H1 r D' (x.gr g1) h
 |ex z=>rw[ek] at h;exact h.elim
 |bad=>rw[ek] at h;exact h.elim
def J3 {g:Zf->Qs->M D}(cl:Cls X.K C)(na:NoAttr X.K C n)(he:Ee X C e g)(hN:X.N[0]?=some vn:=by rfl)(hv:Gm X.env.scope vn:=by trivial) (hd:(vn==("__debug__":Str))=false:=by decide)
  (MV:(vn==("__classdict__":Str))=false:=by decide) (hs:swapsWith e (some (.Attribute (.Name vn p) n pos')) pos.line X.env=pure false:=by rfl):aA X C (.Assign [.Attribute (.Name vn p) n pos'] e pos) (Nk n g):=by
 obtain⟨t,pt,q⟩:=he
 refine⟨_,L4 (Z6 hN hv hd MV) pt hs,λa H0 B Hb Hf sd σ H r D' x h=>?_⟩
 refine q a H0 B Hb Hf sd σ H r _ x ?_
 unfold Nk at h
 cases ek:g sd r with
 |ok d=>
  rw[ek] at h
  intro v MB H1 g1 rv
  have y:=x.gr g1
  obtain⟨dx,gs,e1,e2⟩:=y.at_
  have hl:=RepKV.length e2
  have h:iN X.K C a H0 B Hb (if r.length<=900 then some (sd,A1 n d r) else none) D':=h
  split at h
  .exact⟨.ref a,x.s0,a,C,dx,gs,rfl,e1,cl,na,by lia,h σ MB _ (y.upd (nN e2 n rv))⟩
  .exact h.elim
 |ex z=>rw[ek] at h;exact h.elim
 |bad=>rw[ek] at h;exact h.elim
def F8 (i:Nat){g:Zf->Qs->M D}(hN:X.N.Nodup)(he:Ee X C e g)(h0:i≠0:=by decide)(hi:X.N[i]?=some x:=by rfl)(hx:VJ X.env.scope x:=by trivial)(hs:swapsWith e (some (.Name x pos')) pos.line X.env=pure false:=by rfl)(hf:X.fn x=true\/X.env.scope.names.lookup x=some .local:=by first|exact .inl rfl|exact .inr rfl|assumption):aA X C (.Assign [.Name x pos'] e pos) (O3 i g):=by
 obtain⟨t,pt,q⟩:=he
 refine⟨_,V5 hN hi hx pt hs hf,λa H0 B Hb Hf sd σ H r D' x h=>?_⟩
 refine q a H0 B Hb Hf sd σ H r _ x ?_
 unfold O3 at h
 cases ek:g sd r with
 |ok d=>
  rw[ek] at h
  intro v MB H1 g1 rv
  exact h _ MB H1 ((x.gr g1).set i h0 rv)
 |ex z=>rw[ek] at h;exact h.elim
 |bad=>rw[ek] at h;exact h.elim
def Mv {g:Zf->Qs->M D}(cl:Cls X.K C)(na:NoAttr X.K C n)(he:Ee X C e g)(hN:X.N[0]?=some vn:=by rfl)(hv:Gm X.env.scope vn:=by trivial) (hd:(vn==("__debug__":Str))=false:=by decide)
  (MV:(vn==("__classdict__":Str))=false:=by decide):aA X C (.AugAssign (.Attribute (.Name vn p) n WB) .Add e pos) (cP n g):=by
 obtain⟨t,pt,q⟩:=he
 refine⟨_,Iz (Z6 hN hv hd MV) pt xG,λa H0 B Hb Hf sd σ H r D' x h=>?_⟩
 unfold cP at h
 split at h
 .rename_i i j ei ej
  obtain⟨dx,gs,e1,e2⟩:=x.at_
  refine⟨.ref a,x.s0,a,C,dx,gs,.int i,rfl,e1,cl,na,w9 e2 ei,q a H0 B Hb Hf sd σ H r _ x ?_⟩
  rw[ej]
  intro v MB H1 g1 rv
  have y:=x.gr g1
  obtain⟨VC,aS,iD,dO⟩:=y.at_
  have hl:=RepKV.length dO
  split at h
  .exact⟨i,j,rfl,rep_int.mp rv,VC,aS,iD,by lia,h σ MB _ (y.upd (nN dO n (rep_int.mpr rfl)))⟩
  .exact h.elim
 .exact h.elim
end
def VY (n m:Nat)(g:Zf->Qs->Option (Zf×Qs))(r:Qs)(ds:List D):Option Qs:=if ds.length=n then(g (none::(ds.map (λd=>some (S.im d))++List.replicate m none)) r).map (·.2) else none
def eS {P:Program}{w:World}{K:PySem.W.Frag}{mg:Str->Option Value}{base:Heap}{x qual:Str}{st:Stmt}{f C:Addr}{fd:FuncData}{N ps:List Str}{k m n:Nat}{fb:Zf->Qs->Option (Zf×Qs)}(F:Fun K x qual st f fd)(sc:MA N ps (Zg st))(hn:ps.length=n+1)(hN:N.length=n+1+m)(ND:∀(ME:Value) (A:Around) (outer:List Env) (s:Shared) (H:Hp) (E:XK),Room k (A.deeper (envOfC qual (Zg st) s.heap.objs.size f ME)) ->
   Ef (Jl Yi P w K mg base N qual (Zg st) f ME A outer s H E).nox C (Qz st) fb):MC P w K mg base Yi (k+1) f fd ps (Pp K C (VY n m fb)):=by
 refine F.ok sc (λvs H Q E h=>?_) (λME A outer s H vs Q E hr h=>?_)
 .obtain⟨Hf,r,ds,a,rest,r',rfl,e,ea,ta,rs,hF,q⟩:=h
  unfold VY at hF
  split at hF
  .rename_i hl
   rw[AW,<-rs.length,hl,hn]
  .cases hF
 .obtain⟨Hf,r,ds,a,rest,r',rfl,e,ea,ta,rs,hF,q⟩:=h
  obtain⟨t,p,qt⟩:=ND ME A outer s H E hr
  unfold VY at hF
  split at hF
  .rename_i hl
   obtain⟨y,ey,er⟩:=CY.mp hF
   refine⟨t,p,qt a _ _ Hf Hf _ (L2.Y6 N (.ref a::rest)) H r _ (Lc (N:=N) (m:=m) e ea ta rs (by lia)) ?_⟩
   rw[ey]
   intro σ' LZ H' x'
   rw[er] at x'
   exact q LZ H' x'.back x'.at_
  .cases hF
section
variable {X:Cx}{C:Addr}{pos p apos spos:Pos}{vn m:Str}{k:Nat}{f:Addr}{fd:FuncData}{ps:List Str}{F:Qs->List D->Option Qs}
def A2 {pl:Sem Bool}(cl:Cls X.K C)(hm:NI X.K C m f)(G:MC X.prog X.w X.K X.mg X.base Yi k f fd ps (Pp X.K C F))(hr:Room k X.A)(hb:Binds X.K fd ps [])(hN:X.N[0]?=some vn:=by rfl)(hv:Gm X.env.scope vn:=by trivial) (hd:(vn==("__debug__":Str))=false:=by decide) (MV:(vn==("__classdict__":Str))=false:=by decide)
  (ht:eval (.Call (.Attribute (.Name vn p) m apos) [] [] pos) X.env=(do
   let ov <-eval (.Name vn p) X.env
   standAt apos.atName
   let (f,first) <-holding [ov] (getMethod ov m pl)
   callWith pos f first (backTo pos (starEach [] X.env)) (backToKw pos (keywordEach [] X.env))):=by rfl)
  (hs:swapsWith (.Call (.Attribute (.Name vn p) m apos) [] [] pos) none spos.line X.env=pure false:=by rfl):aA X C (.Expr (.Call (.Attribute (.Name vn p) m apos) [] [] pos) spos) (F4 m F):=by
 refine⟨_,Us (B3 (dvs:=[]) (E:=E0) (pl:=pl) (Z6 hN hv hd MV) cl hm G hr hb .nil Kf ht) hs,λa H0 B Hb Hf sd σ H r D' x h=>?_⟩
 unfold F4 at h
 split at h
 .rename_i hl
  obtain⟨dx,gs,e1,e2⟩:=x.at_
  have kl:=W8 e2 m
  rw[hl] at kl
  cases eF:F r [] with
  |none=>rw[eF] at h;exact h.elim
  |some r'=>
   rw[eF] at h
   refine⟨.ref a,x.s0,a,dx,gs,rfl,e1,kl,Hf,r,[],a,[],r',rfl,x.sr.sub,x.hf,⟨dx,gs,e1,e2⟩,Reps.nil,eF,λLZ H' g ta=>?_⟩
   have sr:=x.sr
   refine h σ LZ H' ⟨x.fb.trans g.fz,⟨g.sub,λb u q=>g.all b u (Zt q x.h0) (sr.all b u q),λb hb=>g.ban b (sr.all.lv (sr.bt b hb)) (sr.ban b hb),sr.bt,sr.len,λi t e z=>?_,λi t e o=>?_,λi j t u p aP e1 o1 _ _ _ _=>?_⟩,x.s0,x.h0,g.ban a (Sc e1) x.hf,x.im,ta⟩
   .obtain⟨v,z1,z2⟩:=sr.imS i t e z
    exact⟨v,z1,z2.mono g.fz⟩
   .rw[x.im i t e] at o;cases o
   .rw[x.im i t e1] at o1;cases o1
 .exact h.elim
end
section
variable {K:PySem.W.Frag}{H:Hp}{a:Addr}{o:HO}
def eR (o:HO):Prop:=(∀xs:List V,o≠HO.tup xs)/\(∀xs:List V,o≠HO.lst xs)/\∀(u:Obj) (v:HO),o≠HO.frz u v
def X6 {C dx:Addr}{gs:List (Str×V)}:eR (.ins C dx gs):=⟨λ_ z=>HO.noConfusion z,λ_ z=>HO.noConfusion z,λ_ _ z=>HO.noConfusion z⟩
def F9 {b:Addr}{u:HO}(h:H a=some o)(e:H b=some u)(ne:u≠o):Wp H a b=some u:=by
 rw[X5 λz=>by subst z;rw[h] at e;cases e;exact ne rfl]
 exact e
mutual
theorem Rep.rm (h:H a=some o)(n:eR o):∀{d:D}{v:V},Rep K H d v->Rep K (Wp H a) d v
 |.non,_,q=>by unfold Rep at q ⊢;exact q
 |.bl _,_,q=>by unfold Rep at q ⊢;exact q
 |.int _,_,q=>by unfold Rep at q ⊢;exact q
 |.str _,_,q=>by unfold Rep at q ⊢;exact q
 |.tup ds,_,q=>by
  unfold Rep at q ⊢
  obtain⟨b,xs,e1,e2,e3⟩:=q
  exact⟨b,xs,e1,F9 h e2 (CQ (n.1 xs)),Reps.rm h n e3⟩
 |.lst ds,_,q=>by
  unfold Rep at q ⊢
  obtain⟨b,xs,e1,e2,e3⟩:=q
  refine⟨b,xs,e1,?_,Reps.rm h n e3⟩
  rcases e2 with(z|⟨u,z⟩)|z
  .exact .inl (.inl (F9 h z (CQ (n.2.1 xs))))
  .exact .inl (.inr ⟨u,F9 h z (CQ (n.2.2 _ _))⟩)
  .exact .inr z
theorem Reps.rm (h:H a=some o)(n:eR o):∀{ds:List D}{xs:List V},Reps K H ds xs->Reps K (Wp H a) ds xs
 |[],_,q=>by unfold Reps at q ⊢;exact q
 |d::ds,_,q=>by
  unfold Reps at q ⊢
  obtain⟨x,r,e1,e2,e3⟩:=q
  exact⟨x,r,e1,Rep.rm h n e2,Reps.rm h n e3⟩
end
theorem RepKV.rm {κ:Type}{l:List (κ×D)}{m:List (κ×V)}(h:H a=some o)(n:eR o)(r:RepKV K H l m):RepKV K (Wp H a) l m:=Paired.mapP r λ_ _ q=>⟨q.1,q.2.rm h n⟩
end
def S.adr:S->Option Addr
 |.ob a _ _=>some a
 |.fl a _ _=>some a
 |_=>none
section
variable {K:PySem.W.Frag}{H0 Hf H:Hp}{B:Addr->Prop}{sd:Zf}{σ:L2.St}{a C dx:Addr}{gs:List (Str×V)}
theorem RepS.rm (h:Hf a=some (.ins C dx gs)){t:S}{v:V}(ht:t.adr≠some a)(hx:∀x,t≠.xc x)(q:RepS K Hf t v):RepS K (Wp Hf a) t v:=by
 cases t with
 |im d=>exact Rep.rm h X6 q
 |xc x=>exact absurd rfl (hx x)
 |fn x=>exact q
 |ob b c r=>
  obtain⟨C',VC,aS,e1,e2,e3,e4⟩:=q
  have:b≠a:=λz=>ht (by rw[z];rfl)
  exact⟨C',VC,aS,e1,e2,(X5 this).trans e3,e4.rm h X6⟩
 |fl b g q'=>
  obtain⟨C',VC,aS,d,k,ys,e1,e2,e3,e4,e5,e6⟩:=q
  have:b≠a:=λz=>ht (by rw[z];rfl)
  exact⟨C',VC,aS,d,k,ys,e1,e2,(X5 this).trans e3,⟨let ⟨v,z1,z2⟩:=e4.hall;⟨v,z1,z2.rm h X6⟩,e4.sq,e4.kn,e4.m1,e4.m2⟩,F9 h e5 (by intro z;cases z),e6.rm h X6⟩
 |ow ds=>trivial
 |od kvs=>trivial
 |dk kvs=>trivial
def ug (h:Hf a=some (.ins C dx gs)){p:Addr}{t:S}(q:S.at K Hf H p t):S.at K (Wp Hf a) H p t:=by
 cases t with
 |im d=>exact q.elim
 |xc x=>exact q.elim
 |fn x=>exact q.elim
 |ob b c r=>exact q.elim
 |fl b g q'=>exact q.elim
 |ow ds=>obtain⟨xs,e1,e2⟩:=q;exact⟨xs,e1,e2.rm h X6⟩
 |od kvs=>obtain⟨ys,e1,e2⟩:=q;exact⟨ys,e1,e2.rm h X6⟩
 |dk kvs=>obtain⟨ys,e1,e2⟩:=q;exact⟨ys,e1,e2.rm h X6⟩
def A3 {p:Addr}{t:S}(q:S.at K Hf H p t)(h:H a=some (.ins C dx gs)):p≠a:=by
 rintro rfl
 cases t with
 |im d=>exact q.elim
 |xc x=>exact q.elim
 |fn x=>exact q.elim
 |ob b c r=>exact q.elim
 |fl b g q'=>exact q.elim
 |ow ds=>obtain⟨xs,e1,_⟩:=q;rw[h] at e1;cases e1
 |od kvs=>obtain⟨ys,e1,_⟩:=q;rw[h] at e1;cases e1
 |dk kvs=>obtain⟨ys,e1,_⟩:=q;rw[h] at e1;cases e1
def SR.fzO (r:SR K H0 B Hf sd σ H){i:Nat}{c:Str}{rr:Qs}(hs:sd[i]?=some none)(hσ:σ[i]?=some (some (.ref a)))(hC:PySem.W.nsIn K mainGlobals c=some (some (.ref C)))(h:H a=some (.ins C dx gs))(rk:RepKV K Hf rr gs)(h0:H0 a=none)(hf:Hf a=none):
  SR K H0 B (upd Hf a (.ins C dx gs)) (sd.set i (some (.ob a c rr))) σ H:=by
 have sm:=Qa hf (.ins C dx gs)
 have hl:i<sd.length:=(AG.mp hs).1
 have back:∀{j:Nat}{w:S},i≠j->(sd.set i (some (S.ob a c rr)))[j]?=some (some w)->sd[j]?=some (some w):=λ{j w} n e=>by rwa[AF n] at e
 have own:∀{j:Nat}{w:S},(sd.set i (some (S.ob a c rr)))[j]?=some (some w)->w.own=true->i≠j:=λ{j w} e o z=>by
  subst z
  rw[AK hl] at e
  cases e
  cases o
 refine⟨λb u q=>?_,r.all,λb hb=>?_,r.bt,by rw[CA];exact r.len,λj t e z=>?_,λj t e o=>?_,λj k t u p hjk e1 o1 e2 o2 e3 e4=>r.sep j k t u p hjk (back (own e1 o1) e1) o1 (back (own e2 o2) e2) o2 e3 e4⟩
 .by_cases hb:b=a
  .subst hb;rw[Zo] at q;rw[h];exact q
  .rw[Zl hb] at q;exact r.sub b u q
 .have:b≠a:=λz=>(r.bt b hb).nn (z▸h0)
  rw[Zl this];exact r.ban b hb
 .by_cases n:i=j
  .subst n
   rw[AK hl] at e
   cases e
   exact⟨_,hσ,(⟨C,dx,gs,rfl,hC,Zo,rk.mono sm⟩:RepO K _ a c rr (.ref a))⟩
  .obtain⟨v,e1,e2⟩:=r.imS j t (back n e) z
   exact⟨v,e1,e2.mono sm⟩
 .obtain⟨p,e1,e2,e3,e4⟩:=r.ow j t (back (own e o) e) o
  exact⟨p,e1,e2,by rw[Zl (A3 e4 h)];exact e3,Vf e4 sm λ_ z=>z⟩
def SR.thO (r:SR K H0 B Hf sd σ H){i:Nat}{c:Str}{rr:Qs}(hs:sd[i]?=some (some (.ob a c rr)))(hu:∀(j:Nat) (t:S),j≠i->sd[j]?=some (some t)->t.adr≠some a/\∀x,t≠.xc x):
  σ[i]?=some (some (.ref a))/\∃C dx gs,PySem.W.nsIn K mainGlobals c=some (some (.ref C))/\H a=some (.ins C dx gs)/\RepKV K (Wp Hf a) rr gs/\SR K H0 B (Wp Hf a) (sd.set i none) σ H:=by
 obtain⟨v,e1,C,dx,gs,rfl,e2,e3,e4⟩:=r.imS i _ hs rfl
 have hl:i<sd.length:=(AG.mp hs).1
 have ne:∀{j:Nat}{w:S},(sd.set i none)[j]?=some (some w)->i≠j:=λ{j w} e z=>by
  subst z
  rw[AK hl] at e
  cases e
 have back:∀{j:Nat}{w:S},(sd.set i none)[j]?=some (some w)->sd[j]?=some (some w):=λ{j w} e=>by
  have n:=ne e
  rwa[AF n] at e
 refine⟨e1,C,dx,gs,e2,r.sub _ _ e3,e4.rm e3 X6,?_⟩
 refine⟨λb u q=>r.sub b u (Ki Hf a b u q),r.all,λb hb=>?_,r.bt,by rw[CA];exact r.len,λj t e z=>?_,λj t e o=>?_,λj k t u p hjk e1 o1 e2 o2 e3 e4=>r.sep j k t u p hjk (back e1) o1 (back e2) o2 e3 e4⟩
 .by_cases z:b=a
  .subst z;exact Kj Hf b
  .rw[X5 z];exact r.ban b hb
 .obtain⟨v,z1,z2⟩:=r.imS j t (back e) z
  obtain⟨u1,u2⟩:=hu j t (CQ (ne e)) (back e)
  exact⟨v,z1,z2.rm e3 u1 u2⟩
 .obtain⟨p,z1,z2,z3,z4⟩:=r.ow j t (back e) o
  refine⟨p,z1,z2,?_,ug e3 z4⟩
  by_cases z:p=a
  .subst z;exact Kj Hf p
  .rw[X5 z];exact z3
end
def A4:List D->M D
 |[.int a,.int b]=>.ok (.int (if b > a then b else a))
 |_=>.bad
def jB:List D->M D
 |[.int a,.int b,.int c]=>.ok (.int (min (min a b) c))
 |_=>.bad
section
variable {X:Cx}{E:XK}
def zL (hc:X.calm=true):Vz X E (.builtin "max") A4:=by
 refine⟨_,Ix hc,λHf H xs ds Q e r q=>?_⟩
 unfold A4 at q
 split at q
 .rename_i a b
  obtain⟨x,r1,rfl,h1,h2⟩:=reps_cons.mp r
  obtain⟨y,r2,rfl,h3,h4⟩:=reps_cons.mp h2
  rw[reps_nil.mp h4,rep_int.mp h1,rep_int.mp h3]
  exact⟨a,b,rfl,Po.ret (R:=rV X.K) e q (rep_int.mpr rfl)⟩
 .exact q.elim
def O4 (hc:X.calm=true):CallR X (.builtin "min") (λxs H Q=>∃a b c,xs=[.int a,.int b,.int c]/\Q (.int (min (min a b) c)) H):=by
 intro pins s σ H xs us Q I r h
 obtain⟨a,b,c,rfl,q⟩:=h
 cases r with
 |cons r1 r=>
  cases r with
  |cons r2 r=>
   cases r with
   |cons r3 r=>
    cases r
    obtain⟨t,rfl⟩:=r1
    obtain⟨u,rfl⟩:=r2
    obtain⟨v,rfl⟩:=r3
    refine min_three_ints (I.ok.hd hc) λh' tk keep=>?_
    refine⟨.int (min (min a b) c),H,I.kept keep,?_,q⟩
    by_cases h1:b<a
    .by_cases h2:c<b
     .simp only[h1,h2,EB]
      exact⟨_,by rw[show min (min a b) c=c by omega]⟩
     .simp only[h1,h2,EB,DQ]
      exact⟨_,by rw[show min (min a b) c=b by omega]⟩
    .by_cases h2:c<a
     .simp only[h1,h2,EB,DQ]
      exact⟨_,by rw[show min (min a b) c=c by omega]⟩
     .simp only[h1,h2,DQ]
      exact⟨_,by rw[show min (min a b) c=a by omega]⟩
def zK (hc:X.calm=true):Vz X E (.builtin "min") jB:=by
 refine⟨_,O4 hc,λHf H xs ds Q e r q=>?_⟩
 unfold jB at q
 split at q
 .rename_i a b c
  obtain⟨x,r1,rfl,h1,h2⟩:=reps_cons.mp r
  obtain⟨y,r2,rfl,h3,h4⟩:=reps_cons.mp h2
  obtain⟨z,r3,rfl,h5,h6⟩:=reps_cons.mp h4
  rw[reps_nil.mp h6,rep_int.mp h1,rep_int.mp h3,rep_int.mp h5]
  exact⟨a,b,c,rfl,Po.ret (R:=rV X.K) e q (rep_int.mpr rfl)⟩
 .exact q.elim
end
def FlK (K:PySem.W.Frag)(Hf:Hp)(a:Addr)(g:D)(q:List (List Q9×D))(k:Addr):Prop:=∃C dx gs d ys,PySem.W.nsIn K mainGlobals "Floor"=some (some (.ref C))/\Hf a=some (.ins C dx gs)/\FlG K Hf g d k gs/\Hf d=some (.dT ys)/\RepKV K Hf q ys
theorem FlK.fl {K:PySem.W.Frag}{Hf:Hp}{a k:Addr}{g:D}{q:List (List Q9×D)}(h:FlK K Hf a g q k):RepS K Hf (.fl a g q) (.ref a):=by
 obtain⟨C,dx,gs,d,ys,e1,e2,e3,e4,e5⟩:=h
 exact⟨C,dx,gs,d,k,ys,rfl,e1,e2,e3,e4,e5⟩
theorem FlK.mono {K:PySem.W.Frag}{Hf LZ:Hp}(e:Same Hf LZ){a k:Addr}{g:D}{q:List (List Q9×D)}(h:FlK K Hf a g q k):FlK K LZ a g q k:=by
 obtain⟨C,dx,gs,d,ys,e1,e2,e3,e4,e5⟩:=h
 exact⟨C,dx,gs,d,ys,e1,e _ _ e2,e3.mono e,e _ _ e4,e5.mono e⟩
def CaAt (K:PySem.W.Frag)(Fc:List D->M D)(n:Nat)(Hf H:Hp)(k:Addr):Prop:=∃c ys,H k=some (.dT ys)/\RepKV K Hf c ys/\ys.length<=n/\∀ds ks d,Jn ds=some ks->Yu c ks=some d->Fc ds=.ok d
theorem CaAt.mono {K:PySem.W.Frag}{Fc:List D->M D}{n:Nat}{Hf H LZ H':Hp}{k:Addr}(e:Same Hf LZ)(he:∀o,H k=some o->H' k=some o)(h:CaAt K Fc n Hf H k):CaAt K Fc n LZ H' k:=by
 obtain⟨c,ys,e1,e2,e3,e4⟩:=h
 exact⟨c,ys,he _ e1,e2.mono e,e3,e4⟩
def CaAt.le {K:PySem.W.Frag}{Fc:List D->M D}{n m:Nat}{Hf H:Hp}{k:Addr}(hl:n<=m)(h:CaAt K Fc n Hf H k):CaAt K Fc m Hf H k:=by
 obtain⟨c,ys,e1,e2,e3,e4⟩:=h
 exact⟨c,ys,e1,e2,by lia,e4⟩
def Zcq {d d':D}{k:Q9}(h:Dw d=some k)(h':Dw d'=some k):d=d':=by
 cases d<;>cases h<;>cases d'<;>cases h'<;>rfl
theorem Ld:∀{ds iF:List D}{ks:List Q9},Jn ds=some ks->Jn iF=some ks->ds=iF
 |[],[],_,_,_=>rfl
 |[],d'::r',ks,h,h'=>by
  cases h
  unfold Jn at h'
  split at h'<;>cases h'
 |d::r,[],ks,h,h'=>by
  cases h'
  unfold Jn at h
  split at h<;>cases h
 |d::r,d'::r',ks,h,h'=>by
  unfold Jn at h h'
  split at h
  .rename_i k1 k2 e1 e2
   cases h
   split at h'
   .rename_i k3 k4 e3 e4
    cases h'
    rw[Zcq e1 e3,Ld e2 e4]
   .cases h'
  .cases h
def Zcr {κ:Type}[DecidableEq κ]{c:List (κ×D)}{k k':κ}{d:D}(hn:Yu c k=none):Yu (Aj c k d) k'=if k'=k then some d else Yu c k':=by
 have ZP:(c.any λkv=>decide (kv.1=k))=false:=by
  cases h:(c.any λkv=>decide (kv.1=k)) with
  |false=>rfl
  |true=>
   obtain⟨kv,h1,h2⟩:=HL.mp h
   have hf:(c.find? λkv=>decide (kv.1=k))=none:=GC.mp hn
   exact absurd h2 (KB.mp hf kv h1)
 unfold Aj
 rw[ZP]
 show((c++[(k,d)]).find? λkv=>decide (kv.1=k')).map (·.2)=_
 rw[List.find?_append]
 by_cases e:k'=k
 .subst e
  rw[AC rfl,GC.mp hn]
  simp
 .rw[AD e]
  have:([(k,d)].find? λkv=>decide (kv.1=k'))=none:=by
   rw[BX]
   simp[CQ e]
  rw[this]
  simp[Yu]
def Px (i:Nat)(sd:Zf):M D:=match sd[i]? with
 |some (some (.fl _ g _))=>.ok g
 |_=>.bad
section
variable {X:Cx}{E:XK}{p pos:Pos}{vn:Str}
def Le (i:Nat){C:Addr} (oc:RW X.K "Floor" C) (na:NoAttr X.K C "hall") (hN:X.N[i]?=some vn:=by rfl) (hv:Gm X.env.scope vn:=by trivial) (hd:(vn==("__debug__":Str))=false:=by decide)
  (MV:(vn==("__classdict__":Str))=false:=by decide) (hb:attributeBase (.Name vn p) "hall" X.env (eval (.Name vn p) X.env)=eval (.Name vn p) X.env:=by rfl):Yt X E (.Attribute (.Name vn p) "hall" pos) (Px i):=by
 refine⟨_,V6 (Z6 hN hv hd MV) hb,λH0 B Hf sd σ H Q sr h=>?_⟩
 unfold Px at h
 split at h
 .rename_i a g q ei
  obtain⟨v,e1,C',dx,gs,d,k,ys,rfl,e2,e3,e4,e5,e6⟩:=sr.imS i _ ei rfl
  rw[oc.at_] at e2
  cases e2
  obtain⟨v,l,rv⟩:=e4.hall
  exact⟨.ref a,e1,a,C,dx,gs,v,rfl,sr.sub _ _ e3,oc.cls,na,l,Po.ret (R:=rV X.K) sr.sub h rv⟩
 .exact h.elim
end
def Wi (F:List D->M S)(g:D)(ds:List D):M D:=W7 (F (g::ds))
def iZ (K:PySem.W.Frag)(F:List D->M S):Sp:=λvs H Q _=>∃Hf a g q k n ds ks d v,vs=[.ref a,v]/\Same Hf H/\FlK K Hf a g q k/\Hf k=none/\CaAt K (Wi F g) n Hf H k/\n<sizeLine/\Rep K Hf (.tup ds) v/\Jn ds=some ks/\ds.length=3/\Wi F g ds=.ok d /\
 ∀v' LZ H',GrM k Hf H LZ H'->CaAt K (Wi F g) (n+1) LZ H' k->Rep K LZ d v'->Q v' H'
def vz {m:M S}{d:D}(h:W7 m=.ok d):(match m with | .ok s=>s.toD|_=>M.bad)=.ok d:=by
 cases m with
 |ok s=>cases s<;>first|exact h|cases h
 |ex x=>cases h
 |bad=>cases h
structure HSt (K:PySem.W.Frag) (Ff:List D->M S) (a:Addr) (g:D) (q:List (List Q9×D)) (k:Addr) (n:Nat) (H0:Hp) (B:Addr->Prop) (Hf:Hp) (sd:Zf) (σ:L2.St) (H:Hp):Prop where
 sr:SR K H0 B Hf sd σ H
 s0:sd[0]?=some (some (.fl a g q))
 fl:FlK K Hf a g q k
 hk:Hf k=none
 ca:CaAt K (Wi Ff g) n Hf H k
 hn:n<sizeLine
section
variable {K:PySem.W.Frag}{Ff:List D->M S}{a k:Addr}{g:D}{q:List (List Q9×D)}{n:Nat}{H0:Hp}{B:Addr->Prop}{Hf H MB H1:Hp}{sd:Zf}{σ:L2.St}{Fc:List D->M D}
def CaAt.lv (h:CaAt K Fc n Hf H k):Lv H k:=by
 obtain⟨c,ys,e1,_⟩:=h
 exact⟨_,e1,λ_ q=>by cases q⟩
theorem HSt.gr (x:HSt K Ff a g q k n H0 B Hf sd σ H)(y:Gr Hf H MB H1):HSt K Ff a g q k n H0 B MB sd σ H1:=
 ⟨x.sr.gr y,x.s0,x.fl.mono y.fz,y.ban k x.ca.lv x.hk,x.ca.mono y.fz λo z=>y.all _ _ z,x.hn⟩
def Kon (K:PySem.W.Frag)(Fc:List D->M D)(k:Addr)(n:Nat)(Hf H:Hp)(d:D)(Q:VK):Prop:=∀v' LZ H',GrM k Hf H LZ H'->CaAt K Fc (n+1) LZ H' k->Rep K LZ d v'->Q v' H'
def Kon.gr {d:D}{Q:VK}(h:Kon K Fc k n Hf H d Q)(y:Gr Hf H MB H1):Kon K Fc k n MB H1 d Q:=λv' LZ H' gm ca rv=>
 h v' LZ H' ((GrM.of_gr y).trans gm fun⟨o,e1,e2⟩=>⟨o,y.all _ _ e1,e2⟩) ca rv
end
def ag (X:Cx)(Ff:List D->M S)(st:List Stmt)(f:Zf->M D):Prop:=
 ∃t:TS,PSs X st t/\∀(a k:Addr) (g:D) (q:List (List Q9×D)) (n:Nat) (H0:Hp) (B:Addr->Prop) (Hf:Hp) (sd:Zf) (σ:L2.St) (H:Hp) (D':Ends) (d:D),HSt X.K Ff a g q k n H0 B Hf sd σ H->f sd=.ok d->Kon X.K (Wi Ff g) k n Hf H d D'.rt->t D' σ H
def Uy (Ff:List D->M S)(Fa:List S->M S)(i:Nat)(fk:Zf->M D)(sd:Zf):M D:=match (sd[0]?:Option (Option S)),(sd[i]?:Option (Option S)) with
 |some (some (S.fl _ g _)),some (some o)=>if Wh o then(fk sd).bind λkd=>(match kd with
  |.tup ds=>if ds.length=3/\(Jn ds).isSome=true then(Wi Ff g ds).bind λpr=>W7 (Fa [o,.im pr]) else .bad
  |_=>.bad) else .bad
 |_,_=>.bad
def YJ (c:Zf->M Bool)(f g:Zf->M D)(sd:Zf):M D:=(c sd).bind λb=>if b then f sd else g sd
def bind_ok {α β:Type}{m:M α}{f:α->M β}{b:β}(h:m.bind f=.ok b):∃a,m=.ok a/\f a=.ok b:=by
 cases m with
 |ok a=>exact⟨a,rfl,h⟩
 |ex x=>cases h
 |bad=>cases h
section
variable {X:Cx}{Ff:List D->M S}{pos p p1 p2 apos cpos:Pos}{e key:Expr}{x vn fl fn:Str}
def Ha {f:Zf->M D}(h:Yt X E0 e f):ag X Ff [.Return (some e) pos] f:=by
 obtain⟨t,pt,qt⟩:=h
 refine⟨_,Xo (Gp pt),λa k g q n H0 B Hf sd σ H D' d x ed kk=>?_⟩
 refine qt H0 B Hf sd σ H _ x.sr ?_
 rw[ed]
 intro v MB H1 g1 rv
 exact kk v MB H1 (.of_gr g1) ((x.gr g1).ca.le (by lia)) rv
def Eh {c:Expr}{xs rest:List Stmt}{kc:Zf->M Bool}{f g:Zf->M D}(hc:B8 X E0 c kc)(h:ag X Ff xs f)(h2:ag X Ff rest g):ag X Ff (.If c xs [] pos::rest) (YJ kc f g):=by
 obtain⟨tc,pc,qc⟩:=hc
 obtain⟨t1,p1,q1⟩:=h
 obtain⟨t2,p2,q2⟩:=h2
 refine⟨_,Qp (E9 pc p1 Pt) p2,λa k g' q n H0 B Hf sd σ H D' d x ed kk=>?_⟩
 obtain⟨b,eb,ed⟩:=bind_ok ed
 refine qc H0 B Hf sd σ H _ x.sr ?_
 rw[eb]
 intro v MB H1 gr rv
 have e:b=v:=rv
 subst e
 cases b with
 |true=>
  rw[AC rfl] at ed ⊢
  exact q1 a k g' q n H0 B MB sd σ H1 _ d (x.gr gr) ed (kk.gr gr)
 |false=>
  rw[AD AY] at ed ⊢
  exact q2 a k g' q n H0 B MB sd σ H1 D' d (x.gr gr) ed (kk.gr gr)
def A5 (i:Nat){Fa:List S->M S}{fk:Zf->M D}{CF fA fB:Addr}{kQ kP:FuncData}{jk ji:List Str}{kA kB:Nat}{pl:Sem Bool} (oc:RW X.K "Floor" CF) (hm:NI X.K CF "faces_at" fB) (GB:MC X.prog X.w X.K X.mg X.base Yi kB fB kP ji (iZ X.K Ff)) (qI:Room kB X.A) (bB:Binds X.K kP ji [])
  (GA:MC X.prog X.w X.K X.mg X.base Yi kA fA kQ jk (Pf X.K Fa)) (qJ:Room kA X.A) (mA:X.mg fn=some (.ref fA)) (pN:PySem.W.keepIn X.K (.ref fA)=true) (bA:Binds X.K kQ jk []) (hk:Yt X E0 key fk)
  (n0:X.N[0]?=some fl:=by rfl) (v0:Gm X.env.scope fl:=by trivial) (d0:(fl==("__debug__":Str))=false:=by decide) (c0:(fl==("__classdict__":Str))=false:=by decide)
  (ni:X.N[i]?=some vn:=by rfl) (vi:Gm X.env.scope vn:=by trivial) (di:(vn==("__debug__":Str))=false:=by decide) (ci:(vn==("__classdict__":Str))=false:=by decide)
  (qj:Gl X fn:=by rfl) (qu:(fn==("__debug__":Str))=false:=by decide)
  (s1:starEach [.Name vn p,.Call (.Attribute (.Name fl p1) "faces_at" apos) [key] [] cpos] X.env=(false,eval (.Name vn p) X.env)::starEach [.Call (.Attribute (.Name fl p1) "faces_at" apos) [key] [] cpos] X.env:=by rfl)
  (s2:starEach [.Call (.Attribute (.Name fl p1) "faces_at" apos) [key] [] cpos] X.env=(false,eval (.Call (.Attribute (.Name fl p1) "faces_at" apos) [key] [] cpos) X.env)::starEach [] X.env:=by rfl)
  (s3:starEach [key] X.env=(false,eval key X.env)::starEach [] X.env:=by rfl) (MT:(backTo cpos (starEach [] X.env)).any (·.1)=false:=by rfl) (gE:(backTo pos (starEach [.Call (.Attribute (.Name fl p1) "faces_at" apos) [key] [] cpos] X.env)).any (·.1)=false:=by rfl)
  (ht:eval (.Call (.Attribute (.Name fl p1) "faces_at" apos) [key] [] cpos) X.env=(do
   let ov <-eval (.Name fl p1) X.env
   standAt apos.atName
   let (f,first) <-holding [ov] (getMethod ov "faces_at" pl)
   callWith cpos f first (backTo cpos (starEach [key] X.env)) (backToKw cpos (keywordEach [] X.env))):=by rfl) {fN:Pos}:
  ag X Ff [.Return (some (.Call (.Name fn p2) [.Name vn p,.Call (.Attribute (.Name fl p1) "faces_at" apos) [key] [] cpos] [] pos)) fN] (Uy Ff Fa i fk):=by
 obtain⟨tk,pk,qk⟩:=hk
 refine⟨_,Xo (Gp (Ve (dvs:=[]) (E:=E0) GA qJ qj mA pN bA .nil Kf (Qj (Z6 ni vi di ci) (Qj (L6 (dvs:=[]) (E:=E0) (pl:=pl) (Z6 n0 v0 d0 c0) oc.cls hm GB qI bB .nil Kf (Qj pk Xs s3) s3 MT ht) Xs s2) s1) qu s1 gE)),λa k g q n H0 B Hf sd σ H D' d x ed kk=>?_⟩
 unfold Uy at ed
 rw[x.s0] at ed
 split at ed
 .rename_i a' g' q' o h0 hi
  cases h0
  split at ed
  .rename_i ho
   obtain⟨kd,ek,ed⟩:=bind_ok ed
   split at ed
   .rename_i ds
    split at ed
    .rename_i hd
     obtain⟨pr,e1,e2⟩:=bind_ok ed
     obtain⟨ks,ZW⟩:=FO.mp hd.2
     obtain⟨cq,si,ri⟩:=x.sr.imS i o hi (Jq ho)
     obtain⟨v0',oQ,r0⟩:=x.sr.imS 0 _ x.s0 rfl
     obtain⟨C',dx,gs,dd,k',ys,rfl,c1,c2,c3,c4,c5⟩:=id r0
     rw[oc.at_] at c1
     cases c1
     refine⟨cq,si,.ref a,oQ,a,dx,gs,rfl,x.sr.sub _ _ c2,c3.m2,?_⟩
     refine qk H0 B Hf sd σ H _ x.sr ?_
     rw[ek]
     intro v MB H1 g1 rv
     have y:=x.gr g1
     refine⟨MB,a,g,q,k,n,ds,ks,pr,v,rfl,g1.sub,y.fl,y.hk,y.ca,y.hn,rv,ZW,hd.1,e1,λv' LZ H' gm ca' aH=>?_⟩
     have ro:RepS X.K LZ o cq:=(ri.mono g1.fz).mono gm.fz
     show Pf X.K Fa ([cq,v']++[]) H' D'.rt E0
     rw[BJ]
     refine Mt (E:=E0) (ss:=[o,.im pr]) (vs:=[cq,v']) gm.sub (.cons ⟨Jq ho,ro⟩ (.cons ⟨rfl,aH⟩ .nil)) ?_
     rw[e2]
     intro v2 MI H2 g2 rv2
     have kg:=kk.gr g1
     refine kg v2 MI H2 (gm.trans (.of_gr g2) λ_=>ca'.lv) (ca'.mono g2.fz λo z=>g2.all _ _ z) rv2
    .cases ed
   .cases ed
  .cases ed
 .cases ed
end
def eO (K:PySem.W.Frag)(Ff:List D->M S)(F:List S->M D):Sp:=λvs H Q _=>∃Hf ss a g q k n d,ss[0]?=some (.fl a g q)/\Same Hf H/\ah K Hf ss vs/\FlK K Hf a g q k/\Hf k=none/\CaAt K (Wi Ff g) n Hf H k/\n<sizeLine/\F ss=.ok d/\Kon K (Wi Ff g) k n Hf H d Q
def cI (n:Nat)(f:Zf->M D)(ss:List S):M D:=if ss.length=n then f (ss.map some) else .bad
def tQ {P:Program}{w:World}{K:PySem.W.Frag}{mg:Str->Option Value}{base:Heap}{x qual:Str}{st:Stmt}{f:Addr}{fd:FuncData}{N:List Str}{k n:Nat}{Ff:List D->M S}{fb:Zf->M D}(F:Fun K x qual st f fd)(sc:MA N N (Zg st))(hn:N.length=n)(ND:∀(ME:Value) (A:Around) (outer:List Env) (s:Shared) (H:Hp) (E:XK),Room k (A.deeper (envOfC qual (Zg st) s.heap.objs.size f ME)) ->
   ag (Jl Yi P w K mg base N qual (Zg st) f ME A outer s H E).nox Ff (Qz st) fb):MC P w K mg base Yi (k+1) f fd N (eO K Ff (cI n fb)):=by
 refine F.ok sc (λvs H Q E h=>?_) (λME A outer s H vs Q E hr h=>?_)
 .obtain⟨Hf,ss,a,g,q,k,n',d,h0,e,r,fl,hk,ca,aO,hF,_⟩:=h
  unfold cI at hF
  split at hF
  .rename_i hl
   rw[<-DN r,hl,hn]
  .cases hF
 .obtain⟨Hf,ss,a,g,q,k,n',d,h0,e,r,fl,hk,ca,aO,hF,kk⟩:=h
  obtain⟨t,p,qt⟩:=ND ME A outer s H E hr
  unfold cI at hF
  split at hF
  .rename_i hl
   have sr:=Ux (N:=N) (m:=0) e r (by rw[hn,hl];rfl)
   rw[List.replicate_zero,BJ] at sr
   refine⟨t,p,qt a k g q n' H _ Hf _ (L2.Y6 N vs) H _ d ⟨sr,?_,fl,hk,ca,aO⟩ hF kk⟩
   rw[BP,h0]
   rfl
  .cases hF
section
variable {K:PySem.W.Frag}{H0 fD Hf LZ H H':Hp}{B B':Addr->Prop}{sd:Zf}{σ:L2.St}{x k:Addr}
def af (sd:Zf)(σ:L2.St)(x:Addr):Prop:=∀(i:Nat) (t:S),sd[i]?=some (some t)->t.own=true->σ[i]?≠some (some (.ref x))
def SR.less (r:SR K H0 B Hf sd σ H)(s:Same fD H0)(hb:∀b,B' b->B b/\Lv fD b):SR K fD B' Hf sd σ H:=
 ⟨r.sub,s.trans r.all,λb h=>r.ban b (hb b h).1,λb h=>(hb b h).2,r.len,r.imS,λi t e o=>by
  obtain⟨p,e1,e2,e3,e4⟩:=r.ow i t e o
  refine⟨p,e1,?_,e3,e4⟩
  cases q:fD p with
  |none=>rfl
  |some u=>exact absurd e2 (by rw[s _ _ q];exact λz=>nomatch z),r.sep⟩
def SR.keep (r:SR K H0 B Hf sd σ H){o:HO}(hk:H k=some o)(hl:Lv H k)(hf:Hf k=none)(off:af sd σ k):SR K (upd H0 k o) (λb=>B b\/b=k) Hf sd σ H:=by
 refine⟨r.sub,λb u q=>?_,λb h=>?_,λb h=>?_,r.len,r.imS,λi t e ow=>?_,r.sep⟩
 .by_cases e:b=k
  .subst e;rw[Zo] at q;rw[hk];exact q
  .rw[Zl e] at q;exact r.all b u q
 .rcases h with h|rfl
  .exact r.ban b h
  .exact hf
 .by_cases e:b=k
  .subst e
   obtain⟨u,e1,e2⟩:=hl
   rw[hk] at e1
   cases e1
   exact⟨o,Zo,e2⟩
  .rcases h with h|h
   .obtain⟨u,e1,e2⟩:=r.bt b h
    exact⟨u,(Zl e).trans e1,e2⟩
   .exact absurd h e
 .obtain⟨p,e1,e2,e3,e4⟩:=r.ow i t e ow
  exact⟨p,e1,(Zl λz=>off i t e ow (by rw[e1,z])).trans e2,e3,e4⟩
def SR.back {o:HO}(r:SR K (upd H0 k o) (λb=>B b\/b=k) Hf sd σ H)(h0:H0 k=none)(bt:∀b,B b->Lv H0 b):H k=some o/\Hf k=none/\SR K H0 B Hf sd σ H:=
 ⟨r.all _ _ Zo,r.ban k (.inr rfl),r.less (λb u q=>by rw[Zl (Zt q h0)];exact q) λb h=>⟨.inl h,bt b h⟩⟩
def SR.grM (r:SR K H0 B Hf sd σ H)(g:GrM x Hf H LZ H')(h0:H0 x=none)(off:af sd σ x):SR K H0 B LZ sd σ H':=
 ⟨g.sub,λb u q=>g.all b u (Zt q h0) (r.all b u q),λb hb=>g.ban b (r.all.lv (r.bt b hb)) (r.ban b hb),r.bt,r.len,λi t e z=>by
  obtain⟨v,z1,z2⟩:=r.imS i t e z
  exact⟨v,z1,z2.mono g.fz⟩,λi t e o=>by
  obtain⟨p,e1,e2,e3,e4⟩:=r.ow i t e o
  exact⟨p,e1,e2,g.ban p (mJ e4) e3,Vf e4 g.fz λu h=>g.all _ _ (λz=>off i t e o (by rw[e1,z])) h⟩,r.sep⟩
def SR.set_none (r:SR K H0 B Hf sd σ H)(i:Nat)(v:V)(hi:sd[i]?=some none):SR K H0 B Hf sd (σ.set i (some v)) H:=by
 have ne:∀{j:Nat}{t:S},sd[j]?=some (some t)->i≠j:=λ{j t} e z=>by subst z;rw[hi] at e;cases e
 refine⟨r.sub,r.all,r.ban,r.bt,by rw[CA];exact r.len,λj t e z=>?_,λj t e o=>?_,λj l t u p h e1 o1 e2 o2 e3 e4=>?_⟩
 .rw[AF (ne e)];exact r.imS j t e z
 .rw[AF (ne e)];exact r.ow j t e o
 .rw[AF (ne e1)] at e3
  rw[AF (ne e2)] at e4
  exact r.sep j l t u p h e1 o1 e2 o2 e3 e4
def SR.offI (r:SR K H0 B Hf sd σ H){C dx:Addr}{gs:List (Str×V)}(hx:H x=some (.ins C dx gs)):af sd σ x:=by
 intro i t e ow z
 obtain⟨p,e1,_,_,e4⟩:=r.ow i t e ow
 rw[z] at e1
 cases e1
 exact A3 e4 hx rfl
def SR.offD (r:SR K H0 B Hf sd σ H){ys:List (List Q9×V)}(hx:H x=some (.dT ys))(ho:∀(i:Nat) (t:S),sd[i]?=some (some t)->t.own=true->∃ds,t=.ow ds):af sd σ x:=by
 intro i t e ow z
 obtain⟨p,e1,_,_,e4⟩:=r.ow i t e ow
 rw[z] at e1
 cases e1
 obtain⟨ds,rfl⟩:=ho i t e ow
 obtain⟨xs,h,_⟩:=e4
 rw[hx] at h
 cases h
end
section
variable {K:PySem.W.Frag}{E:XK}{H0 Hf H:Hp}{B:Addr->Prop}{sd:Zf}{σ:L2.St}{D':Ends}
def Ud {r:M O}{sd':Zf}(h:r=.ok (.nx sd'))(k:∀σ' LZ H',Same Hf LZ->SR K H0 B LZ sd' σ' H'->D'.nx σ' H'):PoS K E H0 B Hf r D':=by rw[h];exact k
def nL {r:M O}{d:D}(h:r=.ok (.rt (.im d)))(k:∀v LZ H',Same Hf LZ->RU H0 B LZ H'->Rep K LZ d v->D'.rt v H'):PoS K E H0 B Hf r D':=by rw[h];exact k
def Py {f:Zf->M D}{d:D}{i:Nat}(h:f sd=.ok d):Z7 i f sd=.ok (.nx (sd.set i (some (.im d)))):=by
 unfold Z7
 rw[h]
 rfl
def nK {k:Addr}{o:HO}{LZ H':Hp}(s:Same Hf LZ)(fin:RU (upd (Wp H k) k o) (λb=>(Lv (Wp H k) b/\Hf b=none)\/b=k) LZ H'):GrM k Hf H LZ H':=
 ⟨s,fin.sub,λb u hb hu=>fin.all b u (by rw[Zl hb,X5 hb];exact hu),λb hb hn=>by
  by_cases e:b=k
  .subst e;exact fin.ban b (.inr rfl)
  .obtain⟨o',h1,h2⟩:=hb
   exact fin.ban b (.inl ⟨⟨o',(X5 e).trans h1,h2⟩,hn⟩)⟩
def none_of {H H':Hp}(s:Same H H'){x:Addr}(h:H' x=none):H x=none:=by
 cases q:H x with
 |none=>rfl
 |some u=>rw[s _ _ q] at h;cases h
def nJ {C:Addr}{t:TA}{f:Zf->M (List D)}{F:Qs->List D->Option Qs}{l:List D}{r:Qs}{i:Nat}{c:Str}{Dn:L2.St->Hp->Prop}(qt:∀(H0:Hp) (B:Addr->Prop) (Hf:Hp) (sd:Zf) (σ:L2.St) (H:Hp) (Q:List V->Hp->Prop),SR K H0 B Hf sd σ H->Po K E0 (rA K) Hf H (f sd) Q->t σ H Q)(sr:SR K H0 B Hf sd σ H)(ef:f sd=.ok l)(hi:sd[i]?=some none)(eF:F [] l=some r)(hC:PySem.W.nsIn K mainGlobals c=some (some (.ref C)))(k:∀x σ' LZ H',Same Hf LZ->H x=none->SR K H0 B LZ (sd.set i (some (.ob x c r))) σ' H'->Dn σ' H'):ma C (Pp K C F) [] E0 t σ H λv H1=>Dn (σ.set i (some v)) H1:=by
 refine qt H0 B Hf sd σ H _ sr ?_
 rw[ef]
 intro vs MB H1 g1 rs x dx hx ZK hne
 have bY:MB x=none:=none_of g1.sub hx
 have sm:Same H1 (upd (upd H1 dx (.own x)) x (.ins C dx [])):=(Qa ZK _).trans (Qa ((Zl hne.symm).trans hx) _)
 have g2:Gr MB H1 MB (upd (upd H1 dx (.own x)) x (.ins C dx [])):=⟨Same.refl _,g1.sub.trans sm,sm,λ_ _ h=>h⟩
 have h0:H0 x=none:=none_of (sr.all.trans g1.all) hx
 refine⟨MB,[],l,x,vs++[],r,rfl,g2.sub,bY,⟨dx,[],Zo,.nil⟩,by rw[BJ];exact rs,eF,λSQ H3 gm ta=>⟨rfl,?_⟩⟩
 have aQ:SQ x=none:=gm.ban x (Sc Zo) bY
 have sr2:=(sr.gr g1).gr g2
 have sr3:=sr2.grM gm h0 (sr2.offI Zo)
 obtain⟨VC,gs,e1,e2⟩:=ta
 have sr4:=sr3.set_none i (.ref x) hi
 have hl:i<σ.length:=by
  rw[<-sr.len]
  exact(AG.mp hi).1
 exact k x _ _ _ (g1.fz.trans (gm.fz.trans (Qa aQ _))) (none_of g1.all hx) (sr4.fzO hi (AK hl) hC e1 e2 h0 aQ)
def mC {C x k:Addr}{F:Qs->List D->Option Qs}{Fc:List D->M D}{m i i1 i2:Nat}{r r':Qs}{now th:D}{c:Str}{Dn:L2.St->Hp->Prop}(sr:SR K H0 B Hf sd σ H)(hs:sd[i]?=some (some (.ob x c r)))(hu:∀(j:Nat) (t:S),j≠i->sd[j]?=some (some t)->t.adr≠some x/\∀z,t≠.xc z)(hC:PySem.W.nsIn K mainGlobals c=some (some (.ref C)))(h0:H0 x=none)(eF:F r [now,th]=some r')(n1:i≠i1)(n2:i≠i2)(s1:sd[i1]?=some (some (.im now)))(s2:sd[i2]?=some (some (.im th)))(hk:Hf k=none)(ca:CaAt K Fc m Hf H k)(pM:∀LZ H',(∀Hs,Same Hs Hf->Hs x=none->Same Hs LZ)->SR K H0 B LZ (sd.set i (some (.ob x c r'))) σ H'->LZ k=none->CaAt K Fc m LZ H' k->Dn σ H'):
  mi (md (Pp K C F) [] E0 (Fh (cW i) (Fh (cW i1) (Fh (cW i2) ik)))) {nx:=Dn,rt:=λ_ _=>False} σ H:=by
 obtain⟨z1,C',dx,gs,zc,z2,z3,sr1⟩:=sr.thO hs hu
 rw[hC] at zc
 cases zc
 obtain⟨v1,a1,a2⟩:=sr1.im i1 now (by rw[AF n1];exact s1)
 obtain⟨v2,b1,b2⟩:=sr1.im i2 th (by rw[AF n2];exact s2)
 refine⟨_,z1,_,a1,_,b1,Wp Hf x,r,[now,th],x,[v1,v2],r',rfl,sr1.sub,Kj Hf x,⟨dx,gs,z2,z3⟩,Reps.cons a2 (Reps.cons b2 Reps.nil),eF,λSQ H3 gm ta=>?_⟩
 obtain⟨VC,aS,e1,e2⟩:=ta
 have hl:i<sd.length:=(AG.mp hs).1
 have hi:(sd.set i none)[i]?=some none:=AK hl
 have sr2:=sr1.grM gm h0 (sr1.offI z2)
 have aQ:SQ x=none:=gm.ban x (Sc z2) (Kj Hf x)
 have sr3:=sr2.fzO hi z1 hC e1 e2 h0 aQ
 rw[List.set_set] at sr3
 obtain⟨cc,ys,c1,c2,c3,c4⟩:=ca
 have kx:k≠x:=λz=>by rw[z,z2] at c1;cases c1
 have qX:Wp Hf x k=none:=(X5 kx).trans hk
 have ZI:Hf x=some (.ins C dx gs):=by
  obtain⟨v,y1,C'',iE,hU,rfl,y2,y3,y4⟩:=sr.imS i _ hs rfl
  rw[sr.sub _ _ y3] at z2
  cases z2
  exact y3
 refine pM _ H3 (λHs s n=>?_) sr3 ?_ ?_
 .have:Same Hs (Wp Hf x):=λb u q=>by
   rw[X5 (Zt q n)]
   exact s b u q
  exact this.trans (gm.fz.trans (Qa aQ _))
 .rw[Zl kx]
  exact gm.ban k ⟨_,c1,λ_ q=>by cases q⟩ qX
 .exact⟨cc,ys,gm.all _ _ kx c1,((c2.rm ZI X6).mono gm.fz).mono (Qa aQ _),c3,c4⟩
end
section
variable {prog:Program}{w:World}{K:Type} [DecidableEq K] {knd:HeapKind prog w K}{A:Around}{E:Value->Shared->Prop}{s:Shared}
def Pq {d a:Addr}{xs:List (K×Addr×Value)}{k:K}{dflt:Value}{Q:Value->Shared->Prop}(hu:knd.room A)(SD:knd.is s.heap k a)(hm:s.heap.DictOfH knd d xs)(h1:∀v,(atKey xs k).map (·.2)=some v->Q v {s with toks:=s.toks+knd.draws k})(h2:(atKey xs k).map (·.2)=none->∀h',h'.DictOfH knd d (storedH xs k a dflt)->Heap.SameBut d s.heap h'->Q dflt {s with heap:=h',toks:=s.toks+knd.draws k})(hsz:xs.length<=sizeLine):wpAny (model prog w) A (dictSetDefault d (.ref a) dflt) Q E s:=by
 obtain⟨o,es,ep,ho,hc,hd,he,j6,hn⟩:=hm
 unfold dictSetDefault
 try with_reducible refine BY ?_
 refine AA (knd.pyHash hu SD (AA (wpAny_dictFind_heap (s:={s with toks:=s.toks+knd.draws k}) hu SD ho hd he j6 hn ?_ ?_)))
 .intro OU
  have hnot:k ∉ xs.map (·.1):=not_mem_keys_of_get OU
  refine AA (FR (AA (wpAny_updateDictKeys (hz:=by have e:=size_of_entries he;omega) (s:={s with toks:=s.toks+knd.draws k}) ho hd (AE (h2 (by rw[GF OU];rfl) _ ⟨_,_,ep+1,EF _ ho (Obj.isFreed_of_dict (LS hd _)),
   hc.mapDictKeys _,LS hd _,?_,?_,?_⟩ (ET ..))))))
  .rw[LO (GF OU)]
   simp[he,entryOfKey]
  .rw[LO (GF OU)]
   intro x hx
   rcases DA.mp hx with hx|hx
   .exact knd.keeps (j6 x hx) ho hd (ET ..)
   .simp only[DG] at hx
    subst hx
    exact knd.keeps SD ho hd (ET ..)
  .rw[LO (GF OU)]
   rw[HS,KL]
   refine⟨hn,by simp,?_⟩
   intro x hx y hy
   simp only[BA,FH,DG] at hy
   subst hy
   exact λe=>hnot (e▸hx)
 .intro j p hj
  refine AA (wpAny_dictEntries (s:={s with toks:=s.toks+knd.draws k}) ho hd ?_)
  rw[PySem.entry_at he j,hj]
  exact AA (FR (AE (h1 _ (by rw[atKey_of_get hn hj];rfl))))
def Ga {d a:Addr}{k:K}(hd:(d==sysModules)=false)(dflt:Value):
  MeetsIn prog w (Builtin.«dict.setdefault» ⟨[.ref d,.ref a,dflt],[]⟩) (λA R s=>knd.room A.in1/\∃xs,knd.is s.heap k a/\s.heap.DictOfH knd d xs/\xs.length<=sizeLine /\
   (∀v,(atKey xs k).map (·.2)=some v->R (.ok (.ret v)) {s with toks:=s.toks+knd.draws k}) /\
   ((atKey xs k).map (·.2)=none->∀h',h'.DictOfH knd d (storedH xs k a dflt)->Heap.SameBut d s.heap h'->R (.ok (.ret dflt)) {s with heap:=h',toks:=s.toks+knd.draws k})):=
 .of_wp λA R s ⟨hu,xs,SD,hm,hz,h1,h2⟩=>by
  unfold Builtin.«dict.setdefault»
  refine AA ?_
  unfold Builtin.Dict.keyAndDefault
  refine AA (wpAny_notOrdered_dict hm.typeIs ?_)
  show wpAny _ _ (pure (d,Value.ref a,some dflt)) _ _ s
  refine AE ?_
  show wpAny _ _ (if(d==sysModules)=true then _ else(dictSetDefault d (.ref a) dflt>>=_)) _ _ s
  rw[AD (by rw[hd];exact AY)]
  exact AA (Pq hu SD hm (λv hv=>AE ⟨v,rfl,h1 v hv⟩) (λhn h' gP hs'=>AE ⟨dflt,rfl,h2 hn h' gP hs'⟩) hz)
end
section
variable {X:Cx}{pins:List (Addr×Obj)}{σ:L2.St}{H:Hp}{s:Shared}{a b:Addr}{d:V}{r:Value}{A:Around}{E:Value->Shared->Prop}{kvs:List (List Q9×V)}{k:List Q9}
def Zcv {Q:Value->Shared->Prop}(hu:A.units+1<cLine)(I:Inv X pins σ H s)(e:H a=some (.dT kvs))(eb:H b=some (.tup (k.map kV)))(l:kvs.length<sizeLine)(rd:RelV d r)(h1:∀v w' s',Y7 kvs k=some v->Inv X pins σ H s'->RelV v w'->Q w' s')(h2:Y7 kvs k=none->∀s',Inv X pins σ (upd H a (.dT (Ja kvs k d))) s'->Q r s'):
  wpAny (model X.prog X.w) A (call (.builtin "dict.setdefault") [.ref a,.ref b,r]) Q E s:=by
 obtain⟨z,hd,xs,rel,dd⟩:=mK I.hok e
 have hz:xs.length<=sizeLine:=by rw[<-DN rel];exact z
 have rv:=rel.val k
 refine KW HQ dd.typeIs PySem.F.entry_dict_setdefault (PySem.F.args_dict_setdefault_3 _ _ _) (Ga (k:=k) hd r) ⟨Do hu,xs,Wa I.hok eb,dd,hz,λv hv=>?_,λhn h' aW hs=>?_⟩
 .rw[hv] at rv
  cases q:Y7 kvs k with
  |none=>rw[q] at rv;exact rv.elim
  |some v0=>rw[q] at rv;exact h1 v0 v _ q (I.tok _) rv
 .rw[hn] at rv
  cases q:Y7 kvs k with
  |some v0=>rw[q] at rv;exact rv.elim
  |none=>
   refine h2 q _ ?_
   have hl:(Ja kvs k d).length<=sizeLine:=by have:=Kq kvs k d;omega
   obtain⟨o,es,ep,hq,g2,g3,g4,_,g5⟩:=aW
   refine Md I (by rw[e];exact True.intro) hs ⟨o,hq⟩ ⟨hl,hd,_,(rel.put k eb rd).keeps λc ys ec=>?_,o,es,ep,hq,g2,g3,g4,g5⟩
   rw[Zl (mj ec e (λz=>nomatch z))]
   exact ec
end
def vy (td ty tx:TE):TE:=λσ H Q=>td σ H λx H1=>∃a,x=.ref a/\iW H1 a/\ty σ H1 λy H2=>tx σ H2 λz H3=>∃kvs k b,y=.ref b/\H3 a=some (.dT kvs)/\H3 b=some (.tup (k.map kV))/\kvs.length<sizeLine /\
 (∀v,Y7 kvs k=some v->Q v H3)/\(Y7 kvs k=none->Q z (upd H3 a (.dT (Ja kvs k z))))
def Zcw {X:Cx}{o e f:Expr}{apos cpos:Pos}{td ty tx:TE}(hu:X.A.units+1<cLine)(ho:PE X o td)(he:PE X e ty)(hf:PE X f tx) (m:M2 X o "setdefault" apos e f cpos):PE X (.Call (.Attribute o "setdefault" apos) [e,f] [] cpos) (vy td ty tx):=by
 intro pins s σ H Q I h
 refine wpAny_Call_method m.base m.few m.line IL HQ PySem.F.type_dict_setdefault (Yf (ho pins s σ H _ I h) λu s1 ⟨x,H1,I1,rx,a,ex,d,q1⟩=>?_)
 subst ex
 obtain rfl:u=Value.ref a:=rx
 obtain⟨t1,t2,_⟩:=nj I1 d
 refine⟨t1,t2,?_⟩
 rw[m.trees]
 refine GR rfl (HH (EZ (Yf (he pins s1 σ H1 _ I1 q1) λiv s2 ⟨y,H2,I2,ry,q2⟩=>
  EZ (Yf (hf pins s2 σ H2 _ I2 q2) λfv s3 ⟨z,H3,I3,rz,kvs,k,b,ey,ea,eb,hl,h1,h2⟩=>HZ ?_))))
 subst ey
 cases (show iv=Value.ref b from ry)
 exact Zcv hu I3 ea eb hl rz (λv w' s4 ev I4 PM=>⟨v,H3,I4,PM,h1 v ev⟩) λev s4 I4=>⟨z,_,I4,rz,h2 ev⟩
abbrev Mw:=List (List Q9×List D)
def V2 (ks:List Q9)(p:D):Mw->Mw
 |[]=>[(ks,[p])]
 |(k,l)::r=>if k=ks then(k,l++[p])::r else(k,l)::V2 ks p r
def OwnP (K:PySem.W.Frag)(H0 Hf H:Hp)(p:List Q9×List D)(q:List Q9×V):Prop:=p.1=q.1/\∃a xs,q.2=.ref a/\H a=some (.lst xs)/\Hf a=none/\H0 a=none/\Reps K Hf p.2 xs
def OwnL (K:PySem.W.Frag)(H0 Hf H:Hp)(acc:Mw)(ys:List (List Q9×V)):Prop:=Paired (OwnP K H0 Hf H) acc ys/\(ys.map (·.2)).Nodup
section
variable {K:PySem.W.Frag}{H0 Hf H LZ H':Hp}{acc:Mw}{ys:List (List Q9×V)}{ks:List Q9}
theorem Se {α β:Type}{F G:α->β->Prop}:∀{l₁:List α}{l₂:List β},Paired F l₁ l₂->(∀a b,F a b->b∈l₂->G a b)->Paired G l₁ l₂
 |_,_,.nil,_=>.nil
 |_,_,.cons h t,f=>.cons (f _ _ h (AX ..)) (Se t λa b x y=>f a b x (AQ _ y))
theorem J9 {α β:Type}{F:α->β->Prop}:∀{l₁:List α}{l₂:List β},Paired F l₁ l₂->∀{b},b∈l₂->∃a,F a b
 |_,_,.nil,b,h=>by cases h
 |_,_,.cons h t,b,hb=>by
  rcases AZ.mp hb with rfl|hb
  .exact⟨_,h⟩
  .exact J9 t hb
def OwnP.move {p:List Q9×List D}{q:List Q9×V}(h:OwnP K H0 Hf H p q)(e:Same Hf LZ)(he:∀a xs,q.2=.ref a->H a=some (.lst xs)->H' a=some (.lst xs))(hb:∀a,Lv H a->Hf a=none->LZ a=none):OwnP K H0 LZ H' p q:=by
 obtain⟨e1,a,xs,e2,e3,e4,e5,e6⟩:=h
 exact⟨e1,a,xs,e2,he a xs e2 e3,hb a (Lv.lst e3) e4,e5,e6.mono e⟩
def OwnL.gr (h:OwnL K H0 Hf H acc ys)(g:Gr Hf H LZ H'):OwnL K H0 LZ H' acc ys:=
 ⟨Paired.mapP h.1 λ_ _ q=>q.move g.fz (λa xs _ z=>g.all _ _ z) g.ban,h.2⟩
def Zcx {v:V}(h:Y7 ys ks=some v):v∈ys.map (·.2):=by
 obtain⟨kv,h1,h2⟩:=CY.mp h
 rw[<-h2]
 exact JS (IC h1)
def Lf {p:List Q9×V}:Y7 (p::ys) ks=if p.1=ks then some p.2 else Y7 ys ks:=by
 unfold Y7
 rw[BX]
 by_cases e:p.1=ks
 .simp[e]
 .simp[e]
def OwnL.there (h:OwnL K H0 Hf H acc ys){v:V}(hv:Y7 ys ks=some v):∃a xs,v=.ref a/\H a=some (.lst xs)/\Hf a=none/\H0 a=none/\(∃p∈acc,xs.length=p.2.length)/\∀(p:D) (y:V),Rep K Hf p y->Paired (OwnP K H0 Hf (upd H a (.lst (xs++[y])))) (V2 ks p acc) ys:=by
 obtain⟨h,n⟩:=h
 induction h with
 |nil=>cases hv
 | @cons x q l l' hp ht ih=>
  rw[BA,FE] at n
  rw[Lf] at hv
  obtain⟨x1,x2⟩:=x
  obtain⟨e1,a,xs,e2,e3,e4,e5,e6⟩:=id hp
  have e1:x1=q.1:=e1
  by_cases e:q.1=ks
  .rw[AC e] at hv
   cases hv
   refine⟨a,xs,e2,e3,e4,e5,⟨_,AX ..,e6.length.symm⟩,λp y ry=>?_⟩
   unfold V2
   rw[AC (e1.trans e)]
   refine .cons ⟨e1,a,xs++[y],e2,Zo,e4,e5,e6.append (Reps.cons ry Reps.nil)⟩ ?_
   refine Se ht λz z' hz hm=>?_
   refine hz.move (Same.refl _) (λb zs e7 e8=>?_) λ_ _ z=>z
   rw[Zl]
   .exact e8
   .rintro rfl
    exact n.1 (by rw[e2,<-e7];exact JS hm)
  .rw[AD e] at hv
   obtain⟨a',a9,f1,f2,f3,f4,⟨pp,g1,g2⟩,f5⟩:=ih hv n.2
   refine⟨a',a9,f1,f2,f3,f4,⟨pp,AQ _ g1,g2⟩,λp y ry=>?_⟩
   unfold V2
   rw[AD (λz=>e (e1.symm.trans z))]
   refine .cons (hp.move (Same.refl _) (λb zs e7 e8=>?_) λ_ _ z=>z) (f5 p y ry)
   rw[Zl]
   .exact e8
   .rintro rfl
    exact n.1 (by rw[e7,<-f1];exact Zcx hv)
def OwnL.new (h:OwnL K H0 Hf H acc ys)(hv:Y7 ys ks=none){p:D}{y:V}{a d:Addr}{u:List (List Q9×V)}{o:HO}(hd:H d=some (.dT u))(ha:H a=none)(h0:H0 a=none)(hf:Hf a=none)(ry:Rep K Hf p y):
  OwnL K H0 Hf (upd (upd H d o) a (.lst [y])) (V2 ks p acc) (Ja ys ks (.ref a)):=by
 have ep:Ja ys ks (V.ref a)=ys++[(ks,.ref a)]:=by
  unfold Ja
  rw[AD]
  intro ZP
  obtain⟨kv,h1,h2⟩:=HL.mp ZP
  exact absurd h2 (KB.mp (GC.mp hv) kv h1)
 have ne:∀{x:List Q9×List D}{q:List Q9×V},OwnP K H0 Hf H x q->OwnP K H0 Hf (upd (upd H d o) a (.lst [y])) x q:=λ{x q} hp=>hp.move (Same.refl _) (λb zs e7 e8=>by
  have n1:b≠a:=λz=>by rw[z,ha] at e8;cases e8
  have n2:b≠d:=λz=>by rw[z,hd] at e8;cases e8
  rw[Zl n1,Zl n2];exact e8) λ_ _ z=>z
 rw[ep]
 obtain⟨h,n⟩:=h
 refine⟨?_,?_⟩
 .clear n ep
  induction h with
  |nil=>exact .cons ⟨rfl,a,[y],rfl,Zo,hf,h0,Reps.cons ry Reps.nil⟩ .nil
  | @cons x q l l' hp ht ih=>
   rw[Lf] at hv
   obtain⟨x1,x2⟩:=x
   have e1:x1=q.1:=hp.1
   by_cases e:q.1=ks
   .rw[AC e] at hv;cases hv
   .rw[AD e] at hv
    unfold V2
    rw[AD (λz=>e (e1.symm.trans z))]
    exact .cons (ne hp) (ih hv)
 .rw[HS,KL]
  refine⟨n,by simp,λv fu w hw=>?_⟩
  simp only[BA,FH,DG] at hw
  subst hw
  rintro rfl
  obtain⟨q,hq,eq⟩:=EU.mp fu
  obtain⟨x,hx⟩:=J9 h hq
  obtain⟨_,b,xs,e2,e3,_⟩:=hx
  rw[eq] at e2
  cases e2
  rw[ha] at e3
  cases e3
theorem Nl {p:D}{n:Nat}:∀{acc:Mw},(∀x∈acc,x.2.length<=n)->∀x∈V2 ks p acc,x.2.length<=n+1
 |[],_,x,hx=>by
  unfold V2 at hx
  rw[DG] at hx
  rw[hx]
  simp
 |(k,l)::r,h,x,hx=>by
  unfold V2 at hx
  split at hx
  .rcases AZ.mp hx with rfl|hx
   .have:=h _ (AX ..)
    simp only[BE,AW,FF] at this ⊢
    lia
   .exact HE (h x (AQ _ hx))
  .rcases AZ.mp hx with rfl|hx
   .exact HE (h _ (AX ..))
   .exact Nl (λy hy=>h y (AQ _ hy)) x hx
theorem Sf {p:D}:∀{acc:Mw},(V2 ks p acc).length<=acc.length+1
 |[]=>AO _
 |(k,l)::r=>by
  unfold V2
  split
  .simp
  .have:=Sf (p:=p) (acc:=r)
   simp only[AW]
   lia
open Classical in
noncomputable def VX (Hf H:Hp)(S:Addr->Prop):Hp:=λb=>match Hf b with
 |some u=>some u
 |none=>if S b then H b else none
def Sg {S:Addr->Prop}:Same Hf (VX Hf H S):=λb u q=>by unfold VX;rw[q]
def zJ {S:Addr->Prop}(e:Same Hf H):Same (VX Hf H S) H:=λb u q=>by
 unfold VX at q
 split at q
 .rename_i u' eu;cases q;exact e _ _ eu
 .split at q
  .exact q
  .cases q
def Ei {S:Addr->Prop}(e:Same Hf H){b:Addr}(h:S b){o:HO}(ho:H b=some o):VX Hf H S b=some o:=by
 unfold VX
 split
 .rename_i u' eu;rw[<-ho];exact(e _ _ eu).symm
 .rw[AC h];exact ho
def A6 {S:Addr->Prop}{b:Addr}(h:¬S b)(hf:Hf b=none):VX Hf H S b=none:=by
 unfold VX
 rw[hf]
 exact AD h
variable {sd:Zf}{σ:L2.St}{B:Addr->Prop}
def SR.mut (r:SR K H0 B Hf sd σ H){b:Addr}{o:HO}(h0:H0 b=none)(hf:Hf b=none)(off:af sd σ b):SR K H0 B Hf sd σ (upd H b o):=
 ⟨λc u q=>by rw[Zl (Zt q hf)];exact r.sub c u q,λc u q=>by rw[Zl (Zt q h0)];exact r.all c u q,r.ban,r.bt,r.len,r.imS,λi t e ow=>by
  obtain⟨p,e1,e2,e3,e4⟩:=r.ow i t e ow
  refine⟨p,e1,e2,e3,Vf e4 (Same.refl _) λu h=>?_⟩
  rw[Zl]
  .exact h
  .rintro rfl
   exact off i t e ow e1,r.sep⟩
def Gr.new (e:Same Hf H){b:Addr}(h:H b=none)(o:HO):Gr Hf H Hf (upd H b o):=⟨Same.refl _,e.trans (Qa h o),Qa h o,λ_ _ z=>z⟩
end
def qD (q:Mw):List (List Q9×D):=q.map λp=>(p.1,D.lst p.2)
def lK (K:PySem.W.Frag)(CF:Addr)(Fb:List D->Option Mw):Sp:=λvs H Q _=>∃Hf x dx hall ppl q vh vp,vs=[.ref x,vh,vp]/\Same Hf H/\Hf x=none/\H x=some (.ins CF dx [])/\Rep K Hf hall vh/\Rep K Hf (.lst ppl) vp/\ppl.length<=1000000/\Fb ppl=some q /\
 ∀LZ H' k,Same Hf LZ->Same LZ H'->(∀b u,b≠x->H b=some u->H' b=some u)->(∀b,Lv H b->Hf b=none->b≠x->LZ b=none)->FlK K LZ x hall (qD q) k->LZ k=none->H' k=some (.dT [])->H k=none->Q .non H'
section
variable {X:Cx}{E:XK}{p p2 pos:Pos}{es:List Expr}{k:Nat}
def Ej (fs:Zf->M (List D))(sd:Zf):M (List D):=(fs sd).bind λds=>match ds with
 |[.tup xs,.tup ys]=>.ok (eJ xs ys)
 |_=>.bad
def O5 {l m:Expr}{fs:Zf->M (List D)} (hg:Gl X "zip") (hm:X.mg "zip"=none) (h:S2 X E [l,m] fs) (hs:starEach [l,m] X.env=[(false,eval l X.env),(false,eval m X.env)]:=by rfl) (hs2:starEach [m] X.env=[(false,eval m X.env)]:=by rfl):
  ar X E (.Tuple es k p2) (.Call (.Name "zip" p) [l,m] [] pos) (Ej fs):=by
 obtain⟨t,pt,q⟩:=h
 refine⟨_,yu true true hg hm pt hs hs2,λH0 B Hf sd σ H R sr h=>?_⟩
 refine q H0 B Hf sd σ H _ sr (Po.bind h λds vs MB H1 _ g1 rs h1=>?_)
 split at h1
 .rename_i xs ys
  obtain⟨v,w',rfl,rv,PM⟩:=mH rs
  obtain⟨a,us,rfl,ha,hr⟩:=Qg rv
  obtain⟨b,ws,rfl,hb,qK⟩:=Qg PM
  exact⟨a,b,rfl,⟨us,Jp (t:=true) g1.sub ha⟩,⟨ws,Jp (t:=true) g1.sub hb⟩,Po.ret (R:=Pk X.K) g1.sub h1 (xD (t1:=true) (t2:=true) ha hr hb qK)⟩
 .exact h1.elim
end
structure Dm (K:PySem.W.Frag) (mg:Str->Option Value) (x:Str) (st:Stmt):Prop where
 ex:∃f fd,Fun K x x st f fd/\mg x=some (.ref f)
structure Mm (K:PySem.W.Frag) (C:Addr) (m q:Str) (st:Stmt):Prop where
 ex:∃f fd,NI K C m f/\Fun K m q st f fd
structure Cl (P:Program) (w:World) (K:PySem.W.Frag) (mg:Str->Option Value) (base:Heap) (n:Nat) (x:Str) (ps:List Str) (F:List D->M S):Prop where
 ex:∃f fd,MC P w K mg base Yi n f fd ps (Bw K F)/\Binds K fd ps []/\PySem.W.keepIn K (.ref f)=true/\mg x=some (.ref f)
section
variable {P:Program}{w:World}{K:PySem.W.Frag}{mg:Str->Option Value}{base:Heap}
def dm_mk {h:Heap}{x:Str}{st:Stmt}{f:Addr}{oc:Value}{od an:Option Addr}{sl:Array (Option Value)}{kV dc pm cd ct:Value}(X:K.In h)(G:h.Ns mainGlobals mg)(a:PySem.W.nsIn K mainGlobals x=some (some (.ref f)))(l:K.lookup f=some ⟨oc,od,.func (PySem.W.fnOf x x (Xz st) (Qz st) (Zg st) .none kV dc pm an cd ct),sl⟩)(c:PySem.W.codeIn K cd x=true)(k:PySem.W.keepIn K (.ref f)=true):Dm K mg x st:=⟨_,_,Dk l c k,FN X G a⟩
def mm_mk {C:Addr}{m q:Str}{st:Stmt}{f:Addr}{oc:Value}{od an:Option Addr}{sl:Array (Option Value)}{kV dc pm cd ct:Value}(a:PySem.W.findIn K (.ref C) m=some (some (.ref f)))(n:PySem.W.isFn K (.ref f)=true)(l:K.lookup f=some ⟨oc,od,.func (PySem.W.fnOf m q (Xz st) (Qz st) (Zg st) .none kV dc pm an cd ct),sl⟩)(c:PySem.W.codeIn K cd q=true)(k:PySem.W.keepIn K (.ref f)=true):Mm K C m q st:=⟨_,_,⟨a,n,k⟩,Dk l c k⟩
def Dm.cl {x:Str}{st:Stmt}{n:Nat}{ps:List Str}{F:List D->M S}(d:Dm K mg x st)(hb:∀(kV doc pm:Value) (an:Option Addr) (ME ct:Value) (us:List Value),us.length=ps.length->bindArgs (PySem.W.fnOf x x (Xz st) (Qz st) (Zg st) .none kV doc pm an ME ct) ⟨us,[]⟩=pure (ps.zip us))(h:∀f fd,Fun K x x st f fd->MC P w K mg base Yi n f fd ps (Bw K F)):Cl P w K mg base n x ps F:=
 let ⟨f,fd,F,m⟩:=d.ex
 ⟨f,fd,h f fd F,F.binds hb,F.kp,m⟩
end
def Zu {X:Cx}{E:XK}{pos:Pos}{k:Nat}{ps:List Str}{F:List D->M S}{x:Str}{p:Pos}{a:Expr}{es:List Expr}{fs:Zf->M (List D)}(c:Cl X.prog X.w X.K X.mg X.base k x ps F)(hr:Room k X.A)(ha:S2 X E (a::es) fs)(hg:Gl X x:=by rfl) (NT:(x==("__debug__":Str))=false:=by decide) (he:starEach (a::es) X.env=(false,eval a X.env)::starEach es X.env:=by rfl) (MT:(backTo pos (starEach es X.env)).any (·.1)=false:=by rfl):
  Yt X E (.Call (.Name x p) (a::es) [] pos) (Z1 F fs):=
 let ⟨_,_,G,b,k,m⟩:=c.ex
 Xp G hr m k b ha hg NT he MT
end DL
namespace DL
open PySem PySem.Spec PySem.Calls PySem.Builtin PySem.Builtin.ObjectAttr PyProof.Rows L2 PySem.W
def Gb (F:List D->M S)(fs:Zf->M (List D))(gt:D->Zf->M Zf)(i:Nat)(cs:List Str)(g:Zf->M O)(sd:Zf):M O:=match fs sd with
 |.ok ds=>(match F ds with
  |.ok (.im d)=>(match gt d sd with
   |.ok sd'=>.ok (.nx sd')
   |_=>.bad)
  |.ex x=>if cs.contains x.cls then(match g (sd.set i (some (.xc x))) with
   |.ok (.nx sd')=>.ok (.nx (sd'.set i none))
   |_=>.bad) else .bad
  |_=>.bad)
 |_=>.bad
section
variable {X:Cx}{E:XK}{a:Expr}
def Zcy {k:Nat}{f Dc:Addr}{fd:FuncData}{ps:List Str}{F:List D->M S}{fn n c:Str}{tg:Expr}{gt:D->Zf->M Zf}{p2 p3 cpos apos YY pos:Pos}{es:List Expr}{fs:Zf->M (List D)}{b₀:Stmt}{QO:List Stmt}{g:Zf->M O}{i:Nat}{cs:List Str}(G:MC X.prog X.w X.K X.mg X.base (aq X.prog X.w) k f fd ps (cJ X.K F))(hr:Room k X.A)(hm:X.mg fn=some (.ref f))(hk:keepIn X.K (.ref f)=true)(hb:Binds X.K fd ps [])(ha:S2 X.nox E0 (a::es) fs)(ht:YL X.nox tg gt)(hN:X.N.Nodup)(hD:X.mg c=some (.ref Dc))(hC:∀y∈cs,∃C,nsIn X.K mainGlobals y=some (some (.ref C))/\XS X.K C Dc)(hs:∀e,U3 (ak X e) E0 (b₀::QO) g)(hi:X.N[i]?=some n:=by rfl)(hn:X.env.kindOf n=some .local:=by rfl)(hg:Gl X fn:=by rfl)(gc:Gl X c:=by rfl)(RA:X.stack=X.env::X.outer:=by rfl)(gf:X.env.frame=some X.env.locals:=by rfl)
  (NT:(fn==("__debug__":Str))=false:=by decide) (hdc:(c==("__debug__":Str))=false:=by decide) (bL:swapsWithSole [tg] (.Call (.Name fn p2) (a::es) [] cpos) apos.line X.env=pure false:=by rfl) (f9:swappedStores [tg] (.Call (.Name fn p2) (a::es) [] cpos) X.env=pure none:=by rfl)
  (hJ:(assignEach [tg] X.env).map (·.2)=[assign tg X.env]:=by rfl)
  (he:starEach (a::es) X.env=(false,eval a X.env)::starEach es X.env:=by rfl) (MT:(backTo cpos (starEach es X.env)).any (·.1)=false:=by rfl):
  Wq X E (.Try [.Assign [tg] (.Call (.Name fn p2) (a::es) [] cpos) apos] [.ExceptHandler (some (.Name c p3)) (some n) (b₀::QO) YY] [] [] pos) (Gb F fs gt i cs g):=by
 refine⟨λD' σ H=>∃H0 B Hf sd,SR X.K H0 B Hf sd σ H/\PoS X.K E H0 B Hf (Gb F fs gt i cs g sd) D',?_,λH0 B Hf sd σ H D' sr h=>⟨H0,B,Hf,sd,sr,h⟩⟩
 rintro pins s σ H D' I ⟨H0,B,Hf,sd,sr,po⟩
 obtain⟨ta,pa,qa⟩:=ha
 refine wpAny_Try_except (IE (wpAny_Assign_stores ?_ bL f9))
 refine DZ (Ur I hg hm ?_ NT)
 unfold Gb at po
 split at po
 case h_2=>exact po.elim
 rename_i ds ef
 have bo:=pa cpos pins s σ H (λvs H1=>∃MB,Gr Hf H MB H1/\Reps X.K MB ds vs) (I.wish _) (qa H0 B Hf sd σ H _ sr (by
  rw[ef]
  exact λvs MB H1 g1 rs=>⟨MB,g1,rs⟩))
 refine EO (h₀:=X.base) I.ok.mod.kin hk (CB bo (λus s1 h1=>?_) λ_ _ z=>False.elim z) he MT
 obtain⟨vs,H1,I1',r,MB,g1,rs⟩:=h1
 have I1:Inv X pins σ H1 s1:=I1'.unwish
 refine⟨I1.kIn,?_⟩
 have sr1:=sr.gr g1
 have nb:F ds≠.bad:=λz=>by rw[z] at po;exact po
 have hsp:cJ X.K F vs H1 (λv H2=>∃t MI,F ds=.ok t/\Gr MB H1 MI H2/\RS X.K H1 MI H2 t v) (λc dx H2=>∃z MI,F ds=.ex z/\Gr MB H1 MI H2/\cU X.K MI H2 z c dx):=by
  refine⟨MB,ds,g1.sub,rs,?_⟩
  cases e:F ds with
  |ok t=>exact λv LZ H' g' q=>⟨t,LZ,rfl,g',q⟩
  |ex z=>exact λc dx LZ H' g' q=>⟨z,LZ,rfl,g',q⟩
  |bad=>exact nb e
 have hl:(us++[]).length=ps.length:=by rw[BJ,<-r.length];exact G.len _ _ _ _ hsp
 have cD:=hb s1 us I1.kIn hl
 rw[BJ] at cD
 refine GN (FC (G.run X.A X.stack s1 H1 ⟨us,[]⟩ us vs _ _ hr I1.env0 cD r hsp) λrr s' hq=>?_)
 cases rr with
 |ok fl=>
  cases fl with
  |next=>exact False.elim hq
  |brk=>exact False.elim hq
  |cont=>exact False.elim hq
  |ret u=>
   obtain⟨v,H2,I2,rv,t,MI,eF,g2,q2⟩:=I1.after hq
   rw[eF] at po
   rw[hJ]
   cases t with
   |im d=>
    dsimp only at po
    obtain⟨tt,pt,qt⟩:=ht
    cases eg:gt d sd with
    |ok sd'=>
     rw[eg] at po
     have sr2:=sr1.gr g2
     have st:=pt pins s' σ H2 v u (λσ' H'=>H'=H2/\SR X.K H0 B MI sd' σ' H2) (I2.wish _) rv (qt H0 B MI sd σ H2 v d sd' _ sr2 q2 eg λσ' fJ=>⟨rfl,fJ⟩)
     refine CB st (λ_ s9 h9=>?_) λ_ _ z=>False.elim z
     obtain⟨σ9,H9,I9',e9,fJ⟩:=h9
     subst e9
     have I9:Inv X pins σ9 _ s9:=I9'.unwish
     exact EX (EX ⟨_,_,I9,po _ MI _ (g1.fz.trans g2.fz) fJ⟩)
    |ex x=>rw[eg] at po;exact po.elim
    |bad=>rw[eg] at po;exact po.elim
   |_=>exact po.elim
 |error e=>
  obtain⟨b,H2,cl,dx,T,rfl,os,bare,un,hok,qN,na,nT,za,zT,z,MI,eF,g2,C,xs,rfl,kC,hxf,hrs⟩:=hq
  rw[eF] at po
  dsimp only at po
  split at po
  case isFalse=>exact po.elim
  rename_i dF
  have I2:Inv X pins σ H2 s':=I1.call' os un hok bare (λb z=>absurd z (by simp))
  have fa:=R5 I1 za
  have fT:=R5 I1 zT
  have hits:XS X.K C Dc:=by
   obtain⟨C',q1,q2⟩:=hC z.cls (by simpa using dF)
   rw[kC] at q1;cases q1;exact q2
  show wpAny (model X.prog X.w) X.A (noteFrame (.ref b) X.env) _ _ s'
  refine Fw (base:=X.base) (outer:=X.outer) (by rw[<-RA];exact I2.ok.frames) (RA▸I2.stack) gf qN λh3 T3 z3 n3 ne3 c3=>?_
  rw[<-RA] at c3
  have I3:Inv X pins σ H2 {s' with heap:=h3}:=D2 I2 c3 na nT fa fT
  have kX:RT X pins T3:=R5 I2 z3
  have jr:H2 T3=none:=I2.hok.fresh z3
  refine Ng (s:={s' with heap:=h3}) n3 ne3 λh4 sz4 n4 o4=>?_
  have I4:Inv X pins σ H2 {s' with heap:=h4}:=D2 (s:={s' with heap:=h3}) (h':=h4) (a:=b) (T:=T3) I3 ⟨λb' o _ m2 _ q=>(o4 b' m2).trans q,λb' o _ m2 q=>⟨o.slots,(o4 b' m2).trans q⟩⟩ na jr fa kX
  refine wpAny_handleBy_cons (codeAny_handlers_test ?_) (by intro q;cases q)
  refine Ur (Fx (e:=.ref b) I4) gc hD ?_ hdc
  obtain⟨oe,ws,q1,q2,_⟩:=id n4
  refine wN (K:=X.K) I4.kIn hits q1 q2 ?_
  refine codeAny_handlers_suite_as ?_
  refine Ng (s:={s' with heap:=h4}) n4 ne3 λh5 sz5 n5 o5=>?_
  have I5:Inv X pins σ H2 {s' with heap:=h5}:=D2 (s:={s' with heap:=h4}) (h':=h5) (a:=b) (T:=T3) I4 ⟨λb' o _ m2 _ q=>(o5 b' m2).trans q,λb' o _ m2 q=>⟨o.slots,(o5 b' m2).trans q⟩⟩ na jr fa kX
  have I6:Inv X pins σ (upd H2 b (XO b C dx)) {s' with heap:=h5}:=Ot I5 na fa (vC n5)
  have g3:Gr MI H2 (upd MI b (XO b C dx)) (upd H2 b (XO b C dx)):=Gr.alloc g2.sub na _
  have sr6:SR X.K H0 B (upd MI b (XO b C dx)) (sd.set i (some (.xc z))) (σ.set i (some (.ref b))) (upd H2 b (XO b C dx)):=
   ((sr1.gr g2).gr g3).set_st i rfl (show RepE X.K _ z (.ref b) from⟨b,C,dx,xs,rfl,Zo,kC,hxf.mono g3.fz,hrs.mono g3.fz⟩)
  refine V4 (X:=ak X (.ref b)) (v:=.ref b) (Fx I6) hN hi (Or.inl hn) rfl (λs6 I7=>?_) (Or.inr hn)
  obtain⟨t2,om,oX⟩:=hs (.ref b)
  have run:=om pins s6 _ _ {nx:=λσ' H'=>∃LZ sd',Same (upd MI b (XO b C dx)) LZ/\SR X.K H0 B LZ sd' σ' H'/\g (sd.set i (some (.xc z)))=.ok (.nx sd'),rt:=λ_ _=>False} I7 (oX H0 B _ _ _ _ _ sr6 (by
   split at po
   case h_2=>exact po.elim
   rename_i sd' eg
   rw[eg]
   exact λσ' LZ H' e1 sr'=>⟨LZ,sd',e1,sr',rfl⟩))
  refine CB run (λfl s7 h7=>?_) λ_ _ z=>False.elim z
  cases fl with
  |next=>
   obtain⟨σ',H',I8,LZ,sd',e1,sr',eg⟩:=h7
   rw[eg] at po
   exact Ou (Zb6 I4.ok I8) hN hi hn λs9 I9=>⟨_,H',I9,po _ LZ H' ((g1.fz.trans g2.fz).trans (g3.fz.trans e1)) (sr'.drop i)⟩
  |ret u=>obtain⟨_,_,_,_,_,q⟩:=h7;exact q.elim
  |brk=>obtain⟨_,_,_,q⟩:=h7;exact q.elim
  |cont=>obtain⟨_,_,_,q⟩:=h7;exact q.elim
end
structure Xm (K:Frag) (mg:Str->Option Value) (c fld q:Str) (st:Stmt):Prop where
 ex:∃(C fI:Addr) (fd:FuncData),nsIn K mainGlobals c=some (some (.ref C))/\mg c=some (.ref C)/\R4 K C fI=true/\keepIn K (.ref C)=true/\isFn K (.ref fI)=true/\Fun K "__init__" q st fI fd/\Aq K C=true/\Ar K C=true/\findIn K (.ref C) fld=some none/\As K C C=true
def xm_mk {K:Frag}{h:Heap}{mg:Str->Option Value}{c fld q:Str}{st:Stmt}{C fI:Addr}{cdd:ClassData}{oc:Value}{od an:Option Addr}{sl:Array (Option Value)}{kV dc pm cd ct:Value}(X:K.In h)(G:h.Ns mainGlobals mg)(ya:nsIn K mainGlobals c=some (some (.ref C)))(yd:clsIn K C=some cdd) (yi:nsIn K cdd.ns "__init__"=some (some (.ref fI)))
  (yl:K.lookup fI=some ⟨oc,od,.func (fnOf "__init__" q (Xz st) (Qz st) (Zg st) .none kV dc pm an cd ct),sl⟩) (yc:codeIn K cd q=true) (yk:keepIn K (.ref fI)=true) (yp:keepIn K (.ref C)=true) (yf:isFn K (.ref fI)=true) (yn:findIn K (.ref C) fld=some none)
  (ye:R4 K C fI=true) (yx:Aq K C=true) (yt:Ar K C=true) (yh:As K C C=true):Xm K mg c fld q st:=⟨_,_,_,ya,mg_of X G ya,ye,yp,yf,Dk yl yc yk,yx,yt,yn,yh⟩
structure Xr (P:Program) (w:World) (K:Frag) (mg:Str->Option Value) (base:Heap) (c fld:Str):Prop where
 ex:∃(C fI:Addr) (fd:FuncData) (self p:Str),nsIn K mainGlobals c=some (some (.ref C))/\mg c=some (.ref C)/\R4 K C fI=true/\keepIn K (.ref C)=true/\isFn K (.ref fI)=true/\MC P w K mg base Yi 1 fI fd [self,p] (ao C fld)/\Binds K fd [self,p] []/\VM K c C/\findIn K (.ref C) fld=some none/\As K C C=true
def Xm.xr {P:Program}{w:World}{K:Frag}{mg:Str->Option Value}{base:Heap}{c fld q self p:Str}{st:Stmt}{p1 p2 p3 p4:Pos}(m:Xm K mg c fld q st)(sc:MA [self,p] [self,p] (Zg st))(hb:Qz st=[.Assign [.Attribute (.Name self p1) fld p2] (.Name p p3) p4])
  (bi:∀(kV doc pm:Value) (an:Option Addr) (ME ct:Value) (us:List Value),us.length=[self,p].length->bindArgs (fnOf "__init__" q (Xz st) (Qz st) (Zg st) .none kV doc pm an ME ct) ⟨us,[]⟩=pure ([self,p].zip us))
  (v1:Gm (Zg st) self) (v2:Gm (Zg st) p) (d1:(self==("__debug__":Str))=false:=by decide) (d2:(p==("__debug__":Str))=false:=by decide) (d3:(self==("__classdict__":Str))=false:=by decide) (d4:(p==("__classdict__":Str))=false:=by decide):Xr P w K mg base c fld:=by
 obtain⟨C,fI,fd,ya,mc,ye,yp,yf,F,yx,yt,yn,yh⟩:=m.ex
 exact⟨C,fI,fd,self,p,ya,mc,ye,yp,yf,zD F sc hb (F0 yx) yn v1 v2 d1 d2 d3 d4,F.binds bi,ym ya yx yt,yn,yh⟩
structure fE (P:Program) (w:World) (K:Frag) (mg:Str->Option Value) (base:Heap) (n:Nat) (x:Str) (ps:List Str) (F:List D->M S):Prop where
 ex:∃f fd,MC P w K mg base (aq P w) n f fd ps (cJ K F)/\Binds K fd ps []/\keepIn K (.ref f)=true/\mg x=some (.ref f)
def Dm.clX {P:Program}{w:World}{K:Frag}{mg:Str->Option Value}{base:Heap}{x:Str}{st:Stmt}{n:Nat}{ps:List Str}{F:List D->M S}(d:Dm K mg x st)(hb:∀(kV doc pm:Value) (an:Option Addr) (ME ct:Value) (us:List Value),us.length=ps.length->bindArgs (fnOf x x (Xz st) (Qz st) (Zg st) .none kV doc pm an ME ct) ⟨us,[]⟩=pure (ps.zip us))(h:∀f fd,Fun K x x st f fd->MC P w K mg base (aq P w) n f fd ps (cJ K F)):fE P w K mg base n x ps F:=
 let ⟨f,fd,F,m⟩:=d.ex
 ⟨f,fd,h f fd F,F.binds hb,F.kp,m⟩
section
variable {X:Cx}{E:XK}{a:Expr}
def Ek {c f:Str}{e:Expr}{es:List Expr}{np cpos pos:Pos}{fs:Zf->M (List D)}(x:Xr X.prog X.w X.K X.mg X.base c f)(o:de X E)(hc:X.calm=true)(hr:Room 2 X.A)(ha:S2 X E (e::es) fs)(hg:Gl X c:=by rfl) (NT:(c==("__debug__":Str))=false:=by decide)
  (he:starEach (e::es) X.env=(false,eval e X.env)::starEach es X.env:=by rfl) (MT:(backTo cpos (starEach es X.env)).any (·.1)=false:=by rfl):
  Wq X E (.Raise (some (.Call (.Name c np) (e::es) [] cpos)) none pos) (Ni c f fs):=
 let ⟨_,_,_,_,_,ya,mc,ye,yp,yf,F,b,_,_,_⟩:=x.ex
 Os o hc (vE ye) yp yf F hr b mc ya ha hg NT he MT
def Zcz {c f vn:Str}{p pos:Pos}(x:Xr X.prog X.w X.K X.mg X.base c f)(i:Nat)(hN:X.N[i]?=some vn:=by rfl)(hv:Gm X.env.scope vn:=by trivial) (hd:(vn==("__debug__":Str))=false:=by decide) (MV:(vn==("__classdict__":Str))=false:=by decide)
  (hb:attributeBase (.Name vn p) f X.env (eval (.Name vn p) X.env)=eval (.Name vn p) X.env:=by rfl):Yt X E (.Attribute (.Name vn p) f pos) (Fy i [c] f):=
 let ⟨_,_,_,_,_,_,_,_,_,_,_,_,kn,yn,_⟩:=x.ex
 yv i [c] (nq ⟨_,kn,yn⟩) hN hv hd MV hb
def O6 {k:Nat}{ps:List Str}{F:List D->M S}{fn n c fld:Str}{tg:Expr}{gt:D->Zf->M Zf}{p2 p3 cpos apos YY pos:Pos}{es:List Expr}{fs:Zf->M (List D)}{b₀:Stmt}{QO:List Stmt}{g:Zf->M O}{i:Nat}(cl:fE X.prog X.w X.K X.mg X.base k fn ps F)(x:Xr X.prog X.w X.K X.mg X.base c fld)(hr:Room k X.A)(ha:S2 X.nox E0 (a::es) fs)(ht:YL X.nox tg gt)(hN:X.N.Nodup)(hs:∀e,U3 (ak X e) E0 (b₀::QO) g)(hi:X.N[i]?=some n:=by rfl)(hn:X.env.kindOf n=some .local:=by rfl)(hg:Gl X fn:=by rfl)(gc:Gl X c:=by rfl)(RA:X.stack=X.env::X.outer:=by rfl)(gf:X.env.frame=some X.env.locals:=by rfl)
  (NT:(fn==("__debug__":Str))=false:=by decide) (hdc:(c==("__debug__":Str))=false:=by decide) (bL:swapsWithSole [tg] (.Call (.Name fn p2) (a::es) [] cpos) apos.line X.env=pure false:=by rfl) (f9:swappedStores [tg] (.Call (.Name fn p2) (a::es) [] cpos) X.env=pure none:=by rfl)
  (hJ:(assignEach [tg] X.env).map (·.2)=[assign tg X.env]:=by rfl)
  (he:starEach (a::es) X.env=(false,eval a X.env)::starEach es X.env:=by rfl) (MT:(backTo cpos (starEach es X.env)).any (·.1)=false:=by rfl):
  Wq X E (.Try [.Assign [tg] (.Call (.Name fn p2) (a::es) [] cpos) apos] [.ExceptHandler (some (.Name c p3)) (some n) (b₀::QO) YY] [] [] pos) (Gb F fs gt i [c] g):=
 let ⟨_,_,G,b,kp,m⟩:=cl.ex
 let ⟨_,_,_,_,_,ya,mc,_,_,_,_,_,_,_,yh⟩:=x.ex
 Zcy G hr m kp b ha ht hN mc (nq ⟨_,ya,yo yh⟩) hs hi hn hg gc RA gf NT hdc bL f9 hJ he MT
end
end DL
namespace Law
open PySem L2 DL
def top (i:Nat):Stmt:=PySem.Challenge.pw_selfsight_k41_whole_rings_walked.main.body.getD i (.Pass ⟨0,0,0,0⟩)
abbrev Jf:Stmt:=top 1
abbrev Sh:Stmt:=top 2
abbrev Mx:Stmt:=top 3
abbrev Wj:Stmt:=top 11
abbrev Vo:Stmt:=top 12
abbrev Nm:Stmt:=top 13
abbrev Kl:Stmt:=top 14
abbrev Nn:Stmt:=top 15
abbrev No:Stmt:=top 16
abbrev My:Stmt:=top 17
abbrev Xv:Stmt:=top 18
abbrev jF:Stmt:=top 20
abbrev Ue:Stmt:=top 24
abbrev Ju:Stmt:=top 25
abbrev Np:Stmt:=top 26
abbrev Km:Stmt:=top 27
abbrev Vp:Stmt:=top 28
abbrev Wk:Stmt:=top 29
abbrev K7:Stmt:=top 30
abbrev Uf:Stmt:=top 31
abbrev Qu:Stmt:=top 32
abbrev El:Stmt:=top 33
abbrev Em:Stmt:=top 35
abbrev Si:Stmt:=top 37
abbrev Ug:Stmt:=top 38
abbrev Mz:Stmt:=top 39
abbrev Wl:Stmt:=top 40
abbrev Nq:Stmt:=top 41
abbrev M0:Stmt:=top 42
abbrev Uh:Stmt:=top 43
abbrev Vb:Stmt:=top 44
abbrev Gc:Stmt:=top 45
abbrev Ka:Stmt:=U8 (top 22) 0
abbrev Ui:Stmt:=U8 (top 22) 1
abbrev Vq:Stmt:=U8 (top 22) 2
abbrev Vr:Stmt:=U8 (top 23) 0
abbrev Vs:Stmt:=U8 (top 23) 1
abbrev Wm:Stmt:=U8 (top 23) 2
abbrev Nr:Stmt:=U8 (top 23) 3
abbrev M1:Stmt:=U8 (top 23) 4
abbrev Uj:Stmt:=U8 (top 23) 5
abbrev Lg:Stmt:=U8 (top 7) 0
def En:MA ["self","point"] ["self","point"] (Zg Lg):=⟨rfl,rfl,rfl,by decide +kernel,rfl,by decide +kernel,by decide +kernel⟩
section
variable {P:Program}{w:World}{K:PySem.W.Frag}{mg:Str->Option Value}{base:Heap}
noncomputable def Q5:List D->M S:=V3 2 3
  (Zw (Z7 2 (Kr Kg (Zb (Zd 0) Zk)))
   (Zw (Z7 3 (Kr Kg (Zb (Zd 1) Zk)))
   (Zw (Gy (tB (Zp Rr (Zd 3) ↑0)) (Zw (Z7 4 (Zp Yk (Zd 2) (Zd 3)))
   (Zw (Z7 2 (Zd 3))
   (Z7 3 (Zd 4)))))
   (Qq (Zd 2)))))
def sc_common_divisor:MA ["one","other","greater","lesser","rest"] ["one","other"] (Zg Jf):=⟨rfl,rfl,rfl,by decide +kernel,rfl,by decide +kernel,by decide +kernel⟩
def Gd (d:Dm K mg "common_divisor" Jf) (ML:mg "abs"=none):Cl P w K mg base 1 "common_divisor" ["one","other"] Q5:=
 d.cl (by trivial) λ_ _ F=>Jz F sc_common_divisor rfl rfl λME A outer s H E hr=>
  (Zi (Zq 2 sc_common_divisor.nd (Qx Vg (by rfl) ML (by rfl) (Za (Zc 0) Ze)))
   (Zi (Zq 3 sc_common_divisor.nd (Qx Vg (by rfl) ML (by rfl) (Za (Zc 1) Ze)))
   (Zi (T2 CM (Zz (Rs hr.units) (Zc 3) Zj (Z0 _)) (Zi (Zq 4 sc_common_divisor.nd (Zr Xk (Zc 2) (Zc 3)))
   (Zi (Zq 2 sc_common_divisor.nd (Zc 3))
   (Zm (Zq 3 sc_common_divisor.nd (Zc 4))))))
   (Zm (Zs (Zc 2))))))
noncomputable def Vc:List D->M S:=V3 2 1
  (Zw (Z7 2 (Z1 Q5 (Zb (Zd 0) (Zb (Zd 1) Zk))))
   (Qq (Qi (Zb (Zp Q4 (Zd 0) (Zd 2)) (Zb (Zp Q4 (Zd 1) (Zd 2)) Zk)))))
def sc_amount:MA ["top","bottom","divisor"] ["top","bottom"] (Zg Sh):=⟨rfl,rfl,rfl,by decide +kernel,rfl,by decide +kernel,by decide +kernel⟩
def O7 (d:Dm K mg "amount" Sh) (MG:Cl P w K mg base 1 "common_divisor" ["one","other"] Q5):Cl P w K mg base 2 "amount" ["top","bottom"] Vc:=
 d.cl (by trivial) λ_ _ F=>Jz F sc_amount rfl rfl λME A outer s H E hr=>
  (Zi (Zq 2 sc_amount.nd (Zu MG hr.m (Za (Zc 0) (Za (Zc 1) Ze))))
   (Zm (Zs (Z4 (Za (Zr Yd (Zc 0) (Zc 2)) (Za (Zr Yd (Zc 1) (Zc 2)) Ze))))))
noncomputable def Kb:List D->M S:=V3 2 0
  (Qq (Zp XR (Zp Zx 0[0]! 1[1]!) (Zp Zx 1[0]! 0[1]!)))
def Zc1:MA ["one","other"] ["one","other"] (Zg Mx):=⟨rfl,rfl,rfl,by decide +kernel,rfl,by decide +kernel,by decide +kernel⟩
def Zc2 (d:Dm K mg "below" Mx)  : Cl P w K mg base 1 "below" ["one","other"] Kb:=
 d.cl (by trivial) λ_ _ F=>Jz F Zc1 rfl rfl λME A outer s H E hr=>
  (Zm (Zs (Je jH (Zr Z2 (Zv (Zc 0)) (Zv (Zc 1))) (Zr Z2 (Zv (Zc 1)) (Zv (Zc 0))) (Z0 _))))
noncomputable def Vt:List D->M S:=V3 1 0
  (Qq (Ro (iS "int" (Zd 0)) (lU (iS "bool" (Zd 0)))))
def A7:MA ["value"] ["value"] (Zg Wj):=⟨rfl,rfl,rfl,by decide +kernel,rfl,by decide +kernel,by decide +kernel⟩
def A8 (d:Dm K mg "is_whole" Wj) (MM:mg "isinstance"=none) (NZ:mg "int"=none) (OM:mg "bool"=none):Cl P w K mg base 1 "is_whole" ["value"] Vt:=
 d.cl (by trivial) λ_ _ F=>Jz F A7 rfl rfl λME A outer s H E hr=>
  (Zm (Zs (Rp (T5 "int" (by rfl) MM NZ (by rfl) (by rfl) (Zc 0)) (Gx (wo (T5 "bool" (by rfl) MM OM (by rfl) (by rfl) (Zc 0)))))))
noncomputable def Qd:List D->M S:=V3 3 0
  (Qq (Ro (Z1 Vt (Zb (Zd 0) Zk)) (Ro (Zp iV (Zd 1) (Zd 0)) (Zp iV (Zd 0) (Zd 2)))))
def S9:MA ["value","least","greatest"] ["value","least","greatest"] (Zg Vo):=⟨rfl,rfl,rfl,by decide +kernel,rfl,by decide +kernel,by decide +kernel⟩
def Ta (d:Dm K mg "is_from_to" Vo) (NP:Cl P w K mg base 1 "is_whole" ["value"] Vt):Cl P w K mg base 2 "is_from_to" ["value","least","greatest"] Qd:=
 d.cl (by trivial) λ_ _ F=>Jz F S9 rfl rfl λME A outer s H E hr=>
  (Zm (Zs (Rp (Zu NP hr.m (Za (Zc 0) Ze)) (Rp (Je mI (Zc 1) (Zc 0) (Z0 _)) (Gx (Je mI (Zc 0) (Zc 2) (Z0 _)))))))
noncomputable def Nu:List D->M S:=V3 5 0
  (Zw (Jt (tB (Zp Jx (Zd 2) ↑"up")) (Qq (Ro (Z1 Qd (Zb (Zd 3) (Zb ↑0 (Zb (Zd 0) Zk)))) (Z1 Qd (Zb (Zd 4) (Zb ↑0 (Zb (Zp Ko (Zd 1) ↑1) Zk)))))) Ys)
   (Zw (Jt (tB (Zp Jx (Zd 2) ↑"flat")) (Qq (Ro (Z1 Qd (Zb (Zd 3) (Zb ↑0 (Zb (Zp Ko (Zd 0) ↑1) Zk)))) (Z1 Qd (Zb (Zd 4) (Zb ↑0 (Zb (Zd 1) Zk)))))) Ys)
   (Qq (eC (.bl false)))))
def Eo:MA ["width","height","kind","x","y"] ["width","height","kind","x","y"] (Zg Nm):=⟨rfl,rfl,rfl,by decide +kernel,rfl,by decide +kernel,by decide +kernel⟩
def Ep (d:Dm K mg "is_edge" Nm) (MD:Cl P w K mg base 2 "is_from_to" ["value","least","greatest"] Qd):Cl P w K mg base 3 "is_edge" ["width","height","kind","x","y"] Nu:=
 d.cl (by trivial) λ_ _ F=>Jz F Eo rfl rfl λME A outer s H E hr=>
  (Zi (Qm (Zz (Yo hr.units) (Zc 2) Qb (Z0 _)) (Zm (Zs (Rp (Zu MD hr.m (Za (Zc 3) (Za Zj (Za (Zc 0) Ze)))) (Gx (Zu MD hr.m (Za (Zc 4) (Za Zj (Za (Zr X0 (Zc 1) Zj) Ze)))))))) Qc)
   (Zi (Qm (Zz (Yo hr.units) (Zc 2) Qb (Z0 _)) (Zm (Zs (Rp (Zu MD hr.m (Za (Zc 3) (Za Zj (Za (Zr X0 (Zc 0) Zj) Ze)))) (Gx (Zu MD hr.m (Za (Zc 4) (Za Zj (Za (Zc 1) Ze)))))))) Qc)
   (Zm (Zs U5))))
noncomputable def Q7:List D->M S:=V3 5 2
  (Zw (Z7 5 (C6 (tB (Zp Jx (Zd 2) ↑"up")) (Zd 3) (Zd 4)))
   (Zw (Z7 6 (C6 (tB (Zp Jx (Zd 2) ↑"up")) (Zd 0) (Zd 1)))
   (Zw (Jt (tB (Zp Jx (Zd 5) ↑0)) (Qq ↑3) Ys)
   (Zw (Jt (tB (Zp Jx (Zd 5) (Zd 6))) (Qq ↑4) Ys)
   (Qq (eC .non))))))
def sc_outward_face:MA ["width","height","kind","x","y","line","last"] ["width","height","kind","x","y"] (Zg Kl):=⟨rfl,rfl,rfl,by decide +kernel,rfl,by decide +kernel,by decide +kernel⟩
def Pr (d:Dm K mg "outward_face" Kl)  : Cl P w K mg base 1 "outward_face" ["width","height","kind","x","y"] Q7:=
 d.cl (by trivial) λ_ _ F=>Jz F sc_outward_face rfl rfl λME A outer s H E hr=>
  (Zi (Zq 5 sc_outward_face.nd (Kh (Zz (Yo hr.units) (Zc 2) Qb (Z0 _)) (Zc 3) (Zc 4)))
   (Zi (Zq 6 sc_outward_face.nd (Kh (Zz (Yo hr.units) (Zc 2) Qb (Z0 _)) (Zc 0) (Zc 1)))
   (Zi (Qm (Zz (Yo hr.units) (Zc 5) Zj (Z0 _)) (Zm (Zs Zj)) Qc)
   (Zi (Qm (Zz (Yo hr.units) (Zc 5) (Zc 6) (Z0 _)) (Zm (Zs Zj)) Qc)
   (Zm (Zs Y8))))))
noncomputable def Nv:List D->M S:=V3 3 1
  (Zw (Jt (tN (tB (Z1 Nu (Zb (Zd 0) (Zb (Zd 1) (Zb 2[0]! (Zb 2[1]! (Zb 2[2]! Zk)))))))) (Qq (eC (.bl false))) Ys)
   (Zw (Jt (tO (tB (YK (eG [V.str (Str.ofString "m"),V.str (Str.ofString "p")] true) 2[3]!)) (tB (YK (eG [V.str (Str.ofString "m"),V.str (Str.ofString "p")] true) 2[4]!))) (Qq (eC (.bl false))) Ys)
   (Zw (Z7 3 (Z1 Q7 (Zb (Zd 0) (Zb (Zd 1) (Zb 2[0]! (Zb 2[1]! (Zb 2[2]! Zk)))))))
   (Qq (YM (Zp cR (Zd 3) (eC .non)) (Zp Jx (Zp Tz (Zd 2) (Zd 3)) ↑"p"))))))
def sc_is_side:MA ["width","height","side","outward"] ["width","height","side"] (Zg Nn):=⟨rfl,rfl,rfl,by decide +kernel,rfl,by decide +kernel,by decide +kernel⟩
def Er (d:Dm K mg "is_side" Nn) (NX:Cl P w K mg base 3 "is_edge" ["width","height","kind","x","y"] Nu) (MH:Cl P w K mg base 1 "outward_face" ["width","height","kind","x","y"] Q7) {NK:Addr} (QR:mg "FACES"=some (.ref NK)) (QN:cQ K NK [V.str (Str.ofString "m"),V.str (Str.ofString "p")]=true):Cl P w K mg base 4 "is_side" ["width","height","side"] Nv:=
 d.cl (by trivial) λ_ _ F=>Jz F sc_is_side rfl rfl λME A outer s H E hr=>
  (Zi (Qm (Ks (Xe (Zu NX hr.m (Za (Zc 0) (Za (Zc 1) (Za (Zv (Zc 2)) (Za (Zv (Zc 2)) (Za (Zv (Zc 2)) Ze)))))))) (Zm (Zs U5)) Qc)
   (Zi (Qm ((Wb (R8 QR QN (Zv (Zc 2))) (Vh (R8 QR QN (Zv (Zc 2)))))).pt (Zm (Zs U5)) Qc)
   (Zi (Zq 3 sc_is_side.nd (Zu MH hr.m (Za (Zc 0) (Za (Zc 1) (Za (Zv (Zc 2)) (Za (Zv (Zc 2)) (Za (Zv (Zc 2)) Ze)))))))
   (Zm (Zs (mG (Je Dv (Zc 3) Y8 (Z0 _)) (Gx (Je (Yo hr.units) (Aa (Zc 2) (Zc 3) (λ_ _=>rfl)) Qb (Z0 _)))))))))
noncomputable def Uz:List D->M S:=V3 1 5
  (Zw (Z7 1 0[0]!)
   (Zw (Z7 2 0[1]!)
   (Zw (Jt (tO (tN (tB (Z1 Qd (Zb (Zd 1) (Zb ↑1 (Zb ↑8 Zk)))))) (tN (tB (Z1 Qd (Zb (Zd 2) (Zb ↑1 (Zb ↑8 Zk))))))) ia Ys)
   (Zw (nU 3)
   (Zw (Pm (nR (Zb 0[2]! Zk)) (U6 2 (Yn (Ut 4) (Yn (Ut 5) Wv))) (Zw (Jt (tO (tN (tB (Z1 Nv (Zb (Zd 1) (Zb (Zd 2) (Zb (Zd 5) Zk)))))) (tB (ic 3 (Ag (Zd 5) Ku (Jb ↑3))))) ia Ys)
   (QP 3 (Ag (Zd 5) Ku (Jb ↑3)) (eC (.bl true)))))
   (Qq (Qi (Zb (Zd 1) (Zb (Zd 2) (Zb (Kr Gw (Zb (Kr Eb (Zb 0[2]! Zk)) Zk)) Zk))))))))))
def sc_checked:MA ["hall","width","height","told","number","side"] ["hall"] (Zg No):=⟨rfl,rfl,rfl,by decide +kernel,rfl,by decide +kernel,by decide +kernel⟩
def Es (d:Dm K mg "checked" No) (MD:Cl P w K mg base 2 "is_from_to" ["value","least","greatest"] Qd) (NW:Cl P w K mg base 4 "is_side" ["width","height","side"] Nv) (MR:mg "enumerate"=none) (MQ:mg "sorted"=none) (MJ:mg "tuple"=none) {MO:Tok} (NF:mg "GREATEST_SIZE"=some (.int 8 MO)):Cl P w K mg base 5 "checked" ["hall"] Uz:=
 d.cl (by trivial) λ_ _ F=>Jz F sc_checked rfl rfl λME A outer s H E hr=>
  (Zi (Zq 1 sc_checked.nd (Zv (Zc 0)))
   (Zi (Zq 2 sc_checked.nd (Zv (Zc 0)))
   (Zi (Qm ((Wb (Ks (Xe (Zu MD hr.m (Za (Zc 1) (Za Zj (Za (Au NF) Ze)))))) (Vh (Ks (Xe (Zu MD hr.m (Za (Zc 2) (Za Zj (Za (Au NF) Ze))))))))).pt (Zm Fv) Qc)
   (Zi (Op 3 sc_checked.nd)
   (Zi (Kv CM rfl (Oz (by rfl) MR (Za (Zv (Zc 0)) Ze)) (Ww rfl (Yb (Qr 4 sc_checked.nd) (Yb (Qr 5 sc_checked.nd) V9))) (Zi (Qm ((Wb (Ks (Xe (Zu NW hr.m (Za (Zc 1) (Za (Zc 2) (Za (Zc 5) Ze)))))) (Vh (zM 3 hr.units (Xl (Zc 5) X4 (Y9 Zj)))))).pt (Zm Fv) Qc)
   (Zm (Zbx 3 hr.units (Xl (Zc 5) X4 (Y9 Zj)) U5))))
   (Zm (Zs (Z4 (Za (Zc 1) (Za (Zc 2) (Za (V8 Wr (by rfl) MJ (by rfl) (Za (Qx Zcf (by rfl) MQ (by rfl) (Za (Zv (Zc 0)) Ze)) Ze)) Ze)))))))))))
noncomputable def Q2:List D->M S:=V3 4 1
  (Zw (Pm (W0 0[2]!) (Ut 4) (Jt (tB (Zp Jx (Ag (Zd 4) Ku (Jb ↑3)) (Qi (Zb (Zd 1) (Zb (Zd 2) (Zb (Zd 3) Zk)))))) (Qq (Ag (Zd 4) (Jb ↑3) Ku)) Ys))
   (Zw (Jt (tB (Zp cR (Z1 Q7 (Zb 0[0]! (Zb 0[1]! (Zb (Zd 1) (Zb (Zd 2) (Zb (Zd 3) Zk)))))) (eC .non))) (Qq (eC .non)) Ys)
   (Qq (Qi (Zb ↑"p" (Zb ↑"p" Zk))))))
def sc_faces:MA ["hall","kind","x","y","side"] ["hall","kind","x","y"] (Zg My):=⟨rfl,rfl,rfl,by decide +kernel,rfl,by decide +kernel,by decide +kernel⟩
def Zc3 (d:Dm K mg "faces" My) (MH:Cl P w K mg base 1 "outward_face" ["width","height","kind","x","y"] Q7):Cl P w K mg base 2 "faces" ["hall","kind","x","y"] Q2:=
 d.cl (by trivial) λ_ _ F=>Jz F sc_faces rfl rfl λME A outer s H E hr=>
  (Zi (Kv CM rfl (Uu (Zv (Zc 0))) (Qr 4 sc_faces.nd) (Zm (Qm (Zz (Yo hr.units) (Xl (Zc 4) X4 (Y9 Zj)) (Z4 (Za (Zc 1) (Za (Zc 2) (Za (Zc 3) Ze)))) (Z0 _)) (Zm (Zs (Xl (Zc 4) (Y9 Zj) X4))) Qc)))
   (Zi (Qm (Zz Dv (Zu MH hr.m (Za (Zv (Zc 0)) (Za (Zv (Zc 0)) (Za (Zc 1) (Za (Zc 2) (Za (Zc 3) Ze)))))) Y8 (Z0 _)) (Zm (Zs Y8)) Qc)
   (Zm (Zs (Z4 (Za Qb (Za Qb Ze)))))))
noncomputable def K1:List D->M S:=V3 3 3
  (Zw (Z7 3 0[0]!)
   (Zw (Z7 4 0[1]!)
   (Zw (Jt (tO (tN (tB (Z1 Qd (Zb (Zd 1) (Zb ↑0 (Zb (Zd 3) Zk)))))) (tN (tB (Z1 Qd (Zb (Zd 2) (Zb ↑0 (Zb (Zd 4) Zk))))))) (Qq (eC (.bl false))) Ys)
   (Zw (Jt (tO (tB (Zp Fq (Zd 1) (Qi (Zb ↑0 (Zb (Zd 3) Zk))))) (tB (Zp Fq (Zd 2) (Qi (Zb ↑0 (Zb (Zd 4) Zk)))))) (Qq (eC (.bl true))) Ys)
   (Zw (Z7 5 (X1 (Zb (Qi (Zb ↑"up" (Zb (Zd 1) (Zb (Zp Ko (Zd 2) ↑1) Zk)))) (Zb (Qi (Zb ↑"up" (Zb (Zd 1) (Zb (Zd 2) Zk)))) (Zb (Qi (Zb ↑"flat" (Zb (Zp Ko (Zd 1) ↑1) (Zb (Zd 2) Zk)))) (Zb (Qi (Zb ↑"flat" (Zb (Zd 1) (Zb (Zd 2) Zk)))) Zk))))))
   (Qq (Kr eL (Zb (Dr (Rw (W0 0[2]!) 1 [5] (Ut 0) (Zp Fq (Ag (Zd 0) Ku (Jb ↑3)) (Zd 1)))) Zk))))))))
def sc_is_corner:MA ["hall","x","y","width","height","edges"] ["hall","x","y"] (Zg Xv):=⟨rfl,rfl,rfl,by decide +kernel,rfl,by decide +kernel,by decide +kernel⟩
def M3 (d:Dm K mg "is_corner" Xv) (MD:Cl P w K mg base 2 "is_from_to" ["value","least","greatest"] Qd) (QJ:mg "any"=none):Cl P w K mg base 3 "is_corner" ["hall","x","y"] K1:=
 d.cl (by trivial) λ_ _ F=>Jz F sc_is_corner rfl rfl λME A outer s H E hr=>
  (Zi (Zq 3 sc_is_corner.nd (Zv (Zc 0)))
   (Zi (Zq 4 sc_is_corner.nd (Zv (Zc 0)))
   (Zi (Qm ((Wb (Ks (Xe (Zu MD hr.m (Za (Zc 1) (Za Zj (Za (Zc 3) Ze)))))) (Vh (Ks (Xe (Zu MD hr.m (Za (Zc 2) (Za Zj (Za (Zc 4) Ze))))))))).pt (Zm (Zs U5)) Qc)
   (Zi (Qm ((Wb (Zz (Ai (by exact hr.units)) (Zc 1) (Z4 (Za Zj (Za (Zc 3) Ze))) (by with_unfolding_all rfl)) (Vh (Zz (Ai (by exact hr.units)) (Zc 2) (Z4 (Za Zj (Za (Zc 4) Ze))) (by with_unfolding_all rfl))))).pt (Zm (Zs U5)) Qc)
   (Zi (Zq 5 sc_is_corner.nd (Xt (Za (Z4 (Za Qb (Za (Zc 1) (Za (Zr X0 (Zc 2) Zj) Ze)))) (Za (Z4 (Za Qb (Za (Zc 1) (Za (Zc 2) Ze)))) (Za (Z4 (Za Qb (Za (Zr X0 (Zc 1) Zj) (Za (Zc 2) Ze)))) (Za (Z4 (Za Qb (Za (Zc 1) (Za (Zc 2) Ze)))) Ze))))))
   (Zm (Zs (Qx (wg rfl) (by rfl) QJ (by rfl) (Za (Ds (Rx (Nc:=["side","edges"]) rfl (Wf (λy hy hf=>Jm (Mn (sc:=Zg Xv) (by decide +kernel) y hy hf))) (ib (sc:=Zg Xv) rfl rfl (by decide +kernel) (Mn (by decide +kernel)) (λy hy hf=>Jm (Mn (sc:=Zg Xv) (by decide +kernel) y hy hf)) rfl (Mo (N:=["hall","x","y","width","height","edges"]) rfl (by decide +kernel))) rfl (by decide +kernel) (by decide +kernel) (Nb (by decide)) (Uu (Zv (Zc 0))) (λs3 H3 C ex=>Qr 0 (show(["side","edges"]:List Str).Nodup by decide +kernel)) (λs3 H3 C ex=>(Je (Ai (by exact hr.units)) (Xl (Zc 0) X4 (Y9 Zj)) (Zc 1) (by with_unfolding_all rfl))))) Ze)))))))))
noncomputable def Xh:List D->M S:=V3 2 3
  (Zw (k6 (Z1 Uz (Zb (Qi (Zb (Zd 0) (Zb (Zd 1) (Zb (Qi Zk) Zk)))) Zk)))
   (Zw (Du 2 (Dt Zk))
   (Zw (Pm (Vj (Zb (Zd 0) Zk)) (Ut 3) (Zw (Ua 2 (Qi (Zb ↑"flat" (Zb (Zd 3) (Zb ↑0 (Zb ↑"p" (Zb ↑"m" Zk)))))))
   (Ua 2 (Qi (Zb ↑"flat" (Zb (Zd 3) (Zb (Zd 1) (Zb ↑"m" (Zb ↑"p" Zk)))))))))
   (Zw (Pm (Vj (Zb (Zd 1) Zk)) (Ut 4) (Zw (Ua 2 (Qi (Zb ↑"up" (Zb ↑0 (Zb (Zd 4) (Zb ↑"p" (Zb ↑"m" Zk)))))))
   (Ua 2 (Qi (Zb ↑"up" (Zb (Zd 0) (Zb (Zd 4) (Zb ↑"m" (Zb ↑"p" Zk)))))))))
   (Ml 2 (Qq (Z1 Uz (Zb (Qi (Zb (Zd 0) (Zb (Zd 1) (Zb (Kr Gw (Zb (Zd 2) Zk)) Zk)))) Zk))))))))
def sc_box:MA ["width","height","sides","x","y"] ["width","height"] (Zg jF):=⟨rfl,rfl,rfl,by decide +kernel,rfl,by decide +kernel,by decide +kernel⟩
def vx (d:Dm K mg "box" jF) (NM:Cl P w K mg base 5 "checked" ["hall"] Uz) (MU:mg "range"=none) (MJ:mg "tuple"=none):Cl P w K mg base 6 "box" ["width","height"] Xh:=
 d.cl (by trivial) λ_ _ F=>Jz F sc_box rfl rfl λME A outer s H E hr=>
  (Zi (xA (Zu NM hr.m (Za (Z4 (Za (Zc 0) (Za (Zc 1) (Za (Z4 Ze) Ze)))) Ze)))
   (Zi (W2 2 sc_box.nd (W1 Ze))
   (Zi (Kv CM rfl (We (by rfl) MU (Za (Zc 0) Ze)) (Qr 3 sc_box.nd) (Zi (Kw 2 (Z4 (Za Qb (Za (Zc 3) (Za Zj (Za Qb (Za Qb Ze)))))))
   (Zm (Kw 2 (Z4 (Za Qb (Za (Zc 3) (Za (Zc 1) (Za Qb (Za Qb Ze))))))))))
   (Zi (Kv CM rfl (We (by rfl) MU (Za (Zc 1) Ze)) (Qr 4 sc_box.nd) (Zi (Kw 2 (Z4 (Za Qb (Za Zj (Za (Zc 4) (Za Qb (Za Qb Ze)))))))
   (Zm (Kw 2 (Z4 (Za Qb (Za (Zc 0) (Za (Zc 4) (Za Qb (Za Qb Ze))))))))))
   (W3 2 (Zm (Zs (Zu NM hr.m (Za (Z4 (Za (Zc 0) (Za (Zc 1) (Za (V8 Wr (by rfl) MJ (by rfl) (Za (Zc 2) Ze)) Ze)))) Ze)))))))))
noncomputable def Yv:List D->M S:=V3 1 0
  (Qq (Zp Q4 0[0]! 0[1]!))
def M4:MA ["place"] ["place"] (Zg Ue):=⟨rfl,rfl,rfl,by decide +kernel,rfl,by decide +kernel,by decide +kernel⟩
def M5 (d:Dm K mg "square_of" Ue)  : Cl P w K mg base 1 "square_of" ["place"] Yv:=
 d.cl (by trivial) λ_ _ F=>Jz F M4 rfl rfl λME A outer s H E hr=>
  (Zm (Zs (Zr Yd (Zv (Zc 0)) (Zv (Zc 0)))))
noncomputable def Y1:List D->M S:=V3 2 3
  (Zw (Z7 2 ↑1)
   (Zw (Pm (Ej (Zb (Zd 0) (Zb (Zd 1) Zk))) (U6 2 (Yn (Ut 3) (Yn (Ut 4) Wv))) (Z7 2 (Zp Zx (Zp Zx (Zd 2) 3[1]!) (Kr A4 (Zb ↑1 (Zb (Kr Kg (Zb 4[0]! Zk)) Zk))))))
   (Qq (Zd 2))))
def sc_whole_time_of:MA ["point","step","time","begin","part"] ["point","step"] (Zg Ju):=⟨rfl,rfl,rfl,by decide +kernel,rfl,by decide +kernel,by decide +kernel⟩
def Nw (d:Dm K mg "whole_time_of" Ju) (QG:mg "zip"=none) (ML:mg "abs"=none) (QI:mg "max"=none):Cl P w K mg base 1 "whole_time_of" ["point","step"] Y1:=
 d.cl (by trivial) λ_ _ F=>Jz F sc_whole_time_of rfl rfl λME A outer s H E hr=>
  (Zi (Zq 2 sc_whole_time_of.nd Zj)
   (Zi (Kv CM rfl (O5 (by rfl) QG (Za (Zc 0) (Za (Zc 1) Ze))) (Ww rfl (Yb (Qr 3 sc_whole_time_of.nd) (Yb (Qr 4 sc_whole_time_of.nd) V9))) (Zm (Zq 2 sc_whole_time_of.nd (Zr Z2 (Zr Z2 (Zc 2) (Zv (Zc 3))) (Qx (zL rfl) (by rfl) QI (by rfl) (Za Zj (Za (Qx Vg (by rfl) ML (by rfl) (Za (Zv (Zc 4)) Ze)) Ze)))))))
   (Zm (Zs (Zc 2)))))
noncomputable def Xn:List D->M S:=V3 3 0
  (Zw (Jt (tB (Zp Jx (Zd 0) ↑"corner")) (Qq ↑"corner") Ys)
   (Zw (Jt (tB (Zd 1)) (Qq ↑"end") Ys)
   (Zw (Jt (tB (Zp Jx (Zd 0) ↑"p")) (Qq ↑"plain") Ys)
   (Zw (Jt (tA (tB (Zp Jx (Zd 0) ↑"m")) (tN (tB (Zd 2)))) (Qq ↑"many") Ys)
   (Qq (eC .non))))))
def Sj:MA ["thing","is_over","may_turn"] ["thing","is_over","may_turn"] (Zg K7):=⟨rfl,rfl,rfl,by decide +kernel,rfl,by decide +kernel,by decide +kernel⟩
def Sk (d:Dm K mg "how_it_ends" K7)  : Cl P w K mg base 1 "how_it_ends" ["thing","is_over","may_turn"] Xn:=
 d.cl (by trivial) λ_ _ F=>Jz F Sj rfl rfl λME A outer s H E hr=>
  (Zi (Qm (Zz (Yo hr.units) (Zc 0) Qb (Z0 _)) (Zm (Zs Qb)) Qc)
   (Zi (Qm (Xe (Zc 1)) (Zm (Zs Qb)) Qc)
   (Zi (Qm (Zz (Yo hr.units) (Zc 0) Qb (Z0 _)) (Zm (Zs Qb)) Qc)
   (Zi (Qm ((Wt (Zz (Yo hr.units) (Zc 0) Qb (Z0 _)) (Ws (Ks (Xe (Zc 2)))))).pt (Zm (Zs Qb)) Qc)
   (Zm (Zs Y8))))))
end
section
variable {P:Program}{w:World}{K:PySem.W.Frag}{mg:Str->Option Value}{base:Heap}
def M6:MA ["self"] ["self"] (Zg Uj):=⟨rfl,rfl,rfl,by decide +kernel,rfl,by decide +kernel,by decide +kernel⟩
noncomputable def Uk:Qs->List D->Option Qs:=VY 0 0 (Kk (Nk "heading" (kz Dz (V1 "heading"))) (cP "due" (V1 "lap")))
def M7 {f:Addr}{fd:FuncData}{C:Addr} (F:Fun K "turn_back" "Track.turn_back" Uj f fd) (tc:TV K C):MC P w K mg base Yi 1 f fd ["self"] (Pp K C Uk):=
 eS F M6 rfl rfl λME A outer s H E hr=>(Xb (J3 tc.oc.cls tc.n3 (v9 D0 (Vn tc.oc.cls tc.n3))) (K0 (Mv tc.oc.cls tc.n4 (Vn tc.oc.cls tc.n5))))
def Zc4:MA ["self"] ["self"] (Zg M1):=⟨rfl,rfl,rfl,by decide +kernel,rfl,by decide +kernel,by decide +kernel⟩
noncomputable def M8:Qs->List D->Option Qs:=VY 0 0 (Kk (cP "square" (V1 "heading")) (cP "due" (V1 "lap")))
def Zc5 {f:Addr}{fd:FuncData}{C:Addr} (F:Fun K "go_on" "Track.go_on" M1 f fd) (tc:TV K C):MC P w K mg base Yi 1 f fd ["self"] (Pp K C M8):=
 eS F Zc4 rfl rfl λME A outer s H E hr=>(Xb (Mv tc.oc.cls tc.n2 (Vn tc.oc.cls tc.n3)) (K0 (Mv tc.oc.cls tc.n4 (Vn tc.oc.cls tc.n5))))
def M9:MA ["track","now","thing"] ["track","now","thing"] (Zg Uf):=⟨rfl,rfl,rfl,by decide +kernel,rfl,by decide +kernel,by decide +kernel⟩
noncomputable def F_pass_line:Qs->List D->Option Qs:=VY 2 0 (VZ (gB (C7 Jx (V1 "due") (J2 (Zd 1)))) (VZ (λsd _=>DL.tB (Zp Jx (Zd 2) ↑"m") sd) (F4 "turn_back" Uk) (F4 "go_on" M8)) ig)
def Ba {f:Addr}{fd:FuncData}{C f1 f2:Addr}{NO OL:FuncData} (F:Fun K "pass_line" "pass_line" Uf f fd) (tc:TV K C) (m1:NI K C "turn_back" f1) (G1:MC P w K mg base Yi 1 f1 NO ["self"] (Pp K C Uk)) (b1:Binds K NO ["self"] []) (m2:NI K C "go_on" f2) (G2:MC P w K mg base Yi 1 f2 OL ["self"] (Pp K C M8)) (b2:Binds K OL ["self"] []):
  MC P w K mg base Yi 2 f fd ["track","now","thing"] (Pp K C F_pass_line):=
 eS F M9 rfl rfl λME A outer s H E hr=>(K0 (Eg (F5 (Yo hr.units) (Vn tc.oc.cls tc.n4) (Y4 (Zc 1)) (Z0 _)) (K0 (Eg (F6 (Zz (Yo hr.units) (Zc 2) Qb (Z0 _))) (K0 (A2 tc.oc.cls m1 G1 hr.m b1)) (K0 (A2 tc.oc.cls m2 G2 hr.m b2)))) F7))
def sc_Track_init:MA ["self","begin","part","whole_time","behind","left"] ["self","begin","part","whole_time"] (Zg Vr):=⟨rfl,rfl,rfl,by decide +kernel,rfl,by decide +kernel,by decide +kernel⟩
noncomputable def X7:Qs->List D->Option Qs:=VY 3 2
 (Kk (Nk "begin" (J2 (Zd 1)))
 (Kk (Nk "square" (J2 (Z1 Yv (Zb (Zd 1) Zk))))
 (Kk (Nk "heading" (J2 ↑0))
 (Kk (Nk "due" (J2 (Zp Q0 (Zd 3) ↑1)))
 (Kk (Nk "lap" (J2 ↑0))
 (VZ (λsd _=>DL.tB (Zp Rr 2[0]! ↑0) sd)
  (Kk (Nk "heading" (J2 (C6 (DL.tB (Zp S5 2[0]! ↑0)) ↑1 (YK Dz ↑1))))
  (Kk (Nk "lap" (J2 (Zp Zx 2[1]! (Zp Q4 (Zd 3) (Kr Kg (Zb 2[0]! Zk))))))
  (Kk (O3 4 (J2 (Zp Yk 1[0]! 1[1]!)))
  (Kk (O3 5 (eU (gB (C7 S5 (V1 "heading") (J2 ↑0))) (J2 (Zp Ko 1[1]! (Zd 4))) (J2 (Zd 4))))
   (Nk "due" (C7 Zx (J2 (Zd 5)) (C7 Q4 (V1 "lap") (J2 1[1]!)))))))) ig))))))
def Tb {f:Addr}{fd:FuncData}{C:Addr} (F:Fun K "__init__" "Track.__init__" Vr f fd) (tc:TV K C) {f1:Addr}{NO:FuncData} (G1:MC P w K mg base Yi 1 f1 NO ["place"] (Bw K Yv)) (b1:Binds K NO ["place"] []) (k1:PySem.W.keepIn K (.ref f1)=true) (m1:mg "square_of"=some (.ref f1)) (ML:mg "abs"=none):
  MC P w K mg base Yi 2 f fd ["self","begin","part","whole_time"] (Pp K C X7):=
 eS F sc_Track_init rfl rfl λME A outer s H E hr=>
  (Xb (J3 tc.oc.cls tc.n1 (Y4 (Zc 1)))
  (Xb (J3 tc.oc.cls tc.n2 (Y4 (Xp G1 hr.m m1 k1 b1 (Za (Zc 1) Ze))))
  (Xb (J3 tc.oc.cls tc.n3 (Y4 Zj))
  (Xb (J3 tc.oc.cls tc.n4 (Y4 (Zr Xf (Zc 3) Zj)))
  (Xb (J3 tc.oc.cls tc.n5 (Y4 Zj))
  (K0 (Eg (F6 (Zz (Rs hr.units) (Zv (Zc 2)) Zj (Z0 _)))
   (Xb (J3 tc.oc.cls tc.n3 (Y4 (Kh (Zz Ty (Zv (Zc 2)) Zj (Z0 _)) Zj (mE D0 Zj))))
   (Xb (J3 tc.oc.cls tc.n5 (Y4 (Zr Z2 (Zv (Zc 2)) (Zr Yd (Zc 3) (Qx Vg (by rfl) ML (by rfl) (Za (Zv (Zc 2)) Ze))))))
   (Xb (F8 4 sc_Track_init.nd (Y4 (Zr Xk (Zv (Zc 1)) (Zv (Zc 1)))))
   (Xb (F8 5 sc_Track_init.nd (v5 (F5 Ty (Vn tc.oc.cls tc.n3) (Y4 Zj) (Z0 _)) (Y4 (Zr X0 (Zv (Zc 1)) (Zc 4))) (Y4 (Zc 4))))
   (K0 (J3 tc.oc.cls tc.n4 (nM Z2 (Y4 (Zc 5)) (nM Yd (Vn tc.oc.cls tc.n5) (Y4 (Zv (Zc 1))))))))))) F7)))))))
def Tc:MA ["self"] ["self"] (Zg Vs):=⟨rfl,rfl,rfl,by decide +kernel,rfl,by decide +kernel,by decide +kernel⟩
noncomputable def Qk:List S->M S:=F3 1 0 (Qq (C6 (DL.tB (Zp S5 (Qy 0 "Track" "heading") ↑0)) (Zp Q0 (Qy 0 "Track" "square") ↑1) (Qy 0 "Track" "square")))
def Td {f:Addr}{fd:FuncData}{C:Addr} (F:Fun K "line_ahead" "Track.line_ahead" Vs f fd) (tc:TV K C):MC P w K mg base Yi 1 f fd ["self"] (Pf K Qk):=
 Ec F Tc rfl rfl λME A outer s H E hr=>
  (Zm (Zs (Kh (Zz Ty (Qn 0 tc.oc tc.n3) Zj (Z0 _)) (Zr Xf (Qn 0 tc.oc tc.n2) Zj) (Qn 0 tc.oc tc.n2))))
end
section
variable {P:Program}{w:World}{K:PySem.W.Frag}{mg:Str->Option Value}{base:Heap}
def A9:MA ["self","time"] ["self","time"] (Zg Wm):=⟨rfl,rfl,rfl,by decide +kernel,rfl,by decide +kernel,by decide +kernel⟩
noncomputable def Q8:List S->M S:=F3 2 0
 (Zw (Jt (DL.tB (Zp Jx (Qy 0 "Track" "heading") ↑0)) (Qq (Qy 0 "Track" "begin")) Ys)
  (Qq (Z1 Vc (Zb (Zp Ko (Zp Zx (Xa 0 "Track" "line_ahead" Qk Zk) (Qy 0 "Track" "lap")) (Zp Zx (Qy 0 "Track" "heading") (Zp Ko (Qy 0 "Track" "due") (Zd 1)))) (Zb (Qy 0 "Track" "lap") Zk)))))
def Ca {f:Addr}{fd:FuncData}{C:Addr} (F:Fun K "place_at" "Track.place_at" Wm f fd) (tc:TV K C) {f1 f2:Addr}{NO OL:FuncData}
  (m1:NI K C "line_ahead" f1) (G1:MC P w K mg base Yi 1 f1 NO ["self"] (Pf K Qk)) (b1:Binds K NO ["self"] [])
  (G2:MC P w K mg base Yi 2 f2 OL ["top","bottom"] (Bw K Vc)) (b2:Binds K OL ["top","bottom"] []) (k2:PySem.W.keepIn K (.ref f2)=true) (m2:mg "amount"=some (.ref f2)):MC P w K mg base Yi 3 f fd ["self","time"] (Pf K Q8):=
 Ec F A9 rfl rfl λME A outer s H E hr=>
  (Zi (Qm (Zz (Yo hr.units) (Qn 0 tc.oc tc.n3) Zj (Z0 _)) (Zm (Zs (Qn 0 tc.oc tc.n1))) Qc)
   (Zm (Zs (Xp G2 hr.m m2 k2 b2 (Za (Zr X0 (Zr Z2 (Kd 0 tc.oc m1 G1 hr.m b1) (Qn 0 tc.oc tc.n5)) (Zr Z2 (Qn 0 tc.oc tc.n3) (Zr X0 (Qn 0 tc.oc tc.n4) (Zc 1)))) (Za (Qn 0 tc.oc tc.n5) Ze))))))
def sc_time_at:MA ["self","place","left"] ["self","place"] (Zg Nr):=⟨rfl,rfl,rfl,by decide +kernel,rfl,by decide +kernel,by decide +kernel⟩
noncomputable def Ke:List S->M S:=F3 2 1
 (Zw (Z7 2 (Zp Zx (Qy 0 "Track" "heading") (Zp Ko (Zp Zx (Xa 0 "Track" "line_ahead" Qk Zk) 1[1]!) 1[0]!)))
  (Qq (Z1 Vc (Zb (Zp Ko (Zp Zx (Qy 0 "Track" "due") 1[1]!) (Zp Zx (Zd 2) (Qy 0 "Track" "lap"))) (Zb 1[1]! Zk)))))
def Et {f:Addr}{fd:FuncData}{C:Addr} (F:Fun K "time_at" "Track.time_at" Nr f fd) (tc:TV K C) {f1 f2:Addr}{NO OL:FuncData}
  (m1:NI K C "line_ahead" f1) (G1:MC P w K mg base Yi 1 f1 NO ["self"] (Pf K Qk)) (b1:Binds K NO ["self"] [])
  (G2:MC P w K mg base Yi 2 f2 OL ["top","bottom"] (Bw K Vc)) (b2:Binds K OL ["top","bottom"] []) (k2:PySem.W.keepIn K (.ref f2)=true) (m2:mg "amount"=some (.ref f2)):MC P w K mg base Yi 3 f fd ["self","place"] (Pf K Ke):=
 Ec F sc_time_at rfl rfl λME A outer s H E hr=>
  (Zi (Zq 2 sc_time_at.nd (Zr Z2 (Qn 0 tc.oc tc.n3) (Zr X0 (Zr Z2 (Kd 0 tc.oc m1 G1 hr.m b1) (Zv (Zc 1))) (Zv (Zc 1)))))
   (Zm (Zs (Xp G2 hr.m m2 k2 b2 (Za (Zr X0 (Zr Z2 (Qn 0 tc.oc tc.n4) (Zv (Zc 1))) (Zr Z2 (Zc 2) (Qn 0 tc.oc tc.n5))) (Za (Zv (Zc 1)) Ze))))))
def Te:MA ["track","pair"] ["track","pair"] (Zg Vp):=⟨rfl,rfl,rfl,by decide +kernel,rfl,by decide +kernel,by decide +kernel⟩
noncomputable def F_face_ahead:List S->M S:=F3 2 0
 (Zw (Jt (DL.tB (Zp cR (Zd 1) (eC .non))) (Qq (eC .non)) Ys)
  (Qq (C6 (DL.tB (Zp S5 (Qy 0 "Track" "heading") ↑0)) 1[0]! 1[1]!)))
def Tf {f:Addr}{fd:FuncData}{C:Addr} (F:Fun K "face_ahead" "face_ahead" Vp f fd) (tc:TV K C):MC P w K mg base Yi 1 f fd ["track","pair"] (Pf K F_face_ahead):=
 Ec F Te rfl rfl λME A outer s H E hr=>
  (Zi (Qm (Zz Dv (Zc 1) Y8 (Z0 _)) (Zm (Zs Y8)) Qc)
   (Zm (Zs (Kh (Zz Ty (Qn 0 tc.oc tc.n3) Zj (Z0 _)) (Zv (Zc 1)) (Zv (Zc 1))))))
def sc_time_to:MA ["across","upward","person","times","track","place"] ["across","upward","person"] (Zg Np):=⟨rfl,rfl,rfl,by decide +kernel,rfl,by decide +kernel,by decide +kernel⟩
noncomputable def F_time_to:List S->M S:=F3 3 3
 (Zw (Du 3 (Dt Zk))
 (Zw (W9 4 5 0 1 2[0]! 2[1]!
  (Jt (DL.tB (Zp Rr (Qy 4 "Track" "heading") ↑0)) (Ua 3 (Xa 4 "Track" "time_at" Ke (Zb (Zd 5) Zk)))
   (Jt (DL.tB (Zp Rr (Zd 5) (Qy 4 "Track" "begin"))) (Qq (eC .non)) Ys)))
 (Ml 3 (Qq (C6 (DL.tB (Zp Jx 3[0]! (Zp Tz (Zd 3) (YK Dz ↑1)))) 3[0]! (eC .non))))))
def Eu {f:Addr}{fd:FuncData}{C:Addr} (F:Fun K "time_to" "time_to" Np f fd) (tc:TV K C) {f1:Addr}{NO:FuncData}
  (m1:NI K C "time_at" f1) (G1:MC P w K mg base Yi 3 f1 NO ["self","place"] (Pf K Ke)) (b1:Binds K NO ["self","place"] []):MC P w K mg base Yi 4 f fd ["across","upward","person"] (Pf K F_time_to):=
 Ec F sc_time_to rfl rfl λME A outer s H E hr=>
  (Zi (W2 3 sc_time_to.nd (W1 Ze))
  (Zi (Zcj 4 5 0 1 CM rfl sc_time_to.nd (Zv (Zc 2)) (Zv (Zc 2))
   (Zm (Qm (Zz (Rs hr.units) (Qn 4 tc.oc tc.n3) Zj (Z0 _)) (Zm (Kw 3 (Uc 4 tc.oc m1 G1 hr.m b1 (Za (Zc 5) Ze))))
    (Zm (Qm (Zz (Rs hr.units) (Zc 5) (Qn 4 tc.oc tc.n1) (Z0 _)) (Zm (Zs Y8)) Qc)))))
  (W3 3 (Zm (Zs (Kh (Zz (Yo hr.units) (Zv (Zc 3)) (Aa (Zc 3) (mE D0 Zj) (λ_ _=>rfl)) (Z0 _)) (Zv (Zc 3)) Y8))))))
def Bb:MA ["self","square"] ["self","square"] (Zg Ui):=⟨rfl,rfl,rfl,by decide +kernel,rfl,by decide +kernel,by decide +kernel⟩
noncomputable def Xw:List S->M S:=F3 2 0 (Qq (Ed 0 (Zd 1) (Qi Zk)))
def Bc {f:Addr}{fd:FuncData}{C:Addr} (F:Fun K "people_at" "Floor.people_at" Ui f fd) (oc:RW K "Floor" C) (na:NoAttr K C "by_square"):MC P w K mg base Yi 1 f fd ["self","square"] (Pf K Xw):=
 Ec F Bb rfl rfl λME A outer s H E hr=>
  (Zm (Zs (Zck 0 hr.units oc na (Zc 1) (Z4 Ze))))
def sc_person_ahead:MA ["floor","across","upward","whole_time","first","soonest","person","time"] ["floor","across","upward","whole_time"] (Zg Km):=⟨rfl,rfl,rfl,by decide +kernel,rfl,by decide +kernel,by decide +kernel⟩
noncomputable def F_person_ahead:List S->M S:=F3 4 4
 (Zw (Z7 4 (eC .non))
 (Zw (Z7 5 (Qi (Zb (Zd 3) (Zb ↑1 Zk))))
 (Zw (Pm (W0 (Sb 0 Xw (Zb (Qi (Zb (Qy 1 "Track" "square") (Zb (Qy 2 "Track" "square") Zk))) Zk))) (Ut 6)
  (Zw (Z7 7 (Sa F_time_to (Ub 1 (Ub 2 (Az (Zd 6) Ay)))))
   (Jt (tA (DL.tB (Zp Jj (Zd 7) (eC .non))) (tA (DL.tB (Z1 Kb (Zb (Qi (Zb ↑0 (Zb ↑1 Zk))) (Zb (Zd 7) Zk)))) (DL.tB (Z1 Kb (Zb (Zd 7) (Zb (Zd 5) Zk))))))
    (Zw (Z7 4 (Zd 6)) (Z7 5 (Zd 7))) Ys)))
 (Qq (Zd 4)))))
def Ps {f:Addr}{fd:FuncData}{C CF:Addr} (F:Fun K "person_ahead" "person_ahead" Km f fd) (tc:TV K C) (oc:RW K "Floor" CF) {f1 f2 f3:Addr}{NO OL YD:FuncData}
  (m1:NI K CF "people_at" f1) (G1:MC P w K mg base Yi 1 f1 NO ["self","square"] (Pf K Xw)) (b1:Binds K NO ["self","square"] [])
  (G2:MC P w K mg base Yi 4 f2 OL ["across","upward","person"] (Pf K F_time_to)) (b2:Binds K OL ["across","upward","person"] []) (k2:PySem.W.keepIn K (.ref f2)=true) (m2:mg "time_to"=some (.ref f2))
  (G3:MC P w K mg base Yi 1 f3 YD ["one","other"] (Bw K Kb)) (b3:Binds K YD ["one","other"] []) (k3:PySem.W.keepIn K (.ref f3)=true) (m3:mg "below"=some (.ref f3)):
  MC P w K mg base Yi 5 f fd ["floor","across","upward","whole_time"] (Pf K F_person_ahead):=
 Ec F sc_person_ahead rfl rfl λME A outer s H E hr=>
  (Zi (Zq 4 sc_person_ahead.nd Y8)
  (Zi (Zq 5 sc_person_ahead.nd (Z4 (Za (Zc 3) (Za Zj Ze))))
  (Zi (Kv CM rfl (Uu (Zcl 0 oc m1 G1 hr.m b1 (Za (Z4 (Za (Qn 1 tc.oc tc.n2) (Za (Qn 2 tc.oc tc.n2) Ze))) Ze))) (Qr 6 sc_person_ahead.nd)
   (Zi (Zq 7 sc_person_ahead.nd (A0 G2 hr.m m2 k2 b2 (Ky 1 (Ky 2 (Ms (Zc 6) Mr)))))
    (Zm (Qm ((Wt (Zz Uv (Zc 7) Y8 (Z0 _)) (Wt (Xe (Xp G3 hr.m m3 k3 b3 (Za (Z4 (Za Zj (Za Zj Ze))) (Za (Zc 7) Ze)))) (Ws (Xe (Xp G3 hr.m m3 k3 b3 (Za (Zc 7) (Za (Zc 5) Ze)))))))).pt
     (Zi (Zq 4 sc_person_ahead.nd (Zc 6)) (Zm (Zq 5 sc_person_ahead.nd (Zc 7)))) Qc))))
  (Zm (Zs (Zc 4))))))
end
section
variable {P:Program}{w:World}{K:PySem.W.Frag}{mg:Str->Option Value}{base:Heap}
def eD {n c:Nat}(h:n+64<c):n+1<c:=by omega
def Cb:MA ["self","edge"] ["self","edge"] (Zg Vq):=⟨rfl,rfl,rfl,by decide +kernel,rfl,by decide +kernel,by decide +kernel⟩
def Cc {f:Addr}{fd:FuncData}{C:Addr} (F:Fun K "faces_at" "Floor.faces_at" Vq f fd) (oc:RW K "Floor" C) (XZ:NoAttr K C "hall") (Im:NoAttr K C "known_faces") {f1:Addr}{NO:FuncData}
  (G1:MC P w K mg base Yi 2 f1 NO ["hall","kind","x","y"] (Bw K Q2)) (b1:Binds K NO ["hall","kind","x","y"] []) (k1:PySem.W.keepIn K (.ref f1)=true) (m1:mg "faces"=some (.ref f1)):
  MC P w K mg base Yi 3 f fd ["self","edge"] (iZ K Q2):=by
 refine F.ok Cb (λvs H Q E h=>?_) (λME A outer s H vs Q E hr h=>?_)
 .obtain⟨Hf,a,g,q,k,n,ds,ks,d,v,rfl,_⟩:=h
  rfl
 .obtain⟨Hf,a,g,q,k,n,ds,ks,d,v,rfl,e,fl,hk,ca,hn,rv,ek,el,ed,q'⟩:=h
  obtain⟨tF,pF,qF⟩:Yt (Jl Yi P w K mg base ["self","edge"] "Floor.faces_at" (Zg Vq) f ME A outer s H E).nox E0 _ _:=Xp G1 hr.m m1 k1 b1 (Za (Le 0 oc XZ) (Za (Zv (Zc 1)) (Za (Zv (Zc 1)) (Za (Zv (Zc 1)) Ze))))
  refine⟨_,Qp (E9 (n9 (Oe (eD hr.units) (Z6 (i:=1) rfl (.inl rfl) (by decide) (by decide)) (V6 (Z6 (i:=0) rfl (.inl rfl) (by decide) (by decide)) rfl)) (by rfl)) (Xo (Fk (eD hr.units) (V6 (Z6 (i:=0) rfl (.inl rfl) (by decide) (by decide)) rfl) (Z6 (i:=1) rfl (.inl rfl) (by decide) (by decide)) pF rfl)) Pt) (Xo (Gp (zj (eD hr.units) (V6 (Z6 (i:=0) rfl (.inl rfl) (by decide) (by decide)) rfl) (Z6 (i:=1) rfl (.inl rfl) (by decide) (by decide)) (λ_ _=>rfl)))),?_⟩
  obtain⟨C',dx,gs,dq,ys,c1,c2,c3,c4,c5⟩:=id fl
  rw[oc.at_] at c1
  cases c1
  obtain⟨cc,zs,h1,h2,h3,h4⟩:=ca
  obtain⟨b,rfl,hb⟩:=Nd ek e rv
  match ds,el with
  |[d0,d1,d2],_=>
  refine⟨_,rfl,_,rfl,a,C,dx,gs,.ref k,rfl,e _ _ c2,oc.cls,Im,c3.kn,k,_,rfl,DGet.t h1 hb,_,rfl,?_⟩
  cases eg:Yu cc ks with
  |some d'=>
   obtain⟨v',ev,aH⟩:=h2.get ks eg
   have:=h4 _ _ _ ek eg
   rw[ed] at this
   cases this
   rw[ev]
   rw[AD (by simp)]
   refine⟨_,rfl,a,C,dx,gs,.ref k,rfl,e _ _ c2,oc.cls,Im,c3.kn,_,rfl,k,v',rfl,by rw[<-ev];exact DGet.t h1 hb,?_⟩
   exact q' v' Hf H (GrM.refl e) ⟨cc,zs,h1,h2,by lia,h4⟩ aH
  |none=>
   rw[h2.none ks eg,AC (by rfl)]
   have sr:=Ux (K:=K) (N:=["self","edge"]) (ss:=[.fl a g q,.im (.tup [d0,d1,d2])]) (vs:=[.ref a,.ref b]) (m:=0) e (.cons ⟨rfl,fl.fl⟩ (.cons ⟨rfl,rv⟩ .nil)) rfl
   refine qF H _ Hf _ _ H _ sr ?_
   have ef:(Z1 Q2 (Zb (Px 0) (Zb 1[0]! (Zb 1[1]! (Zb 1[2]! Zk))))) [some (.fl a g q),some (.im (.tup [d0,d1,d2]))]=.ok d:=by
    show(match Q2 [g,d0,d1,d2] with | .ok s=>s.toD|_=>M.bad)=.ok d
    exact vz ed
   rw[show([DL.S.fl a g q,DL.S.im (.tup [d0,d1,d2])].map some++List.replicate 0 none)=[some (.fl a g q),some (.im (.tup [d0,d1,d2]))] from rfl,ef]
   intro v1 MB H1 g1 rv1
   have qH:H1 k=some (.dT zs):=g1.all _ _ h1
   have hz:zs.length<sizeLine:=by lia
   refine⟨_,rfl,a,C,dx,gs,.ref k,rfl,g1.all _ _ (e _ _ c2),oc.cls,Im,c3.kn,_,rfl,k,_,rfl,DPut.t qH (g1.all _ _ hb) hz,?_⟩
   have gV:MB k=none:=g1.ban k ⟨_,h1,λ_ q=>by cases q⟩ hk
   have pC:a≠k:=λz=>by rw[z,hk] at c2;cases c2
   have pB:b≠k:=λz=>by rw[z,h1] at hb;cases hb
   refine⟨_,rfl,a,C,dx,gs,.ref k,rfl,(Zl pC).trans (g1.all _ _ (e _ _ c2)),oc.cls,Im,c3.kn,_,rfl,k,v1,rfl,?_,?_⟩
   .have:=DGet.t (H:=upd H1 k (.dT (Ja zs ks v1))) (a:=k) (k:=ks) Zo ((Zl pB).trans (g1.all _ _ hb))
    rw[L2.Za9,AC rfl] at this
    exact this
   .refine q' v1 MB _ ⟨g1.fz,λx u hx=>?_,λx u hx hu=>(Zl hx).trans (g1.all _ _ hu),g1.ban⟩ ⟨Aj cc ks d,_,Zo,(h2.mono g1.fz).put ks rv1,?_,λiF WJ d' e1 e2=>?_⟩ rv1
    .rw[Zl (Zt hx gV)];exact g1.sub _ _ hx
    .have:=Kq zs ks v1
     lia
    .rw[Zcr eg] at e2
     split at e2
     .rename_i ee
      subst ee
      cases e2
      rw[Ld e1 ek]
      exact ed
     .exact h4 _ _ _ e1 e2
end
section
variable {P:Program}{w:World}{K:PySem.W.Frag}{mg:Str->Option Value}{base:Heap}
def Cd:MA ["floor","across","upward","now"] ["floor","across","upward","now"] (Zg Wk):=⟨rfl,rfl,rfl,by decide +kernel,rfl,by decide +kernel,by decide +kernel⟩
noncomputable def F_thing_at:List S->M D:=cI 4
 (YJ (tA (DL.tB (Zp Jx (Qy 1 "Track" "due") (Zd 3))) (DL.tB (Zp Jx (Qy 2 "Track" "due") (Zd 3))))
  (C6 (DL.tB (Z1 K1 (Zb (Px 0) (Zb (Xa 1 "Track" "line_ahead" Qk Zk) (Zb (Xa 2 "Track" "line_ahead" Qk Zk) Zk))))) ↑"corner" (eC .non))
 (YJ (DL.tB (Zp Jx (Qy 1 "Track" "due") (Zd 3)))
  (Uy Q2 F_face_ahead 1 (Qi (Zb ↑"up" (Zb (Xa 1 "Track" "line_ahead" Qk Zk) (Zb (Qy 2 "Track" "square") Zk)))))
 (YJ (DL.tB (Zp Jx (Qy 2 "Track" "due") (Zd 3)))
  (Uy Q2 F_face_ahead 2 (Qi (Zb ↑"flat" (Zb (Qy 1 "Track" "square") (Zb (Xa 2 "Track" "line_ahead" Qk Zk) Zk)))))
 (eC .non))))
def Ce {f:Addr}{fd:FuncData}{C CF:Addr} (F:Fun K "thing_at" "thing_at" Wk f fd) (tc:TV K C) (oc:RW K "Floor" CF) (XZ:NoAttr K CF "hall") {f1 f2 f3 f4:Addr}{NO OL YD bz:FuncData}
  (m1:NI K C "line_ahead" f1) (G1:MC P w K mg base Yi 1 f1 NO ["self"] (Pf K Qk)) (b1:Binds K NO ["self"] [])
  (G2:MC P w K mg base Yi 3 f2 OL ["hall","x","y"] (Bw K K1)) (b2:Binds K OL ["hall","x","y"] []) (k2:PySem.W.keepIn K (.ref f2)=true) (m2:mg "is_corner"=some (.ref f2))
  (m3:NI K CF "faces_at" f3) (G3:MC P w K mg base Yi 3 f3 YD ["self","edge"] (iZ K Q2)) (b3:Binds K YD ["self","edge"] [])
  (G4:MC P w K mg base Yi 1 f4 bz ["track","pair"] (Pf K F_face_ahead)) (b4:Binds K bz ["track","pair"] []) (k4:PySem.W.keepIn K (.ref f4)=true) (m4:mg "face_ahead"=some (.ref f4)):
  MC P w K mg base Yi 4 f fd ["floor","across","upward","now"] (eO K Q2 F_thing_at):=
 tQ F Cd rfl λME A outer s H E hr=>
  (Eh ((Wt (Zz (Yo hr.units) (Qn 1 tc.oc tc.n4) (Zc 3) (Z0 _)) (Ws (Zz (Yo hr.units) (Qn 2 tc.oc tc.n4) (Zc 3) (Z0 _))))).pt
   (Ha (Kh (Xe (Xp G2 hr.m m2 k2 b2 (Za (Le 0 oc XZ) (Za (Kd 1 tc.oc m1 G1 hr.m b1) (Za (Kd 2 tc.oc m1 G1 hr.m b1) Ze))))) Qb Y8))
  (Eh (Zz (Yo hr.units) (Qn 1 tc.oc tc.n4) (Zc 3) (Z0 _))
   (A5 1 oc m3 G3 hr.m b3 G4 hr.m m4 k4 b4 (Z4 (Za Qb (Za (Kd 1 tc.oc m1 G1 hr.m b1) (Za (Qn 2 tc.oc tc.n2) Ze)))))
  (Eh (Zz (Yo hr.units) (Qn 2 tc.oc tc.n4) (Zc 3) (Z0 _))
   (A5 2 oc m3 G3 hr.m b3 G4 hr.m m4 k4 b4 (Z4 (Za Qb (Za (Qn 1 tc.oc tc.n2) (Za (Kd 2 tc.oc m1 G1 hr.m b1) Ze)))))
  (Ha Y8))))
end
abbrev ZZ:=List (List Q9×D)
def Nz (a a1 a2:Addr)(g:D)(q:ZZ)(pt st mo wt:D)(r1 r2:Qs)(tn:List D)(t8 t9 t10 t11:Option S):Zf:=
 [some (.fl a g q),some (.im pt),some (.im st),some (.im mo),some (.im wt),some (.ob a1 "Track" r1),some (.ob a2 "Track" r2),some (.ow tn),t8,t9,t10,t11]
noncomputable def Ev:Zf->M D:=Sa F_person_ahead (Ub 0 (Ub 5 (Ub 6 (Az (Zd 4) Ay))))
noncomputable def iY:Zf->M D:=Kr jB (Zb (Qy 5 "Track" "due") (Zb (Qy 6 "Track" "due") (Zb (Zd 4) Zk)))
noncomputable def Hc:Zf->M D:=Fu 7 (Z1 Xn (Zb (Zd 10) (Zb (Zp Jx (Zd 9) (Zd 4)) (Zb (Zp XR (Kr Oi (Zb (Zd 7) Zk)) (Zd 3)) Zk))))
noncomputable def K2:Zf->M D:=Qi (Zb (Xa 5 "Track" "place_at" Q8 (Zb (Zd 9) Zk)) (Zb (Xa 6 "Track" "place_at" Q8 (Zb (Zd 9) Zk)) Zk))
noncomputable def d9:Zf->M Bool:=DL.tB (Zp Jx (Zd 10) ↑"m")
noncomputable def Sl (a a1 a2:Addr)(g:D)(q:ZZ)(pt st mo wt:D):Nat->Qs->Qs->List D->M D
 |0,_,_,_=>.bad
 |n+1,r1,r2,tn=>
  (Ev (Nz a a1 a2 g q pt st mo wt r1 r2 tn none none none none)).bind λp=>if p.isN=true then
   (iY (Nz a a1 a2 g q pt st mo wt r1 r2 tn none none none none)).bind λnow=>
   (F_thing_at [.fl a g q,.ob a1 "Track" r1,.ob a2 "Track" r2,.im now]).bind λth=>
   (Hc (Nz a a1 a2 g q pt st mo wt r1 r2 tn none (some (.im now)) (some (.im th)) none)).bind λwd=>if wd.isN=true then
    (d9 (Nz a a1 a2 g q pt st mo wt r1 r2 tn none none (some (.im th)) none)).bind λb=>
    (if b=true then(K2 (Nz a a1 a2 g q pt st mo wt r1 r2 tn none (some (.im now)) none none)).bind λpl=>if few tn=true then .ok (tn++[pl]) else .bad else .ok tn).bind λtn'=>
    (match F_pass_line r1 [now,th],F_pass_line r2 [now,th] with
    |some cx,some fQ=>Sl a a1 a2 g q pt st mo wt n cx fQ tn'
    |_,_=>.bad)
   else(K2 (Nz a a1 a2 g q pt st mo wt r1 r2 tn none (some (.im now)) none none)).bind λpl=>.ok (.tup [wd,pl,.lst tn])
  else .ok (.tup [.str (Str.ofString "person"),p,.lst tn])
noncomputable def fW (a a1 a2:Addr)(g:D)(q:ZZ)(pt st mo:D):M D:=
 (Z1 Y1 (Zb (Zd 0) (Zb (Zd 1) Zk)) [some (.im pt),some (.im st)]).bind λwt=>
 (Zb 0[0]! (Zb 1[0]! (Zb (Zd 2) Zk)) [some (.im pt),some (.im st),some (.im wt)]).bind λl1=>
 (Zb 0[1]! (Zb 1[1]! (Zb (Zd 2) Zk)) [some (.im pt),some (.im st),some (.im wt)]).bind λl2=>
 match X7 [] l1,X7 [] l2 with
 |some r1,some r2=>Sl a a1 a2 g q pt st mo wt 3000 r1 r2 []
 |_,_=>.bad
def ku (K:PySem.W.Frag)(F:Addr->Addr->Addr->D->ZZ->D->D->D->M D):Sp:=λvs H Q _=>∃Hf a g q k pt st mo d rest m,vs=.ref a::rest/\Same Hf H/\FlK K Hf a g q k/\Hf k=none/\CaAt K (Wi Q2 g) m Hf H k/\m+3000<=16000000/\Reps K Hf [pt,st,mo] rest/\(∀a1 a2,F a a1 a2 g q pt st mo=.ok d) /\
 ∀v' LZ H',GrM k Hf H LZ H'->CaAt K (Wi Q2 g) (m+3000) LZ H' k->Rep K LZ d v'->Q v' H'
def yX:Stmt->List Stmt
 |.While _ b _ _=>b
 |_=>[]
abbrev wA (i:Nat):Stmt:=(Qz Qu).getD i (.Pass ⟨0,0,0,0⟩)
abbrev wB (i:Nat):Stmt:=(yX (wA 4)).getD i (.Pass ⟨0,0,0,0⟩)
def Ge {i:Nat}{f:Zf->M O}{sd:Zf}{p:D}(h:sd[i]?=some (some (.im p))):Jt (DL.tB (Zp Jj (Zd i) (eC .non))) f Ys sd=if p.isN=true then .ok (.nx sd) else f sd:=by
 have e:DL.tB (Zp Jj (Zd i) (eC .non)) sd=.ok (!p.isN):=by
  unfold DL.tB Zp Zd eC
  rw[h]
  cases p<;>rfl
 unfold Jt
 rw[e]
 cases p.isN<;>rfl
def Sm {f:Zf->M D}{g:Zf->M (List D)}{sd:Zf}{d:D}{l:List D}(h1:f sd=.ok d)(h2:g sd=.ok l):Zb f g sd=.ok (d::l):=by
 unfold Zb
 rw[h1]
 show M.bind (g sd) _=_
 rw[h2]
 rfl
def Pl (t:Option S):Prop:=∀s,t=some s->∃d,s=.im d
def Xq:Pl none:=λ_ h=>by cases h
def Yp {d:D}:Pl (some (.im d)):=λ_ h=>by cases h;exact⟨d,rfl⟩
def N2 {a a1 a2:Addr}{g:D}{q:ZZ}{pt st mo wt:D}{r1 r2:Qs}{tn:List D}{t8 t9 t10 t11:Option S}(h8:Pl t8)(h9:Pl t9)(VT:Pl t10)(UY:Pl t11){i:Nat}{t:S}(h:(Nz a a1 a2 g q pt st mo wt r1 r2 tn t8 t9 t10 t11)[i]?=some (some t)):
  (i=0/\t=.fl a g q)\/(i=5/\t=.ob a1 "Track" r1)\/(i=6/\t=.ob a2 "Track" r2)\/t=.ow tn\/∃d,t=.im d:=by
 match i,h with
 |0,h=>cases h;exact .inl ⟨rfl,rfl⟩
 |1,h=>cases h;exact .inr (.inr (.inr (.inr ⟨_,rfl⟩)))
 |2,h=>cases h;exact .inr (.inr (.inr (.inr ⟨_,rfl⟩)))
 |3,h=>cases h;exact .inr (.inr (.inr (.inr ⟨_,rfl⟩)))
 |4,h=>cases h;exact .inr (.inr (.inr (.inr ⟨_,rfl⟩)))
 |5,h=>cases h;exact .inr (.inl ⟨rfl,rfl⟩)
 |6,h=>cases h;exact .inr (.inr (.inl ⟨rfl,rfl⟩))
 |7,h=>cases h;exact .inr (.inr (.inr (.inl rfl)))
 |8,h=>exact .inr (.inr (.inr (.inr (h8 t (BD h)))))
 |9,h=>exact .inr (.inr (.inr (.inr (h9 t (BD h)))))
 |10,h=>exact .inr (.inr (.inr (.inr (VT t (BD h)))))
 |11,h=>exact .inr (.inr (.inr (.inr (UY t (BD h)))))
 |i+12,h=>cases h
section
variable {a a1 a2:Addr}{g:D}{q:ZZ}{pt st mo wt:D}{r1 r2:Qs}{tn:List D}{t8 t9 t10 t11:Option S}
def Be (h8:Pl t8)(h9:Pl t9)(VT:Pl t10)(UY:Pl t11)(i:Nat)(t:S)(h:(Nz a a1 a2 g q pt st mo wt r1 r2 tn t8 t9 t10 t11)[i]?=some (some t))(o:t.own=true):∃ds,t=.ow ds:=by
 rcases N2 h8 h9 VT UY h with⟨_,rfl⟩|⟨_,rfl⟩|⟨_,rfl⟩|rfl|⟨d,rfl⟩
 .cases o
 .cases o
 .cases o
 .exact⟨_,rfl⟩
 .cases o
def uf (h8:Pl t8)(h9:Pl t9)(VT:Pl t10)(UY:Pl t11)(n1:a≠a1)(n2:a2≠a1)(i:Nat)(t:S)(hi:i≠5)(h:(Nz a a1 a2 g q pt st mo wt r1 r2 tn t8 t9 t10 t11)[i]?=some (some t)):t.adr≠some a1/\∀z,t≠.xc z:=by
 rcases N2 h8 h9 VT UY h with⟨_,rfl⟩|⟨e,rfl⟩|⟨_,rfl⟩|rfl|⟨d,rfl⟩
 .exact⟨λz=>n1 (BD z),λ_ z=>by cases z⟩
 .exact absurd e hi
 .exact⟨λz=>n2 (BD z),λ_ z=>by cases z⟩
 .exact⟨(λz=>by cases z),(λ_ z=>by cases z)⟩
 .exact⟨(λz=>by cases z),(λ_ z=>by cases z)⟩
def ue (h8:Pl t8)(h9:Pl t9)(VT:Pl t10)(UY:Pl t11)(n1:a≠a2)(n2:a1≠a2)(i:Nat)(t:S)(hi:i≠6)(h:(Nz a a1 a2 g q pt st mo wt r1 r2 tn t8 t9 t10 t11)[i]?=some (some t)):t.adr≠some a2/\∀z,t≠.xc z:=by
 rcases N2 h8 h9 VT UY h with⟨_,rfl⟩|⟨_,rfl⟩|⟨e,rfl⟩|rfl|⟨d,rfl⟩
 .exact⟨λz=>n1 (BD z),λ_ z=>by cases z⟩
 .exact⟨λz=>n2 (BD z),λ_ z=>by cases z⟩
 .exact absurd e hi
 .exact⟨(λz=>by cases z),(λ_ z=>by cases z)⟩
 .exact⟨(λz=>by cases z),(λ_ z=>by cases z)⟩
end
def WI (K:PySem.W.Frag)(H Hf:Hp)(a a1 a2 k:Addr)(g:D)(q:ZZ)(pt st mo wt d:D)(m0 n:Nat)(σ':L2.St)(H':Hp):Prop:=
 ∃LZ r1 r2 tn t8 t9 t10 t11 m,Same Hf LZ/\SR K (Wp H k) (λb=>Lv (Wp H k) b/\Hf b=none) LZ (Nz a a1 a2 g q pt st mo wt r1 r2 tn t8 t9 t10 t11) σ' H'/\LZ k=none/\CaAt K (Wi Q2 g) m LZ H' k/\m+n<=m0+3000/\Pl t8/\Pl t9/\Pl t10/\Pl t11/\Sl a a1 a2 g q pt st mo wt n r1 r2 tn=.ok d
section
variable {P:Program}{w:World}{K:PySem.W.Frag}{mg:Str->Option Value}{base:Heap}
abbrev Y5:List Str:=["floor","point","step","most","whole_time","across","upward","turns","person","now","thing","word"]
def sc_walk_on:MA Y5 ["floor","point","step","most"] (Zg Qu):=⟨rfl,rfl,rfl,by decide +kernel,rfl,by decide +kernel,by decide +kernel⟩
def Ew {f:Addr}{fd:FuncData}{C CF:Addr} (F:Fun K "walk_on" "walk_on" Qu f fd) (tc:TV K C) (oc:RW K "Floor" CF) {f1 f2 f3 f4 f5 f6 f7:Addr}{NO OL YD bz kT kS kR:FuncData}
  (G1:MC P w K mg base Yi 1 f1 NO ["point","step"] (Bw K Y1)) (b1:Binds K NO ["point","step"] []) (k1:PySem.W.keepIn K (.ref f1)=true) (m1:mg "whole_time_of"=some (.ref f1))
  (oB:Mk K C f2) (G2:MC P w K mg base Yi 2 f2 OL ["self","begin","part","whole_time"] (Pp K C X7)) (b2:Binds K OL ["self","begin","part","whole_time"] []) (m2:mg "Track"=some (.ref C))
  (G3:MC P w K mg base Yi 5 f3 YD ["floor","across","upward","whole_time"] (Pf K F_person_ahead)) (b3:Binds K YD ["floor","across","upward","whole_time"] []) (k3:PySem.W.keepIn K (.ref f3)=true) (m3:mg "person_ahead"=some (.ref f3))
  (G4:MC P w K mg base Yi 4 f4 bz ["floor","across","upward","now"] (eO K Q2 F_thing_at)) (b4:Binds K bz ["floor","across","upward","now"] []) (k4:PySem.W.keepIn K (.ref f4)=true) (m4:mg "thing_at"=some (.ref f4))
  (G5:MC P w K mg base Yi 1 f5 kT ["thing","is_over","may_turn"] (Bw K Xn)) (b5:Binds K kT ["thing","is_over","may_turn"] []) (k5:PySem.W.keepIn K (.ref f5)=true) (m5:mg "how_it_ends"=some (.ref f5))
  (m6:NI K C "place_at" f6) (G6:MC P w K mg base Yi 3 f6 kS ["self","time"] (Pf K Q8)) (b6:Binds K kS ["self","time"] [])
  (G7:MC P w K mg base Yi 2 f7 kR ["track","now","thing"] (Pp K C F_pass_line)) (b7:Binds K kR ["track","now","thing"] []) (k7:PySem.W.keepIn K (.ref f7)=true) (m7:mg "pass_line"=some (.ref f7))
  (QH:mg "min"=none) (NY:mg "len"=none):
  MC P w K mg base Yi 6 f fd ["floor","point","step","most"] (ku K fW):=by
 refine F.ok sc_walk_on (λvs H Q E h=>?_) (λME A outer s H vs Q E hr h=>?_)
 .obtain⟨Hf,a,g,q,k,pt,st,mo,d,rest,m,rfl,_,_,_,_,_,rs,_⟩:=h
  have:=rs.length
  rw[AW,<-this]
  rfl
 .obtain⟨Hf,a,g,q,k,pt,st,mo,d,rest,m0,rfl,e,fl,hk,ck,dA,rs,hF,kk⟩:=h
  obtain⟨tT,pT,qT⟩:B8 (Jl Yi P w K mg base Y5 "walk_on" (Zg Qu) f ME A outer s H E).nox E0 _ (DL.tB (eC (.bl true))):=Xe U5
  obtain⟨t1,p1,q1⟩:Wq (Jl Yi P w K mg base Y5 "walk_on" (Zg Qu) f ME A outer s H E).nox E0 (wA 0) _:=Zq 4 sc_walk_on.nd (Xp G1 hr.m m1 k1 b1 (Za (Zc 1) (Za (Zc 2) Ze)))
  obtain⟨t2,p2,q2⟩:S2 (Jl Yi P w K mg base Y5 "walk_on" (Zg Qu) f ME A outer s H E).nox E0 _ _:=Za (Zv (Zc 1)) (Za (Zv (Zc 2)) (Za (Zc 4) Ze))
  obtain⟨t3,p3,q3⟩:S2 (Jl Yi P w K mg base Y5 "walk_on" (Zg Qu) f ME A outer s H E).nox E0 _ _:=Za (Zv (Zc 1)) (Za (Zv (Zc 2)) (Za (Zc 4) Ze))
  obtain⟨t4,p4,q4⟩:Wq (Jl Yi P w K mg base Y5 "walk_on" (Zg Qu) f ME A outer s H E).nox E0 (wA 3) _:=W2 7 sc_walk_on.nd (W1 Ze)
  obtain⟨t5,p5,q5⟩:Wq (Jl Yi P w K mg base Y5 "walk_on" (Zg Qu) f ME A outer s H E).nox E0 (wB 0) (Z7 8 Ev):=Zq 8 sc_walk_on.nd (A0 G3 hr.m m3 k3 b3 (Ky 0 (Ky 5 (Ky 6 (Ms (Zc 4) Mr)))))
  obtain⟨t6,p6,q6⟩:Wq (Jl Yi P w K mg base Y5 "walk_on" (Zg Qu) f ME A outer s H E).nox E0 (wB 1) _:=Qm (Zz Uv (Zc 8) Y8 (Z0 _)) (W3 7 (Zm (Zs (Z4 (Za Qb (Za (Zc 8) (Za (Zc 7) Ze))))))) Qc
  obtain⟨t7,p7,q7⟩:Wq (Jl Yi P w K mg base Y5 "walk_on" (Zg Qu) f ME A outer s H E).nox E0 (wB 2) (Z7 9 iY):=Zq 9 sc_walk_on.nd (Qx (zK rfl) (by rfl) QH (by rfl) (Za (Qn 5 tc.oc tc.n4) (Za (Qn 6 tc.oc tc.n4) (Za (Zc 4) Ze))))
  obtain⟨t8,p8,q8⟩:aB (Jl Yi P w K mg base Y5 "walk_on" (Zg Qu) f ME A outer s H E).nox E0 _ _:=Ky 0 (Ky 5 (Ky 6 (Ms (Zc 9) Mr)))
  obtain⟨t9,p9,q9⟩:Wq (Jl Yi P w K mg base Y5 "walk_on" (Zg Qu) f ME A outer s H E).nox E0 (wB 4) (Z7 11 Hc):=Zq 11 sc_walk_on.nd (zG 7 (Xp G5 hr.m m5 k5 b5 (Za (Zc 10) (Za (Je (Yo hr.units) (Zc 9) (Zc 4) (Z0 _)) (Za (Je jH (Qx nh (by rfl) NY (by rfl) (Za (Zc 7) Ze)) (Zc 3) (Z0 _)) Ze)))))
  obtain⟨t10,o7,og⟩:Wq (Jl Yi P w K mg base Y5 "walk_on" (Zg Qu) f ME A outer s H E).nox E0 (wB 5) (Jt _ (Ml 7 (Qq (Qi (Zb (Zd 11) (Zb K2 (Zb (Zd 7) Zk)))))) Ys):=Qm (Zz Uv (Zc 11) Y8 (Z0 _)) (W3 7 (Zm (Zs (Z4 (Za (Zc 11) (Za (Z4 (Za (Uc 5 tc.oc m6 G6 hr.m b6 (Za (Zc 9) Ze)) (Za (Uc 6 tc.oc m6 G6 hr.m b6 (Za (Zc 9) Ze)) Ze))) (Za (Zc 7) Ze))))))) Qc
  obtain⟨t11,o6,oa⟩:Wq (Jl Yi P w K mg base Y5 "walk_on" (Zg Qu) f ME A outer s H E).nox E0 (wB 6) (Jt d9 (Ua 7 K2) Ys):=Qm (Zz (Yo hr.units) (Zc 10) Qb (Z0 _)) (Zm (Kw 7 (Z4 (Za (Uc 5 tc.oc m6 G6 hr.m b6 (Za (Zc 9) Ze)) (Za (Uc 6 tc.oc m6 G6 hr.m b6 (Za (Zc 9) Ze)) Ze))))) Qc
  refine⟨_,Qp p1 (Qp (V5 sc_walk_on.nd (i:=5) rfl (.inl rfl) (L7 (dvs:=[]) (E:=E0) oB G2 hr.m (by rfl) m2 b2 .nil Kf p2) rfl (.inl rfl))
   (Qp (V5 sc_walk_on.nd (i:=6) rfl (.inl rfl) (L7 (dvs:=[]) (E:=E0) oB G2 hr.m (by rfl) m2 b2 .nil Kf p3) rfl (.inl rfl))
   (Qp p4 (Xo (B2 CM pT
    (Qp p5 (Qp p6 (Qp p7
    (Qp (V5 sc_walk_on.nd (i:=10) rfl (.inl rfl) (Ve (dvs:=[]) (E:=E0) G4 hr.m (by rfl) m4 k4 b4 .nil Kf p8) rfl (.inl rfl))
    (Qp p9 (Qp o7 (Qp o6
    (Qp (Us (Ve (dvs:=[]) (E:=E0) G7 hr.m (by rfl) m7 k7 b7 .nil Kf (Qj (Z6 (i:=5) rfl (.inl rfl) (by decide) (by decide)) (Qj (Z6 (i:=9) rfl (.inl rfl) (by decide) (by decide)) (Qj (Z6 (i:=10) rfl (.inl rfl) (by decide) (by decide)) Xs rfl) rfl) rfl)) rfl)
    (Xo (Us (Ve (dvs:=[]) (E:=E0) G7 hr.m (by rfl) m7 k7 b7 .nil Kf (Qj (Z6 (i:=6) rfl (.inl rfl) (by decide) (by decide)) (Qj (Z6 (i:=9) rfl (.inl rfl) (by decide) (by decide)) (Qj (Z6 (i:=10) rfl (.inl rfl) (by decide) (by decide)) Xs rfl) rfl) rfl)) rfl))))))))))))))),?_⟩
  have VS:=hF 0 0
  unfold fW at VS
  obtain⟨wt,ew,VS⟩:=bind_ok VS
  obtain⟨l1,ke,VS⟩:=bind_ok VS
  obtain⟨l2,kb,VS⟩:=bind_ok VS
  split at VS
  case h_2=>cases VS
  rename_i r1 r2 b9 b8
  have hL:∀a1 a2,Sl a a1 a2 g q pt st mo wt 3000 r1 r2 []=.ok d:=λa1 a2=>by
   have h:=hF a1 a2
   unfold fW at h
   rw[ew] at h
   simp only[M.bind] at h
   rw[ke] at h
   simp only[M.bind] at h
   rw[kb] at h
   simp only[M.bind] at h
   rw[b9,b8] at h
   exact h
  clear VS hF
  have hlen:=rs.length
  have sr0:=Ux (K:=K) (N:=Y5) (ss:=[.fl a g q,.im pt,.im st,.im mo]) (vs:=.ref a::rest) (m:=8) e (.cons ⟨rfl,fl.fl⟩ (Mu rs)) rfl
  refine q1 _ _ _ _ _ _ _ sr0 (Ud (Py ew) λσ1 MB H1 s1 sr1=>?_)
  refine nJ (i:=5) q2 sr1 ke rfl b9 tc.oc.at_ λa1 σ2 MI H2 s2 n1 sr2=>?_
  refine nJ (i:=6) q3 sr2 kb rfl b8 tc.oc.at_ λa2 σ3 SQ H3 s3 n2 sr3=>?_
  refine q4 _ _ _ _ _ _ _ sr3 (Ud (show _=M.ok (O.nx _) from rfl) λσ4 Hf4 H4 s4 sr4=>?_)
  have XZ:H a1=none:=none_of sr1.all n1
  have Im:H a2=none:=none_of sr2.all n2
  have kW:Hf a1=none:=none_of e XZ
  have kU:Hf a2=none:=none_of e Im
  have n12:a1≠a2:=λz=>by
   obtain⟨v,y1,C'',iE,hU,rfl,y2,y3,y4⟩:=sr2.imS 5 (.ob a1 "Track" r1) rfl rfl
   rw[z] at y3
   rw[sr2.sub _ _ y3] at n2
   cases n2
  obtain⟨x0,x1,x2,x3,x4,x5,x6,x7⟩:=id fl
  have pJ:a≠a1:=λz=>by rw[z,kW] at x6;cases x6
  have pI:a≠a2:=λz=>by rw[z,kU] at x6;cases x6
  have lk:Lv H k:=ck.lv
  have w0:WI K H Hf a a1 a2 k g q pt st mo wt d m0 3000 σ4 H4:=⟨Hf4,r1,r2,[],none,none,none,none,m0,s1.trans (s2.trans (s3.trans s4)),sr4.less (Ki H k) λb hb=>⟨⟨(Ki H k).lv hb.1,hb.2⟩,hb.1⟩,sr4.ban k ⟨lk,hk⟩,
   ck.mono (s1.trans (s2.trans (s3.trans s4))) (λo z=>sr4.all _ _ z),AO _,Xq,Xq,Xq,Xq,hL a1 a2⟩
  refine⟨WI K H Hf a a1 a2 k g q pt st mo wt d m0,⟨_,w0⟩,λn σ5 H5 hW=>?_⟩
  clear w0 sr0 sr1 sr2 sr3 sr4 s1 s2 s3 s4 hL b9 b8 n1 n2
  obtain⟨XT,r1,r2,tn,t8,t9,t10,t11,m,s5,sr5,j4,ca5,hm,h8,h9,VT,UY,hl⟩:=hW
  cases n with
  |zero=>cases hl
  |succ n=>
  refine qT _ _ _ _ _ _ _ sr5 ?_
  show Po K E0 rQ XT H5 (M.ok true) _
  intro v Hf6 H6 g6 rv
  have ev:true=v:=rv
  subst ev
  rw[AC rfl]
  refine⟨WI K H Hf a a1 a2 k g q pt st mo wt d m0 n,λσ' H' w=>⟨n,EC n,w⟩,?_⟩
  have sr6:=sr5.gr g6
  have j3:Hf6 k=none:=g6.ban k ca5.lv j4
  have ca6:=ca5.mono g6.fz (λo z=>g6.all _ _ z)
  have s6:=s5.trans g6.fz
  clear sr5 ca5 j4 s5 g6
  unfold Sl at hl
  obtain⟨p,ep,hl⟩:=bind_ok hl
  obtain⟨c6,y6,ZN,rc6,fY,br⟩:=id ca6
  have bD:=sr6.keep ZN ca6.lv j3 (sr6.offD ZN (Be h8 h9 VT UY))
  refine q5 _ _ _ _ _ _ _ bD (Ud (Py ep) λσ7 VO H7 s7 cw=>?_)
  have cw:SR K _ _ VO (Nz a a1 a2 g q pt st mo wt r1 r2 tn (some (.im p)) t9 t10 t11) σ7 H7:=cw
  refine q6 _ _ _ _ _ _ _ cw ?_
  by_cases hp:p.isN=true
  case neg=>
   rw[AD hp] at hl
   cases hl
   refine nL (d:=.tup [.str (Str.ofString "person"),p,.lst tn]) ?_ λv LZ H' s fin rv=>kk v LZ H' (nK (s6.trans (s7.trans s)) fin) ⟨c6,y6,fin.all _ _ Zo,rc6.mono (s7.trans s),by lia,br⟩ rv
   rw[Ge (p:=p) rfl,AD hp]
   rfl
  rw[AC hp] at hl
  obtain⟨now,en,hl⟩:=bind_ok hl
  obtain⟨th,UA,hl⟩:=bind_ok hl
  obtain⟨wd,rP,hl⟩:=bind_ok hl
  refine Ud (by rw[Ge (p:=p) rfl,AC hp]) λσ8 Hf8 H8 s8 jb=>?_
  refine q7 _ _ _ _ _ _ _ jb (Ud (Py en) λσ9 jO H9 s9 sr9=>?_)
  have sr9:SR K _ _ jO (Nz a a1 a2 g q pt st mo wt r1 r2 tn (some (.im p)) (some (.im now)) t10 t11) σ9 H9:=sr9
  obtain⟨kD,j2,sr9⟩:=sr9.back (Kj H k) λb hb=>hb.1
  have s69:=s6.trans (s7.trans (s8.trans s9))
  have ca9:CaAt K (Wi Q2 g) m jO H9 k:=⟨c6,y6,kD,rc6.mono (s7.trans (s8.trans s9)),fY,br⟩
  clear bD sr6 cw jb ca6 j3 ZN rc6
  refine q8 _ _ _ _ _ _ _ sr9 ?_
  show Po K E0 (cL K) jO H9 (M.ok [.fl a g q,.ob a1 "Track" r1,.ob a2 "Track" r2,.im now]) _
  intro vs cZ H10 g10 bG
  show eO K Q2 F_thing_at (vs++[]) H10 _ E0
  rw[BJ]
  have ca10:=ca9.mono g10.fz (λo z=>g10.all _ _ z)
  have ZG:cZ k=none:=g10.ban k ca9.lv j2
  have sr10:=sr9.gr g10
  have s10:=s69.trans g10.fz
  refine⟨cZ,_,a,g,q,k,m,th,rfl,g10.sub,bG,fl.mono s10,ZG,ca10,by rw[CH];lia,UA,λv' cY H11 gm ca11 aH=>?_⟩
  have bW:cY k=none:=gm.ban k ca10.lv ZG
  obtain⟨c10,y10,bh,_⟩:=id ca10
  have sr11:SR K _ _ cY (Nz a a1 a2 g q pt st mo wt r1 r2 tn (some (.im p)) (some (.im now)) (some (.im th)) t11) _ H11:=(sr10.grM gm (Kj H k) (sr10.offD bh (Be Yp Yp VT UY))).set_im 10 aH
  have s11:=s10.trans gm.fz
  clear sr9 sr10 ca9 ca10 j2 ZG s69 s10 bG gm kD g10 bh aH
  obtain⟨c6,y6,ZN,rc6,fY,br⟩:=id ca11
  have bD:=sr11.keep ZN ca11.lv bW (sr11.offD ZN (Be Yp Yp Yp UY))
  refine q9 _ _ _ _ _ _ _ bD (Ud (Py rP) λσ12 jS H12 s12 WC=>?_)
  have WC:SR K _ _ jS (Nz a a1 a2 g q pt st mo wt r1 r2 tn (some (.im p)) (some (.im now)) (some (.im th)) (some (.im wd))) σ12 H12:=WC
  refine og _ _ _ _ _ _ _ WC ?_
  by_cases hw:wd.isN=true
  case neg=>
   rw[AD hw] at hl
   obtain⟨pl,WZ,hl⟩:=bind_ok hl
   cases hl
   refine nL (d:=.tup [wd,pl,.lst tn]) ?_ λv LZ H' s fin rv=>kk v LZ H' (nK (s11.trans (s12.trans s)) fin) ⟨c6,y6,fin.all _ _ Zo,rc6.mono (s12.trans s),by lia,br⟩ rv
   rw[Ge (p:=wd) rfl,AD hw]
   have e3:=Sm (f:=Zd 11) (g:=Zb K2 (Zb (Zd 7) Zk)) (sd:=frz 7 (Nz a a1 a2 g q pt st mo wt r1 r2 tn (some (.im p)) (some (.im now)) (some (.im th)) (some (.im wd)))) (d:=wd) rfl (Sm (d:=pl) WZ (Sm (d:=.lst tn) (l:=[]) rfl rfl))
   unfold Ml Qq Qi
   rw[e3]
   rfl
  rw[AC hw] at hl
  obtain⟨b,eb,hl⟩:=bind_ok hl
  obtain⟨tn',ZV,hl⟩:=bind_ok hl
  split at hl
  case h_2=>cases hl
  rename_i cx fQ b9 b8
  refine Ud (by rw[Ge (p:=wd) rfl,AC hw]) λσ13 Hf13 H13 s13 bE=>?_
  refine oa _ _ _ _ _ _ _ bE (Ud (sd':=Nz a a1 a2 g q pt st mo wt r1 r2 tn' (some (.im p)) (some (.im now)) (some (.im th)) (some (.im wd))) ?_ λσ14 jR H14 jd sr14=>?_)
  .have sD:d9 (Nz a a1 a2 g q pt st mo wt r1 r2 tn (some (.im p)) (some (.im now)) (some (.im th)) (some (.im wd)))=.ok b:=eb
   unfold Jt
   rw[sD]
   cases b with
   |false=>cases ZV;rfl
   |true=>
    rw[AC rfl] at ZV
    obtain⟨pl,WZ,ZV⟩:=bind_ok ZV
    split at ZV
    .rename_i hfew
     cases ZV
     have e2:K2 (Nz a a1 a2 g q pt st mo wt r1 r2 tn (some (.im p)) (some (.im now)) (some (.im th)) (some (.im wd)))=.ok pl:=WZ
     show(K2 (Nz a a1 a2 g q pt st mo wt r1 r2 tn (some (.im p)) (some (.im now)) (some (.im th)) (some (.im wd)))).bind (λd=>if few tn=true then _ else _)=_
     rw[e2]
     show(if few tn=true then _ else _)=_
     rw[AC hfew]
     rfl
    .cases ZV
  obtain⟨gw,gU,sr14⟩:=sr14.back (Kj H k) λb hb=>hb.1
  have bF:=s11.trans (s12.trans (s13.trans jd))
  have iJ:CaAt K (Wi Q2 g) (m+1) jR H14 k:=⟨c6,y6,gw,rc6.mono (s12.trans (s13.trans jd)),fY,br⟩
  clear bD sr11 WC bE ca11 bW ZN rc6
  refine mC (i:=5) (i1:=9) (i2:=10) sr14 rfl (uf Yp Yp Yp Yp pJ n12.symm) tc.oc.at_ (none_of (Ki H k) XZ) b9 (by decide) (by decide) rfl rfl gU iJ λjQ H15 oO YU gS iI=>?_
  have YU:SR K _ _ jQ (Nz a a1 a2 g q pt st mo wt cx r2 tn' (some (.im p)) (some (.im now)) (some (.im th)) (some (.im wd))) _ H15:=YU
  refine mC (i:=6) (i1:=9) (i2:=10) YU rfl (ue Yp Yp Yp Yp pI n12) tc.oc.at_ (none_of (Ki H k) Im) b8 (by decide) (by decide) rfl rfl gS iI λjP H16 oN fK gR iH=>?_
  exact⟨jP,cx,fQ,tn',_,_,_,_,m+1,oN Hf (oO Hf bF kW) kU,fK,gR,iH,by lia,Yp,Yp,Yp,Yp,hl⟩
end
noncomputable def dU:Zf->M D:=Qi (Zb (Z1 Yv (Zb 3[0]! Zk)) (Zb (Z1 Yv (Zb 3[1]! Zk)) Zk))
noncomputable def He (p:D):Option (List Q9):=match dU [none,none,none,some (.im p),none] with
 |.ok (.tup ds)=>Jn ds
 |_=>none
noncomputable def VI:Mw->List D->Option Mw
 |acc,[]=>some acc
 |acc,p::r=>match He p with
  |some ks=>VI (V2 ks p acc) r
  |none=>none
theorem Gf (f:Str)(v:V):∀fs:List (Str×V),(Ya f v fs).length<=fs.length+1
 |[]=>AO _
 |(g,x)::r=>by
  unfold Ya
  split
  .simp
  .have:=Gf f v r
   simp only[AW]
   lia
section
variable {P:Program}{w:World}{K:PySem.W.Frag}{mg:Str->Option Value}{base:Heap}
abbrev dS:List Str:=["self","hall","people","person","square"]
def sc_Floor_init:MA dS ["self","hall","people"] (Zg Ka):=⟨rfl,rfl,rfl,by decide +kernel,rfl,by decide +kernel,by decide +kernel⟩
def ae (hall:D)(ppl:List D)(t3 t4:Option S):Zf:=[none,some (.im hall),some (.im (.lst ppl)),t3,t4]
def N3 {hall:D}{ppl:List D}{t3 t4:Option S}(h3:Pl t3)(h4:Pl t4){σ:L2.St}{b:Addr}:af (ae hall ppl t3 t4) σ b:=by
 intro i t h o
 have:∃d,t=.im d:=by
  match i,h with
  |0,h=>cases h
  |1,h=>cases h;exact⟨_,rfl⟩
  |2,h=>cases h;exact⟨_,rfl⟩
  |3,h=>exact h3 t (BD h)
  |4,h=>exact h4 t (BD h)
  |i+5,h=>cases h
 obtain⟨d,rfl⟩:=this
 cases o
def FI (K:PySem.W.Frag)(CF dx x k d:Addr)(gs:List (Str×V))(H Hf:Hp)(hall:D)(ppl:List D)(q:Mw)(i m:Nat)(σ':L2.St)(H':Hp):Prop:=
 m=ppl.length-i/\i<=ppl.length/\∃LZ t3 t4 ys acc,Same Hf LZ/\SR K (Wp H x) (λb=>Lv (Wp H x) b/\Hf b=none) LZ (ae hall ppl t3 t4) σ' H'/\Pl t3/\Pl t4/\σ'[0]?=some (some (.ref x))/\LZ x=none/\H' x=some (.ins CF dx gs)/\H' k=some (.dT [])/\LZ k=none /\
  H' d=some (.dT ys)/\LZ d=none/\OwnL K (Wp H x) LZ H' acc ys/\acc.length<=i/\(∀p∈acc,p.2.length<=i)/\VI acc (ppl.drop i)=some q
def Tg {f:Addr}{fd:FuncData}{CF:Addr} (F:Fun K "__init__" "Floor.__init__" Ka f fd) (oc:RW K "Floor" CF) (XZ:NoAttr K CF "hall") (Im:NoAttr K CF "known_faces") (jq:NoAttr K CF "by_square") {f1:Addr}{NO:FuncData}
  (G1:MC P w K mg base Yi 1 f1 NO ["place"] (Bw K Yv)) (b1:Binds K NO ["place"] []) (k1:PySem.W.keepIn K (.ref f1)=true) (m1:mg "square_of"=some (.ref f1)):
  MC P w K mg base Yi 2 f fd ["self","hall","people"] (lK K CF (VI [])):=by
 refine F.ok sc_Floor_init (λvs H Q E h=>?_) (λME A outer s H vs Q E hr h=>?_)
 .obtain⟨Hf,x,dx,hall,ppl,q,vh,vp,rfl,_⟩:=h
  rfl
 .obtain⟨Hf,x,dx,hall,ppl,q,vh,vp,rfl,e,ZI,hx,rh,rp,hlen,hq,kk⟩:=h
  obtain⟨tk,pk,qk⟩:Yt (Jl Yi P w K mg base dS "Floor.__init__" (Zg Ka) f ME A outer s H E).nox E0 _ dU:=Z4 (Za (Xp G1 hr.m m1 k1 b1 (Za (Zv (Zc 3)) Ze)) (Za (Xp G1 hr.m m1 k1 b1 (Za (Zv (Zc 3)) Ze)) Ze))
  refine⟨_,Qp (L4 (Z6 (i:=0) rfl (.inl rfl) (by decide) (by decide)) (Z6 (i:=1) rfl (.inl rfl) (by decide) (by decide)) rfl)
   (Qp (L4 (Z6 (i:=0) rfl (.inl rfl) (by decide) (by decide)) Rm rfl)
   (Qp (L4 (Z6 (i:=0) rfl (.inl rfl) (by decide) (by decide)) Rm rfl)
   (Xo (Da CM rfl (zZ (Z6 (i:=2) rfl (.inl rfl) (by decide) (by decide))) (Pu (i:=3) sc_Floor_init.nd rfl (.inl rfl) (.inl rfl))
    (Qp (V5 sc_Floor_init.nd (i:=4) rfl (.inl rfl) pk rfl (.inl rfl))
    (Xo (Us (mO IK IG IF Gu (Zcw (eD hr.units) (V6 (Z6 (i:=0) rfl (.inl rfl) (by decide) (by decide)) rfl) (Z6 (i:=4) rfl (.inl rfl) (by decide) (by decide)) (Df Xs) ⟨rfl,rfl,rfl,rfl⟩) (Qj (Z6 (i:=3) rfl (.inl rfl) (by decide) (by decide)) Xs rfl)) rfl))))))),?_⟩
  obtain⟨ap,xs,rfl,kG,rxs⟩:=rep_lst.mp rp
  have st:=Lc (K:=K) (N:=dS) (C:=CF) (Hf:=Hf) (H:=H) (r:=[]) (ds:=[hall,.lst ppl]) (a:=x) (vs:=[vh,.ref ap]) (m:=2) e ZI ⟨dx,[],hx,.nil⟩ (Reps.cons rh (Reps.cons rp Reps.nil)) rfl
  have sr0:SR K (Wp H x) (λb=>Lv (Wp H x) b/\Hf b=none) Hf (ae hall ppl none none) (Y6 dS [.ref x,vh,.ref ap]) H:=st.sr
  refine⟨vh,rfl,.ref x,rfl,x,CF,dx,[],rfl,hx,oc.cls,XZ,by decide,?_⟩
  have sr1:=sr0.mut (b:=x) (o:=.ins CF dx (Ya "hall" vh [])) (Kj H x) ZI (N3 Xq Xq)
  intro k hk
  have xk:x≠k:=by rintro rfl;rw[Zo] at hk;cases hk
  have gW:H k=none:=by rw[Zl xk.symm] at hk;exact hk
  refine⟨.ref x,rfl,x,CF,dx,_,rfl,(Zl xk).trans Zo,oc.cls,Im,by have:=Gf "hall" vh [];simp only[FF] at this;lia,?_⟩
  have sr2:=sr1.gr (Gr.new sr1.sub hk (.dT []))
  have sr3:=sr2.mut (b:=x) (o:=.ins CF dx (Ya "known_faces" (.ref k) (Ya "hall" vh []))) (Kj H x) ZI (N3 Xq Xq)
  intro d hd
  have xd:x≠d:=by rintro rfl;rw[Zo] at hd;cases hd
  have kd:k≠d:=by rintro rfl;rw[Zl xk.symm,Zo] at hd;cases hd
  have gj:H d=none:=by rw[Zl xd.symm,Zl kd.symm,Zl xd.symm] at hd;exact hd
  refine⟨.ref x,rfl,x,CF,dx,_,rfl,(Zl xd).trans Zo,oc.cls,jq,by have:=Gf "hall" vh [];have:=Gf "known_faces" (.ref k) (Ya "hall" vh []);simp only[FF] at *;lia,?_⟩
  have sr4:=sr3.gr (Gr.new sr3.sub hd (.dT []))
  have sr5:=sr4.mut (b:=x) (o:=.ins CF dx (Ya "by_square" (.ref d) (Ya "known_faces" (.ref k) (Ya "hall" vh [])))) (Kj H x) ZI (N3 Xq Xq)
  have g1:(Ya "by_square" (.ref d) (Ya "known_faces" (.ref k) (Ya "hall" vh []))).lookup ("hall":Str)=some vh:=by
   rw[Ql,AD (by decide),Ql,AD (by decide),Ql,AC rfl]
  have g2:(Ya "by_square" (.ref d) (Ya "known_faces" (.ref k) (Ya "hall" vh []))).lookup ("by_square":Str)=some (.ref d):=by rw[Ql,AC rfl]
  have g3:(Ya "by_square" (.ref d) (Ya "known_faces" (.ref k) (Ya "hall" vh []))).lookup ("known_faces":Str)=some (.ref k):=by rw[Ql,AD (by decide),Ql,AC rfl]
  have g4:(Ya "by_square" (.ref d) (Ya "known_faces" (.ref k) (Ya "hall" vh []))).lookup ("people_at":Str)=none:=by
   rw[Ql,AD (by decide),Ql,AD (by decide),Ql,AD (by decide)];rfl
  have g5:(Ya "by_square" (.ref d) (Ya "known_faces" (.ref k) (Ya "hall" vh []))).lookup ("faces_at":Str)=none:=by
   rw[Ql,AD (by decide),Ql,AD (by decide),Ql,AD (by decide)];rfl
  generalize Ya "by_square" (.ref d) (Ya "known_faces" (.ref k) (Ya "hall" vh []))=gs at *
  refine⟨.ref ap,rfl,ap,rfl,⟨xs,sr5.sub.seq kG⟩,FI K CF dx x k d gs H Hf hall ppl q,⟨_,rfl,CI _,Hf,none,none,[],[],Same.refl _,sr5,Xq,Xq,rfl,ZI,Zo,?_,none_of e gW,?_,none_of e gj,⟨.nil,by simp⟩,AO _,(λ_ h=>by cases h),hq⟩,λi m σ' H' hI=>?_⟩
  .rw[Zl xk.symm,Zl kd,Zl xk.symm,Zo]
  .rw[Zl xd.symm,Zo]
  clear sr0 sr1 sr2 sr3 sr4 sr5 st hk hd
  obtain⟨rfl,hi,LZ,t3,t4,ys,acc,s',sr,h3,h4,σ0,fx,Hx,Hk,fk,Hd,rN,own,la,ll,hb⟩:=hI
  have sq:SqL K H' ap xs:=sr.sub.seq (s'.seq kG)
  have lx:=rxs.length
  by_cases NN:i<ppl.length
  case neg=>
   have ei:i=ppl.length:=by lia
   left
   refine⟨⟨xs,sq,by lia⟩,?_⟩
   rw[ei,List.drop_length] at hb
   cases hb
   have nS:∀b,Lv H b->b≠x->¬(b=x\/b=d\/∃p∈ys,p.2=V.ref b):=λb hb c9 z=>by
    rcases z with z|z|⟨p,z1,z2⟩
    .exact c9 z
    .rw[z] at hb;exact hb.nn gj
    .obtain⟨y,_,a',a9,e2,_,_,e5,_⟩:=J9 own.1 z1
     rw[z2] at e2
     cases e2
     rw[X5 c9] at e5
     exact hb.nn e5
   refine kk (VX LZ H' λb=>b=x\/b=d\/∃p∈ys,p.2=V.ref b) H' k (s'.trans Sg) (zJ sr.sub) (λb u hb hu=>sr.all b u ((X5 hb).trans hu)) (λb hl hf hne=>?_) ?_ ?_ Hk gW
   .obtain⟨o,o1,o2⟩:=id hl
    exact A6 (nS b hl hne) (sr.ban b ⟨⟨o,(X5 hne).trans o1,o2⟩,hf⟩)
   .have sm:=s'.trans (Sg (Hf:=LZ) (H:=H') (S:=λb=>b=x\/b=d\/∃p∈ys,p.2=V.ref b))
    refine⟨CF,dx,gs,d,ys,oc.at_,Ei sr.sub (.inl rfl) Hx,⟨⟨vh,g1,rh.mono sm⟩,g2,g3,g4,g5⟩,Ei sr.sub (.inr (.inl rfl)) Hd,?_⟩
    have:∀{l:Mw}{l':List (List Q9×V)},Paired (OwnP K (Wp H x) LZ H') l l'->(∀p∈l',p∈ys)->RepKV K (VX LZ H' λb=>b=x\/b=d\/∃p∈ys,p.2=V.ref b) (qD l) l':=by
     intro l l' hl hm
     induction hl with
     |nil=>exact .nil
     | @cons y z r r' hp ht ih=>
      obtain⟨e1,a',a9,e2,e3,e4,e5,e6⟩:=hp
      refine .cons ⟨e1,?_⟩ (ih λp hp=>hm p (AQ _ hp))
      show Rep K _ (.lst y.2) z.2
      rw[e2]
      exact rep_lst.mpr ⟨a',a9,rfl,SqL.of (Ei sr.sub (.inr (.inr ⟨z,hm z (AX ..),e2⟩)) e3),e6.mono Sg⟩
    exact this own.1 λ_ h=>h
   .refine A6 (λz=>?_) fk
    rcases z with z|z|⟨p,z1,z2⟩
    .exact xk z.symm
    .exact kd z
    .obtain⟨y,_,a',a9,e2,e3,_⟩:=J9 own.1 z1
     rw[z2] at e2
     cases e2
     rw[Hk] at e3
     cases e3
  right
  have RC:VI acc (ppl[i]::ppl.drop (i+1))=some q:=by rw[<-DB NN];exact hb
  unfold VI at RC
  split at RC
  case h_2=>cases RC
  rename_i ks ZW
  unfold He at ZW
  split at ZW
  case h_2=>cases ZW
  rename_i ds r6
  obtain⟨y,ey,ry⟩:=rxs.get (CC NN)
  refine⟨⟨xs,y,sq,ey⟩,FI K CF dx x k d gs H Hf hall ppl q (i+1) (ppl.length-(i+1)),λσ' H' w=>⟨_,by lia,w⟩,λv YQ hy=>?_⟩
  obtain⟨rfl,hy⟩:=hy
  have ev:=hy _ sq
  rw[ey] at ev
  cases ev
  have oR:=ry.mono s'
  have sr1:SR K _ _ LZ (ae hall ppl (some (.im ppl[i])) t4) _ YQ:=sr.set_im 3 oR
  refine qk _ _ _ _ _ _ _ sr1 ?_
  rw[show dU (ae hall ppl (some (.im ppl[i])) t4)=.ok (.tup ds) from r6]
  intro v4 MI H2 g6 jf
  have sr2:SR K _ _ MI (ae hall ppl (some (.im ppl[i])) (some (.im (.tup ds)))) _ H2:=(sr1.gr g6).set_im 4 jf
  obtain⟨b,rfl,gz⟩:=Nd ZW g6.sub jf
  have own2:=own.gr g6
  have hsz:=CH
  have lk:Lv YQ k:=⟨_,Hk,λ_ q=>by cases q⟩
  have pL:Lv YQ d:=⟨_,Hd,λ_ q=>by cases q⟩
  have lys:=DN own.1
  obtain⟨w3,jY,je⟩:=sr2.im 3 ppl[i] rfl
  obtain⟨w4,oJ,oS⟩:=sr2.im 4 (.tup ds) rfl
  obtain⟨b',rfl,gz⟩:=Nd ZW sr2.sub oS
  have σ0':(List.set (List.set σ' 3 (some y)) 4 (some (V.ref b)))[0]?=some (some (.ref x)):=by rw[AF (by decide),AF (by decide)];exact σ0
  refine⟨.ref x,σ0',x,CF,dx,gs,.ref d,rfl,g6.all _ _ Hx,oc.cls,jq,g2,d,rfl,.inr ⟨ys,.inl (g6.all _ _ Hd)⟩,_,oJ,?_⟩
  refine⟨CI _,λpl MT=>?_⟩
  have own3:=own2.gr (Gr.new sr2.sub MT (.lst []))
  have sr3:=sr2.gr (Gr.new sr2.sub MT (.lst []))
  have nx:x≠pl:=λz=>by rw[<-z,g6.all _ _ Hx] at MT;cases MT
  have nk:k≠pl:=λz=>by rw[<-z,g6.all _ _ Hk] at MT;cases MT
  have nd:d≠pl:=λz=>by rw[<-z,g6.all _ _ Hd] at MT;cases MT
  have nb:b'≠pl:=λz=>by rw[<-z,gz] at MT;cases MT
  have jM:upd H2 pl (.lst []) x=some (.ins CF dx gs):=(Zl nx).trans (g6.all _ _ Hx)
  have jN:upd H2 pl (.lst []) k=some (.dT []):=(Zl nk).trans (g6.all _ _ Hk)
  have jT:upd H2 pl (.lst []) d=some (.dT ys):=(Zl nd).trans (g6.all _ _ Hd)
  have s2:=s'.trans g6.fz
  have kL:MI x=none:=g6.ban x (Sc Hx) fx
  have kO:MI k=none:=g6.ban k lk fk
  have OL:MI d=none:=g6.ban d pL rN
  refine⟨ys,ks,b',rfl,jT,(Zl nb).trans gz,by lia,λv ev=>?_,λen=>?_⟩
  .obtain⟨a',aF,rfl,e3,e4,e5,⟨pp,rK,g2'⟩,rL⟩:=own3.there ev
   have l1:=ll pp rK
   refine⟨.inl ⟨rfl,aF,SqL.of e3⟩,w3,jY,a',aF,w3,rfl,rfl,e3,by lia,?_⟩
   have n1:x≠a':=λz=>by rw[<-z,jM] at e3;cases e3
   have n2:k≠a':=λz=>by rw[<-z,jN] at e3;cases e3
   have n3:d≠a':=λz=>by rw[<-z,jT] at e3;cases e3
   exact⟨rfl,NN,MI,_,_,ys,V2 ks ppl[i] acc,s2,sr3.mut e5 e4 (N3 Yp Yp),Yp,Yp,σ0',kL,(Zl n1).trans jM,(Zl n2).trans jN,kO,(Zl n3).trans jT,OL,⟨rL _ _ je,own3.2⟩,by have:=Sf (ks:=ks) (p:=ppl[i]) (acc:=acc);lia,Nl ll,RC⟩
  .have WZ:upd (upd H2 pl (.lst [])) d (.dT (Ja ys ks (.ref pl))) pl=some (.lst []):=(Zl nd.symm).trans Zo
   refine⟨.inl ⟨rfl,[],SqL.of WZ⟩,w3,jY,pl,[],w3,rfl,rfl,WZ,by rw[CH];decide,?_⟩
   have h0:Wp H x pl=none:=none_of sr2.all MT
   have j8:MI pl=none:=none_of sr2.sub MT
   have eH:upd (upd (upd H2 pl (.lst [])) d (.dT (Ja ys ks (.ref pl)))) pl (.lst ([]++[w3]))=upd (upd H2 d (.dT (Ja ys ks (.ref pl)))) pl (.lst [w3]):=by
    funext c
    by_cases c1:c=pl
    .subst c1;rw[Zo,Zo];rfl
    .rw[Zl c1,Zl c1]
     by_cases c2:c=d
     .subst c2;rw[Zo,Zo]
     .rw[Zl c2,Zl c2,Zl c1]
   have sr4:=(sr3.mut (b:=d) (o:=.dT (Ja ys ks (.ref pl))) (none_of (Ki H x) gj) OL (N3 Yp Yp)).mut (b:=pl) (o:=.lst ([]++[w3])) h0 j8 (N3 Yp Yp)
   refine⟨rfl,NN,MI,_,_,Ja ys ks (.ref pl),V2 ks ppl[i] acc,s2,sr4,Yp,Yp,σ0',kL,?_,?_,kO,?_,OL,?_,by have:=Sf (ks:=ks) (p:=ppl[i]) (acc:=acc);lia,Nl ll,RC⟩
   .rw[Zl nx,Zl xd];exact jM
   .rw[Zl nk,Zl kd];exact jN
   .rw[Zl nd,Zo]
   .rw[eH]
    exact own2.new en (g6.all _ _ Hd) MT h0 j8 je
end
open Classical in
open Classical in
noncomputable def F_walk:List D->M S
 |[hall,.lst ppl,pt,st,mo]=>(match VI [] ppl with
  |some q=>if h:ppl.length<=1000000/\∃d,∀a a1 a2,fW a a1 a2 hall (qD q) pt st mo=.ok d then .ok (.im h.2.choose) else .bad
  |none=>.bad)
 |_=>.bad
def O8 {hall pt st mo d:D}{ppl:List D}{q:Mw}(hq:VI [] ppl=some q)(hl:ppl.length<=1000000)(h:∀a a1 a2,fW a a1 a2 hall (qD q) pt st mo=.ok d):F_walk [hall,.lst ppl,pt,st,mo]=.ok (.im d):=by
 have hh:ppl.length<=1000000/\∃d,∀a a1 a2,fW a a1 a2 hall (qD q) pt st mo=.ok d:=⟨hl,d,h⟩
 simp only[F_walk,hq]
 rw[dif_pos hh]
 have:=hh.2.choose_spec 0 0 0
 rw[h 0 0 0] at this
 cases this
 rfl
def Lh {ds:List D}{s:S}(h:F_walk ds=.ok s):∃hall ppl pt st mo q d,ds=[hall,.lst ppl,pt,st,mo]/\VI [] ppl=some q/\ppl.length<=1000000/\(∀a a1 a2,fW a a1 a2 hall (qD q) pt st mo=.ok d)/\s=.im d:=by
 unfold F_walk at h
 split at h
 .rename_i hall ppl pt st mo
  split at h
  .rename_i q hq
   split at h
   .rename_i hh
    cases h
    exact⟨hall,ppl,pt,st,mo,q,_,rfl,hq,hh.1,hh.2.choose_spec,rfl⟩
   .cases h
  .cases h
 .cases h
section
variable {P:Program}{w:World}{K:PySem.W.Frag}{mg:Str->Option Value}{base:Heap}
abbrev jE:List Str:=["hall","people","point","step","most"]
def yW:MA jE jE (Zg El):=⟨rfl,rfl,rfl,by decide +kernel,rfl,by decide +kernel,by decide +kernel⟩
def Zc8 {f:Addr}{fd:FuncData}{CF:Addr} (F:Fun K "walk" "walk" El f fd) {f1 f2:Addr}{NO OL:FuncData}
  (Mk1:Mk K CF f1) (G1:MC P w K mg base Yi 2 f1 NO ["self","hall","people"] (lK K CF (VI []))) (b1:Binds K NO ["self","hall","people"] []) (m1:mg "Floor"=some (.ref CF))
  (G2:MC P w K mg base Yi 6 f2 OL ["floor","point","step","most"] (ku K fW)) (b2:Binds K OL ["floor","point","step","most"] []) (k2:PySem.W.keepIn K (.ref f2)=true) (m2:mg "walk_on"=some (.ref f2)):
  MC P w K mg base Yi 7 f fd jE (Bw K F_walk):=by
 refine F.ok yW (λvs H Q E h=>?_) (λME A outer s H vs Q E hr h=>?_)
 .obtain⟨Hf,ds,s,e,rs,hF,_⟩:=h
  obtain⟨hall,ppl,pt,st,mo,q,d,rfl,_⟩:=Lh hF
  rw[<-rs.length]
  rfl
 .obtain⟨Hf,ds,s',e,rs,hF,kk⟩:=h
  obtain⟨hall,ppl,pt,st,mo,q,d,rfl,hq,hl,hw,rfl⟩:=Lh hF
  refine⟨_,Xo (Gp (Ve (dvs:=[]) (E:=E0) G2 hr.m (by rfl) m2 k2 b2 .nil Kf
   (Qj (L7 (dvs:=[]) (E:=E0) Mk1 G1 hr.m (by rfl) m1 b1 .nil Kf (Qj (Z6 (i:=0) rfl (.inl rfl) (by decide) (by decide)) (Qj (Z6 (i:=1) rfl (.inl rfl) (by decide) (by decide)) Xs rfl) rfl))
   (Qj (Z6 (i:=2) rfl (.inl rfl) (by decide) (by decide)) (Qj (Z6 (i:=3) rfl (.inl rfl) (by decide) (by decide)) (Qj (Z6 (i:=4) rfl (.inl rfl) (by decide) (by decide)) Xs rfl) rfl) rfl) rfl))),?_⟩
  obtain⟨v0,_,rfl,r0,rs⟩:=reps_cons.mp rs
  obtain⟨v1,_,rfl,r1,rs⟩:=reps_cons.mp rs
  obtain⟨v2,_,rfl,r2,rs⟩:=reps_cons.mp rs
  obtain⟨v3,_,rfl,r3,rs⟩:=reps_cons.mp rs
  obtain⟨v4,_,rfl,r4,rs⟩:=reps_cons.mp rs
  cases reps_nil.mp rs
  refine⟨v0,rfl,v1,rfl,λx dx hx ZK hne=>?_⟩
  have sm:Same H (upd (upd H dx (.own x)) x (.ins CF dx [])):=(Qa ZK _).trans (Qa ((Zl hne.symm).trans hx) _)
  refine⟨Hf,x,dx,hall,ppl,q,v0,v1,rfl,e.trans sm,none_of e hx,Zo,r0,r1,hl,hq,λLZ H' k s1 s2 al ba fl hk ck nk=>⟨rfl,v2,rfl,v3,rfl,v4,rfl,?_⟩⟩
  have pD:H k=none:=none_of sm nk
  refine⟨LZ,x,hall,qD q,k,pt,st,mo,d,[v2,v3,v4],0,rfl,s2,fl,hk,⟨[],[],ck,.nil,AO _,λ_ _ _ _ h=>by cases h⟩,by decide,Reps.cons (r2.mono s1) (Reps.cons (r3.mono s1) (Reps.cons (r4.mono s1) Reps.nil)),λa1 a2=>hw x a1 a2,λv' MI H2 gm _ rv=>kk v' MI H2 ⟨s1.trans gm.fz,gm.sub,λb u hb=>?_,λb hb hn=>?_⟩ rv⟩
  .have bx:b≠x:=λz=>by rw[z,hx] at hb;cases hb
   have bk:b≠k:=λz=>by rw[z,pD] at hb;cases hb
   exact gm.all b u bk (al b u bx (sm _ _ hb))
  .obtain⟨o,ho,no⟩:=id hb
   have bx:b≠x:=λz=>by rw[z,hx] at ho;cases ho
   exact gm.ban b ⟨o,al b o bx (sm _ _ ho),no⟩ (ba b (sm.lv hb) hn bx)
end
section
variable {P:Program}{w:World}{K:PySem.W.Frag}{mg:Str->Option Value}{base:Heap}
noncomputable def Wn:List D->M S:=V3 4 6
  (Zw (Z7 4 (Zp Zx 3[0]! (Zd 1)))
   (Zw (Z7 5 (Zp Zx 3[1]! (Zd 0)))
   (Zw (Z7 6 (Z1 Q5 (Zb (Zd 4) (Zb (Zd 5) Zk))))
   (Zw (Z7 4 (Zp Q4 (Zd 4) (Zd 6)))
   (Zw (Z7 5 (Zp Q4 (Zd 5) (Zd 6)))
   (Zw (Z7 7 (Qi (Zb (Qi (Zb (Zp Zx (Zp Zx ↑2 (Zd 0)) (Zd 4)) (Zb ↑1 Zk))) (Zb (Qi (Zb (Zp Zx (Zp Zx ↑2 (Zd 1)) (Zd 5)) (Zb ↑1 Zk))) Zk))))
   (Zw (Z7 8 (Zp Zx ↑2 (Zp Q0 (Kr Kg (Zb (Zd 4) Zk)) (Kr Kg (Zb (Zd 5) Zk)))))
   (Zw (Z7 9 (Z1 F_walk (Zb (Z1 Xh (Zb (Zd 0) (Zb (Zd 1) Zk))) (Zb (X1 Zk) (Zb (Zd 2) (Zb (Zd 7) (Zb (Zd 8) Zk)))))))
   (Zw (Jt (tB (Zp Jx 9[0]! ↑"corner")) (Ni "NoRing" "point" (Zb 9[1]! Zk)) Ys)
   (Qq (Qi (Zb 7[0]! (Zb 7[1]! (Zb (Zd 8) Zk))))))))))))))
def sc_ring:MA ["width","height","point","way","across","upward","divisor","step","count","told"] ["width","height","point","way"] (Zg Em):=⟨rfl,rfl,rfl,by decide +kernel,rfl,by decide +kernel,by decide +kernel⟩
def yV (d:Dm K mg "ring" Em) (MG:Cl P w K mg base 1 "common_divisor" ["one","other"] Q5) (NB:Cl P w K mg base 7 "walk" ["hall","people","point","step","most"] F_walk) (PL:Cl P w K mg base 6 "box" ["width","height"] Xh) (ML:mg "abs"=none) (x_NoRing:Xr P w K mg base "NoRing" "point"):fE P w K mg base 8 "ring" ["width","height","point","way"] Wn:=
 d.clX (by trivial) λ_ _ F=>tX F sc_ring rfl rfl λME A outer s H E hr=>
  (Zi (Zq 4 sc_ring.nd (Zr Z2 (Zv (Zc 3)) (Zc 1)))
   (Zi (Zq 5 sc_ring.nd (Zr Z2 (Zv (Zc 3)) (Zc 0)))
   (Zi (Zq 6 sc_ring.nd (Zu MG hr.m (Za (Zc 4) (Za (Zc 5) Ze))))
   (Zi (Zq 4 sc_ring.nd (Zr Yd (Zc 4) (Zc 6)))
   (Zi (Zq 5 sc_ring.nd (Zr Yd (Zc 5) (Zc 6)))
   (Zi (Zq 7 sc_ring.nd (Z4 (Za (Z4 (Za (Zr Z2 (Zr Z2 Zj (Zc 0)) (Zc 4)) (Za Zj Ze))) (Za (Z4 (Za (Zr Z2 (Zr Z2 Zj (Zc 1)) (Zc 5)) (Za Zj Ze))) Ze))))
   (Zi (Zq 8 sc_ring.nd (Zr Z2 Zj (Zr Xf (Qx Vg (by rfl) ML (by rfl) (Za (Zc 4) Ze)) (Qx Vg (by rfl) ML (by rfl) (Za (Zc 5) Ze)))))
   (Zi (Zq 9 sc_ring.nd (Zu NB hr.m (Za (Zu PL hr.m (Za (Zc 0) (Za (Zc 1) Ze))) (Za (Xt Ze) (Za (Zc 2) (Za (Zc 7) (Za (Zc 8) Ze)))))))
   (Zi (Qm (Zz (Yo hr.units) (Zv (Zc 9)) Qb (Z0 _)) (Zm (Ek x_NoRing wV rfl hr.m (Za (Zv (Zc 9)) Ze))) Qc)
   (Zm (Zs (Z4 (Za (Zv (Zc 7)) (Za (Zv (Zc 7)) (Za (Zc 8) Ze)))))))))))))))
noncomputable def Xd:List D->M S:=V3 2 0
  (Qq (Zp Tz (Zp Q0 (Ag (Zd 0) (Jb (Zd 1)) (Jb (Zp Q0 (Zd 1) ↑1))) (X1 (Zb ↑0 Zk))) ↑0))
def O9:MA ["_law_script","_law_k"] ["_law_script","_law_k"] (Zg Si):=⟨rfl,rfl,rfl,by decide +kernel,rfl,by decide +kernel,by decide +kernel⟩
def Zaa (d:Dm K mg "_law_cell" Si)  : Cl P w K mg base 1 "_law_cell" ["_law_script","_law_k"] Xd:=
 d.cl (by trivial) λ_ _ F=>Jz F O9 rfl rfl λME A outer s H E hr=>
  (Zm (Zs (Zv (Zr Xf (Xl (Zc 0) (Y9 (Zc 1)) (Y9 (Zr Xf (Zc 1) Zj))) (Xt (Za Zj Ze))))))
noncomputable def Jr:List D->M S:=V3 2 4
  (Zw (Du 2 (Dt Zk))
   (Zw (Z7 3 (Zp Yk (Zp Zx (Zp Q0 (Zp Yk (Zd 0) ↑1999999973) ↑31) ↑765432101) ↑1999999973))
   (Zw (Z7 4 ↑0)
   (Zw (Jt (tO (tB (Zp XR (Zd 0) ↑0)) (tB (Zp cK (Zd 0) (Zp ez ↑10 ↑18)))) (Z7 4 (Kr Kg (Zb (Zd 0) Zk))) Ys)
   (Zw (Pm (Vj (Zb (Zd 1) Zk)) (Ut 5) (Zw (Z7 3 (Zp Yk (Zp Q0 (Zp Q0 (Zp Zx (Zd 3) (Zp Q0 (Zp Yk (Zd 3) ↑65521) ↑40487)) (Zp Zx ↑7 (Zd 5))) ↑5) ↑1999999973))
   (Zw (Ua 2 (Zp Tz (X1 (Zb (Zd 3) (Zb (Zp Yk (Zd 4) ↑1000000) Zk))) (Kr Oh (Zb (Zp S5 (Zd 4) ↑0) Zk))))
   (Z7 4 (Zp Q4 (Zd 4) ↑1000000)))))
   (jG 2))))))
def sc_l_numbers:MA ["_law_cell_here","_law_many","_law_found","_law_number","_law_digits","_law_k"] ["_law_cell_here","_law_many"] (Zg Ug):=⟨rfl,rfl,rfl,by decide +kernel,rfl,by decide +kernel,by decide +kernel⟩
def Bf (d:Dm K mg "_law_numbers" Ug) (ML:mg "abs"=none) (MU:mg "range"=none) (NZ:mg "int"=none):Cl P w K mg base 1 "_law_numbers" ["_law_cell_here","_law_many"] Jr:=
 d.cl (by trivial) λ_ _ F=>Jz F sc_l_numbers rfl rfl λME A outer s H E hr=>
  (Zi (W2 2 sc_l_numbers.nd (W1 Ze))
   (Zi (Zq 3 sc_l_numbers.nd (Zr Xk (Zr Z2 (Zr Xf (Zr Xk (Zc 0) Zj) Zj) Zj) Zj))
   (Zi (Zq 4 sc_l_numbers.nd Zj)
   (Zi (Qm ((Wb (Zz jH (Zc 0) Zj (Z0 _)) (Vh (Zz uo (Zc 0) (Zr wx Zj Zj) (Z0 _))))).pt (Zm (Zq 4 sc_l_numbers.nd (Qx Vg (by rfl) ML (by rfl) (Za (Zc 0) Ze)))) Qc)
   (Zi (Kv CM rfl (We (by rfl) MU (Za (Zc 1) Ze)) (Qr 5 sc_l_numbers.nd) (Zi (Zq 3 sc_l_numbers.nd (Zr Xk (Zr Xf (Zr Xf (Zr Z2 (Zc 3) (Zr Xf (Zr Xk (Zc 3) Zj) Zj)) (Zr Z2 Zj (Zc 5))) Zj) Zj))
   (Zi (Kw 2 (Aa (Xt (Za (Zc 3) (Za (Zr Xk (Zc 4) Zj) Ze))) (V8 wu (by rfl) NZ (by rfl) (Za (Je Ty (Zc 4) Zj (Z0 _)) Ze)) (λ_ _=>rfl)))
   (Zm (Zq 4 sc_l_numbers.nd (Zr Yd (Zc 4) Zj))))))
   (Zm (Zbr 2)))))))
noncomputable def K3:List D->M S:=V3 2 2
  (Zw (eM (Kr Wz (Zb (X1 (Zb (Kr Kg (Zb (Zd 0) Zk)) (Zb (Kr Kg (Zb (Zd 1) Zk)) Zk))) Zk)) (U6 2 (Yn (Ut 2) (Yn (Ut 3) Wv))))
   (Zw (Gy (tB (Zp S5 (Zd 2) ↑0)) (cT 2 3 (Zb (Zp Yk (Zd 3) (Zd 2)) (Zb (Zd 2) Zk))))
   (Qq (Zd 3))))
def sc_l_gcd:MA ["_law_one","_law_other","_law_low","_law_high"] ["_law_one","_law_other"] (Zg Mz):=⟨rfl,rfl,rfl,by decide +kernel,rfl,by decide +kernel,by decide +kernel⟩
def Zc9 (d:Dm K mg "_law_gcd" Mz) (ML:mg "abs"=none) (MQ:mg "sorted"=none):Cl P w K mg base 1 "_law_gcd" ["_law_one","_law_other"] K3:=
 d.cl (by trivial) λ_ _ F=>Jz F sc_l_gcd rfl rfl λME A outer s H E hr=>
  (Zi (zI (Qx Om (by rfl) MQ (by rfl) (Za (Xt (Za (Qx Vg (by rfl) ML (by rfl) (Za (Zc 0) Ze)) (Za (Qx Vg (by rfl) ML (by rfl) (Za (Zc 1) Ze)) Ze))) Ze)) (Ww rfl (Yb (Qr 2 sc_l_gcd.nd) (Yb (Qr 3 sc_l_gcd.nd) V9))))
   (Zi (T2 CM (Zz Ty (Zc 2) Zj (Z0 _)) (Zm (zH 2 3 rfl sc_l_gcd.nd (Za (Zr Xk (Zc 3) (Zc 2)) (Za (Zc 2) Ze)) (by rfl))))
   (Zm (Zs (Zc 3)))))
noncomputable def Yy:List D->M S:=V3 2 1
  (Zw (Z7 2 (Z1 K3 (Zb (Zd 0) (Zb (Zd 1) Zk))))
   (Qq (Qi (Zb (Zp Q4 (Zd 0) (Zd 2)) (Zb (Zp Q4 (Zd 1) (Zd 2)) Zk)))))
def sc_l_lowest:MA ["_law_top","_law_bottom","_law_common"] ["_law_top","_law_bottom"] (Zg Wl):=⟨rfl,rfl,rfl,by decide +kernel,rfl,by decide +kernel,by decide +kernel⟩
def Cf (d:Dm K mg "_law_lowest" Wl) (NL:Cl P w K mg base 1 "_law_gcd" ["_law_one","_law_other"] K3):Cl P w K mg base 2 "_law_lowest" ["_law_top","_law_bottom"] Yy:=
 d.cl (by trivial) λ_ _ F=>Jz F sc_l_lowest rfl rfl λME A outer s H E hr=>
  (Zi (Zq 2 sc_l_lowest.nd (Zu NL hr.m (Za (Zc 0) (Za (Zc 1) Ze))))
   (Zm (Zs (Z4 (Za (Zr Yd (Zc 0) (Zc 2)) (Za (Zr Yd (Zc 1) (Zc 2)) Ze))))))
noncomputable def U0:List D->M S:=V3 3 6
  (Zw (Du 3 (Dt Zk))
   (Zw (Pm (W0 (X1 (Zb (Qi (Zb 0[0]! (Zb 0[1]! (Zb (Zd 1) Zk)))) (Zb (Qi (Zb 0[2]! (Zb 0[3]! (Zb (Zd 2) Zk)))) Zk)))) (U6 3 (Yn (Ut 4) (Yn (Ut 5) (Yn (Ut 6) Wv)))) (Zw (Z7 7 (Zp Q0 ↑2 (Zp Yk (Zd 4) (Zp Tz (X1 (Zb ↑11 (Zb ↑999 Zk))) (Zp Q4 (Zp Yk (Zd 5) ↑8) ↑7)))))
   (Zw (Z7 8 (Zp Q0 (Zp Yk (Zp Q4 (Zd 5) ↑8) (Zp Ko (Zp Zx (Zd 6) (Zd 7)) ↑1)) ↑1))
   (Zw (Jt (tB (Zp Jx (Zp Yk (Zd 8) (Zd 7)) ↑0)) (Z7 8 (Zp Ko (Zd 8) ↑1)) Ys)
   (Ua 3 (Z1 Yy (Zb (Zd 8) (Zb (Zd 7) Zk))))))))
   (Ml 3 (Qq (Kr Gw (Zb (Zd 3) Zk))))))
def sc_l_point:MA ["_law_xs","_law_width","_law_height","_law_found","_law_x","_law_y","_law_end","_law_bottom","_law_top"] ["_law_xs","_law_width","_law_height"] (Zg Nq):=⟨rfl,rfl,rfl,by decide +kernel,rfl,by decide +kernel,by decide +kernel⟩
def Ex (d:Dm K mg "_law_point" Nq) (MP:Cl P w K mg base 2 "_law_lowest" ["_law_top","_law_bottom"] Yy) (MJ:mg "tuple"=none):Cl P w K mg base 3 "_law_point" ["_law_xs","_law_width","_law_height"] U0:=
 d.cl (by trivial) λ_ _ F=>Jz F sc_l_point rfl rfl λME A outer s H E hr=>
  (Zi (W2 3 sc_l_point.nd (W1 Ze))
   (Zi (Kv CM rfl (Uu (Xt (Za (Z4 (Za (Zv (Zc 0)) (Za (Zv (Zc 0)) (Za (Zc 1) Ze)))) (Za (Z4 (Za (Zv (Zc 0)) (Za (Zv (Zc 0)) (Za (Zc 2) Ze)))) Ze)))) (Ww rfl (Yb (Qr 4 sc_l_point.nd) (Yb (Qr 5 sc_l_point.nd) (Yb (Qr 6 sc_l_point.nd) V9)))) (Zi (Zq 7 sc_l_point.nd (Zr Xf Zj (Zr Xk (Zc 4) (Aa (Xt (Za Zj (Za Zj Ze))) (Zr Yd (Zr Xk (Zc 5) Zj) Zj) (λ_ _=>rfl)))))
   (Zi (Zq 8 sc_l_point.nd (Zr Xf (Zr Xk (Zr Yd (Zc 5) Zj) (Zr X0 (Zr Z2 (Zc 6) (Zc 7)) Zj)) Zj))
   (Zi (Qm (Zz (Yo hr.units) (Zr Xk (Zc 8) (Zc 7)) Zj (Z0 _)) (Zm (Zq 8 sc_l_point.nd (Zr X0 (Zc 8) Zj))) Qc)
   (Zm (Kw 3 (Zu MP hr.m (Za (Zc 8) (Za (Zc 7) Ze)))))))))
   (W3 3 (Zm (Zs (V8 Wr (by rfl) MJ (by rfl) (Za (Zc 3) Ze)))))))
noncomputable def Pz:List D->M S:=V3 1 3
  (Zw (Z7 1 (Zp Ko (Zp Yk 0[0]! ↑13) ↑6))
   (Zw (Z7 2 (Zp Ko (Zp Yk 0[1]! ↑13) ↑6))
   (Zw (Jt (tA (tB (Zp Jx (Zd 1) ↑0)) (tB (Zp Jx (Zd 2) ↑0))) (Z7 2 ↑1) Ys)
   (Zw (Z7 3 (Z1 K3 (Zb (Zd 1) (Zb (Zd 2) Zk))))
   (Qq (Qi (Zb (Zp Q4 (Zd 1) (Zd 3)) (Zb (Zp Q4 (Zd 2) (Zd 3)) Zk))))))))
def sc_l_way:MA ["_law_xs","_law_p","_law_q","_law_both"] ["_law_xs"] (Zg M0):=⟨rfl,rfl,rfl,by decide +kernel,rfl,by decide +kernel,by decide +kernel⟩
def Zda (d:Dm K mg "_law_way" M0) (NL:Cl P w K mg base 1 "_law_gcd" ["_law_one","_law_other"] K3):Cl P w K mg base 2 "_law_way" ["_law_xs"] Pz:=
 d.cl (by trivial) λ_ _ F=>Jz F sc_l_way rfl rfl λME A outer s H E hr=>
  (Zi (Zq 1 sc_l_way.nd (Zr X0 (Zr Xk (Zv (Zc 0)) Zj) Zj))
   (Zi (Zq 2 sc_l_way.nd (Zr X0 (Zr Xk (Zv (Zc 0)) Zj) Zj))
   (Zi (Qm ((Wt (Zz (Yo hr.units) (Zc 1) Zj (Z0 _)) (Ws (Zz (Yo hr.units) (Zc 2) Zj (Z0 _))))).pt (Zm (Zq 2 sc_l_way.nd Zj)) Qc)
   (Zi (Zq 3 sc_l_way.nd (Zu NL hr.m (Za (Zc 1) (Za (Zc 2) Ze))))
   (Zm (Zs (Z4 (Za (Zr Yd (Zc 1) (Zc 3)) (Za (Zr Yd (Zc 2) (Zc 3)) Ze)))))))))
noncomputable def K4:List D->M S:=V3 3 0
  (Qq (YM (Zp Fq 0[0]! (X1 (Zb (Qi (Zb ↑0 (Zb ↑1 Zk))) (Zb (Qi (Zb (Zd 1) (Zb ↑1 Zk))) Zk)))) (Zp Fq 0[1]! (X1 (Zb (Qi (Zb ↑0 (Zb ↑1 Zk))) (Zb (Qi (Zb (Zd 2) (Zb ↑1 Zk))) Zk))))))
def Bg:MA ["_law_point_here","_law_width","_law_height"] ["_law_point_here","_law_width","_law_height"] (Zg Uh):=⟨rfl,rfl,rfl,by decide +kernel,rfl,by decide +kernel,by decide +kernel⟩
def Bh (d:Dm K mg "_law_on_side" Uh)  : Cl P w K mg base 1 "_law_on_side" ["_law_point_here","_law_width","_law_height"] K4:=
 d.cl (by trivial) λ_ _ F=>Jz F Bg rfl rfl λME A outer s H E hr=>
  (Zm (Zs (mG (Je (Ai (by exact hr.units)) (Zv (Zc 0)) (Xt (Za (Z4 (Za Zj (Za Zj Ze))) (Za (Z4 (Za (Zc 1) (Za Zj Ze))) Ze))) (by with_unfolding_all rfl)) (Gx (Je (Ai (by exact hr.units)) (Zv (Zc 0)) (Xt (Za (Z4 (Za Zj (Za Zj Ze))) (Za (Z4 (Za (Zc 2) (Za Zj Ze))) Ze))) (by with_unfolding_all rfl))))))
noncomputable def Ul:List D->M S:=V3 3 0
  (Qq (Kr Gw (Zb (Dr (Rw (W0 (Zd 0)) 1 [1,2] (Ut 0) (Z1 Yy (Zb (Zp Zx 0[0]! (Zd 1)) (Zb (Zp Zx 0[1]! (Zd 2)) Zk))))) Zk)))
def Zab:MA ["_law_step","_law_top","_law_bottom"] ["_law_step","_law_top","_law_bottom"] (Zg Vb):=⟨rfl,rfl,rfl,by decide +kernel,rfl,by decide +kernel,by decide +kernel⟩
def Zac (d:Dm K mg "_law_part" Vb) (MP:Cl P w K mg base 2 "_law_lowest" ["_law_top","_law_bottom"] Yy) (MJ:mg "tuple"=none):Cl P w K mg base 3 "_law_part" ["_law_step","_law_top","_law_bottom"] Ul:=
 d.cl (by trivial) λ_ _ F=>Jz F Zab rfl rfl λME A outer s H E hr=>
  (Zm (Zs (V8 Wr (by rfl) MJ (by rfl) (Za (Ds (Rx (Nc:=["_law_part_here","_law_top","_law_bottom"]) rfl (Wf (λy hy hf=>Jm (Mn (sc:=Zg Vb) (by decide +kernel) y hy hf))) (ib (sc:=Zg Vb) rfl rfl (by decide +kernel) (Mn (by decide +kernel)) (λy hy hf=>Jm (Mn (sc:=Zg Vb) (by decide +kernel) y hy hf)) rfl (Mo (N:=["_law_step","_law_top","_law_bottom"]) rfl (by decide +kernel))) rfl (by decide +kernel) (by decide +kernel) (Nb (by decide)) (Uu (Zc 0)) (λs3 H3 C ex=>Qr 0 (show(["_law_part_here","_law_top","_law_bottom"]:List Str).Nodup by decide +kernel)) (λs3 H3 C ex=>by exact(Zu MP hr.m (Za (Zr Z2 (Zv (Zc 0)) (Zc 1)) (Za (Zr Z2 (Zv (Zc 0)) (Zc 2)) Ze)))))) Ze))))
noncomputable def Li:List D->M S:=V3 1 14
  (Zw (Z7 1 (Zp Q0 ↑1 (Zp Yk (Z1 Xd (Zb (Zd 0) (Zb ↑0 Zk))) ↑4)))
   (Zw (Z7 2 (Zp Q0 ↑1 (Zp Yk (Zp Q4 (Z1 Xd (Zb (Zd 0) (Zb ↑0 Zk))) ↑4) ↑4)))
   (Zw (Z7 3 (Z1 Jr (Zb (Z1 Xd (Zb (Zd 0) (Zb ↑1 Zk))) (Zb ↑4 Zk))))
   (Zw (Z7 4 (Z1 U0 (Zb (X1 (Zb 3[0]! (Zb (Zp Zx (Zp Q4 3[1]! ↑8) ↑8) (Zb 3[2]! (Zb (Zp Zx (Zp Q4 3[3]! ↑8) ↑8) Zk))))) (Zb (Zd 1) (Zb (Zd 2) Zk)))))
   (Zw (Z7 5 (Z1 Pz (Zb (Z1 Jr (Zb (Z1 Xd (Zb (Zd 0) (Zb ↑2 Zk))) (Zb ↑2 Zk))) Zk)))
   (Zw (Z7 6 (Z1 Xh (Zb (Zd 1) (Zb (Zd 2) Zk))))
   (Zw (Z7 7 (eC .non))
   (Zw (Gb Wn (Zb (Zd 1) (Zb (Zd 2) (Zb (Zd 4) (Zb (Zd 5) Zk)))) (U6 3 (Yn (Ut 8) (Yn (Ut 9) (Yn (Ut 10) Wv)))) 11 ["NoRing"] (Z7 7 (Fy 11 ["NoRing"] "point")))
   (Zw (Jt (tB (Zp Jj (Zd 7) (eC .non))) (Zw (Z7 12 (Qi (Zb (Qi (Zb (Zp Zx (Zp Zx (Zp Zx ↑2 (Zd 1)) (Zd 2)) 5[0]!) (Zb ↑1 Zk))) (Zb (Qi (Zb (Zp Zx (Zp Zx (Zp Zx ↑2 (Zd 1)) (Zd 2)) 5[1]!) (Zb ↑1 Zk))) Zk))))
   (Qq (Zp Jx (Ag (Z1 F_walk (Zb (Zd 6) (Zb (X1 Zk) (Zb (Zd 4) (Zb (Zd 12) (Zb ↑1000 Zk)))))) Ku (Jb ↑2)) (Qi (Zb ↑"corner" (Zb (Zd 7) Zk)))))) Ys)
   (Zw (Z7 13 (Z1 F_walk (Zb (Zd 6) (Zb (X1 Zk) (Zb (Zd 4) (Zb (Qi (Zb (Zd 8) (Zb (Zd 9) Zk))) (Zb (Zd 10) Zk)))))))
   (Zw (Jt (tO (tB (Zp Rr (Ag (Zd 13) Ku (Jb ↑2)) (Qi (Zb ↑"end" (Zb (Zd 4) Zk))))) (tB (Zp Rr (Kr Oi (Zb 13[2]! Zk)) (Zd 10)))) (Qq (eC (.bl false))) Ys)
   (Zw (Jt (tN (tB (Kr cS (Zb (Dr (Rw (W0 13[2]!) 1 [1,2] (Ut 0) (Z1 K4 (Zb (Zd 0) (Zb (Zd 1) (Zb (Zd 2) Zk)))))) Zk)))) (Qq (eC (.bl false))) Ys)
   (Zw (Jt (tB (Zp Rr (Zp Tz (Z1 F_walk (Zb (Zd 6) (Zb (X1 Zk) (Zb (Zd 4) (Zb (Qi (Zb (Zd 8) (Zb (Zd 9) Zk))) (Zb (Zp Ko (Zd 10) ↑1) Zk)))))) ↑0) ↑"many")) (Qq (eC (.bl false))) Ys)
   (Zw (Z7 14 (Z1 F_walk (Zb (Zd 6) (Zb (X1 Zk) (Zb (Zd 4) (Zb (Z1 Ul (Zb (Qi (Zb (Zd 8) (Zb (Zd 9) Zk))) (Zb ↑3 (Zb ↑2 Zk)))) (Zb (Zp Zx ↑3 (Zd 10)) Zk)))))))
   (Qq (Zp Jx (Ag (Zd 14) Ku (Jb ↑2)) (Ag (Z1 F_walk (Zb (Zd 6) (Zb (X1 Zk) (Zb (Zd 4) (Zb (Z1 Ul (Zb (Qi (Zb (Zd 8) (Zb (Zd 9) Zk))) (Zb ↑1 (Zb ↑2 Zk)))) (Zb (Zd 10) Zk)))))) Ku (Jb ↑2))))))))))))))))))
def sc_law:MA ["_law_script","_law_width","_law_height","_law_xs","_law_point_here","_law_way_here","_law_hall","_law_corner","_law_dx","_law_dy","_law_count","e","_law_far","_law_found","_law_more"] ["_law_script"] (Zg Gc):=⟨rfl,rfl,rfl,by decide +kernel,rfl,by decide +kernel,by decide +kernel⟩
def vw {f:Addr}{fd:FuncData} (F:Fun K "law" "law" Gc f fd) (NG:Cl P w K mg base 1 "_law_cell" ["_law_script","_law_k"] Xd) (MX:Cl P w K mg base 1 "_law_numbers" ["_law_cell_here","_law_many"] Jr) (NV:Cl P w K mg base 3 "_law_point" ["_law_xs","_law_width","_law_height"] U0) (QB:Cl P w K mg base 2 "_law_way" ["_law_xs"] Pz) (PL:Cl P w K mg base 6 "box" ["width","height"] Xh) (SK:fE P w K mg base 8 "ring" ["width","height","point","way"] Wn) (NB:Cl P w K mg base 7 "walk" ["hall","people","point","step","most"] F_walk) (NJ:Cl P w K mg base 1 "_law_on_side" ["_law_point_here","_law_width","_law_height"] K4) (NQ:Cl P w K mg base 3 "_law_part" ["_law_step","_law_top","_law_bottom"] Ul) (NY:mg "len"=none) (QK:mg "all"=none) (x_NoRing:Xr P w K mg base "NoRing" "point"):MC P w K mg base Yi 9 f fd ["_law_script"] (Bw K Li):=
 Jz F sc_law rfl rfl λME A outer s H E hr=>
  (Zi (Zq 1 sc_law.nd (Zr Xf Zj (Zr Xk (Zu NG hr.m (Za (Zc 0) (Za Zj Ze))) Zj)))
   (Zi (Zq 2 sc_law.nd (Zr Xf Zj (Zr Xk (Zr Yd (Zu NG hr.m (Za (Zc 0) (Za Zj Ze))) Zj) Zj)))
   (Zi (Zq 3 sc_law.nd (Zu MX hr.m (Za (Zu NG hr.m (Za (Zc 0) (Za Zj Ze))) (Za Zj Ze))))
   (Zi (Zq 4 sc_law.nd (Zu NV hr.m (Za (Xt (Za (Zv (Zc 3)) (Za (Zr Z2 (Zr Yd (Zv (Zc 3)) Zj) Zj) (Za (Zv (Zc 3)) (Za (Zr Z2 (Zr Yd (Zv (Zc 3)) Zj) Zj) Ze))))) (Za (Zc 1) (Za (Zc 2) Ze)))))
   (Zi (Zq 5 sc_law.nd (Zu QB hr.m (Za (Zu MX hr.m (Za (Zu NG hr.m (Za (Zc 0) (Za Zj Ze))) (Za Zj Ze))) Ze)))
   (Zi (Zq 6 sc_law.nd (Zu PL hr.m (Za (Zc 1) (Za (Zc 2) Ze))))
   (Zi (Zq 7 sc_law.nd Y8)
   (Zi (O6 SK x_NoRing hr.m (Za (Zc 1) (Za (Zc 2) (Za (Zc 4) (Za (Zc 5) Ze)))) (Ww rfl (Yb (Qr 8 sc_law.nd) (Yb (Qr 9 sc_law.nd) (Yb (Qr 10 sc_law.nd) V9)))) sc_law.nd (λe=>(Zm (Zq 7 sc_law.nd (Zcz x_NoRing 11)))))
   (Zi (Qm (Zz Uv (Zc 7) Y8 (Z0 _)) (Zi (Zq 12 sc_law.nd (Z4 (Za (Z4 (Za (Zr Z2 (Zr Z2 (Zr Z2 Zj (Zc 1)) (Zc 2)) (Zv (Zc 5))) (Za Zj Ze))) (Za (Z4 (Za (Zr Z2 (Zr Z2 (Zr Z2 Zj (Zc 1)) (Zc 2)) (Zv (Zc 5))) (Za Zj Ze))) Ze))))
   (Zm (Zs (Je (Yo hr.units) (Xl (Zu NB hr.m (Za (Zc 6) (Za (Xt Ze) (Za (Zc 4) (Za (Zc 12) (Za Zj Ze)))))) X4 (Y9 Zj)) (Z4 (Za Qb (Za (Zc 7) Ze))) (Z0 _))))) Qc)
   (Zi (Zq 13 sc_law.nd (Zu NB hr.m (Za (Zc 6) (Za (Xt Ze) (Za (Zc 4) (Za (Z4 (Za (Zc 8) (Za (Zc 9) Ze))) (Za (Zc 10) Ze)))))))
   (Zi (Qm ((Wb (Zz (Rs hr.units) (Xl (Zc 13) X4 (Y9 Zj)) (Z4 (Za Qb (Za (Zc 4) Ze))) (Z0 _)) (Vh (Zz (Rs hr.units) (Qx nh (by rfl) NY (by rfl) (Za (Zv (Zc 13)) Ze)) (Zc 10) (Z0 _))))).pt (Zm (Zs U5)) Qc)
   (Zi (Qm (Ks (Xe (Qx (wj rfl) (by rfl) QK (by rfl) (Za (Ds (Rx (Nc:=["_law_turn","_law_width","_law_height"]) rfl (Wf (λy hy hf=>Jm (Mn (sc:=Zg Gc) (by decide +kernel) y hy hf))) (ib (sc:=Zg Gc) rfl rfl (by decide +kernel) (Mn (by decide +kernel)) (λy hy hf=>Jm (Mn (sc:=Zg Gc) (by decide +kernel) y hy hf)) rfl (Mo (N:=["_law_script","_law_width","_law_height","_law_xs","_law_point_here","_law_way_here","_law_hall","_law_corner","_law_dx","_law_dy","_law_count","e","_law_far","_law_found","_law_more"]) rfl (by decide +kernel))) rfl (by decide +kernel) (by decide +kernel) (Nb (by decide)) (Uu (Zv (Zc 13))) (λs3 H3 C ex=>Qr 0 (show(["_law_turn","_law_width","_law_height"]:List Str).Nodup by decide +kernel)) (λs3 H3 C ex=>by exact(Zu NJ hr.m (Za (Zc 0) (Za (Zc 1) (Za (Zc 2) Ze))))))) Ze)))) (Zm (Zs U5)) Qc)
   (Zi (Qm (Zz (Rs hr.units) (Zv (Zu NB hr.m (Za (Zc 6) (Za (Xt Ze) (Za (Zc 4) (Za (Z4 (Za (Zc 8) (Za (Zc 9) Ze))) (Za (Zr X0 (Zc 10) Zj) Ze))))))) Qb (Z0 _)) (Zm (Zs U5)) Qc)
   (Zi (Zq 14 sc_law.nd (Zu NB hr.m (Za (Zc 6) (Za (Xt Ze) (Za (Zc 4) (Za (Zu NQ hr.m (Za (Z4 (Za (Zc 8) (Za (Zc 9) Ze))) (Za Zj (Za Zj Ze)))) (Za (Zr Z2 Zj (Zc 10)) Ze)))))))
   (Zm (Zs (Je (Yo hr.units) (Xl (Zc 14) X4 (Y9 Zj)) (Xl (Zu NB hr.m (Za (Zc 6) (Za (Xt Ze) (Za (Zc 4) (Za (Zu NQ hr.m (Za (Z4 (Za (Zc 8) (Za (Zc 9) Ze))) (Za Zj (Za Zj Ze)))) (Za (Zc 10) Ze)))))) X4 (Y9 Zj)) (Z0 _))))))))))))))))))
end
def all_mk {l:PySem.W.OpenLaw}{w:World}{K:PySem.W.Frag}{h:Heap}{mg:Str->Option Value}{fa:Addr}(X:K.In h)(G:h.Ns mainGlobals mg) (hfa:mg "law"=some (.ref fa))
  (NU:Dm K mg "common_divisor" Jf)
  (VF:Dm K mg "amount" Sh)
  (XE:Dm K mg "below" Mx)
  (SJ:Dm K mg "is_whole" Wj)
  (QA:Dm K mg "is_from_to" Vo)
  (TN:Dm K mg "is_edge" Nm)
  (OS:Dm K mg "outward_face" Kl)
  (TM:Dm K mg "is_side" Nn)
  (TQ:Dm K mg "checked" No)
  (XD:Dm K mg "faces" My)
  (RM:Dm K mg "is_corner" Xv)
  (cA:Dm K mg "box" jF)
  (RJ:Dm K mg "square_of" Ue)
  (OI:Dm K mg "whole_time_of" Ju)
  (d_time_to:Dm K mg "time_to" Np)
  (d_person_ahead:Dm K mg "person_ahead" Km)
  (d_face_ahead:Dm K mg "face_ahead" Vp)
  (d_thing_at:Dm K mg "thing_at" Wk)
  (PD:Dm K mg "how_it_ends" K7)
  (d_pass_line:Dm K mg "pass_line" Uf)
  (d_walk_on:Dm K mg "walk_on" Qu)
  (d_walk:Dm K mg "walk" El)
  (ZX:Dm K mg "ring" Em)
  (VE:Dm K mg "_law_cell" Si)
  (RL:Dm K mg "_law_numbers" Ug)
  (XB:Dm K mg "_law_gcd" Mz)
  (SI:Dm K mg "_law_lowest" Wl)
  (TL:Dm K mg "_law_point" Nq)
  (XA:Dm K mg "_law_way" M0)
  (RK:Dm K mg "_law_on_side" Uh)
  (VD:Dm K mg "_law_part" Vb)
  (d_law:Dm K mg "law" Gc)
  {MK MF:Addr}
  (QM:PySem.W.nsIn K mainGlobals "Floor"=some (some (.ref MK)))
  (QL:PySem.W.nsIn K mainGlobals "Track"=some (some (.ref MF)))
  (e_Floor_init:Mm K MK "__init__" "Floor.__init__" Ka)
  (e_people_at:Mm K MK "people_at" "Floor.people_at" Ui)
  (e_faces_at:Mm K MK "faces_at" "Floor.faces_at" Vq)
  (e_Track_init:Mm K MF "__init__" "Track.__init__" Vr)
  (e_line_ahead:Mm K MF "line_ahead" "Track.line_ahead" Vs)
  (e_place_at:Mm K MF "place_at" "Track.place_at" Wm)
  (e_time_at:Mm K MF "time_at" "Track.time_at" Nr)
  (e_go_on:Mm K MF "go_on" "Track.go_on" M1)
  (e_turn_back:Mm K MF "turn_back" "Track.turn_back" Uj)
  (UP:PySem.W.plainGet K MK Str.empty=true) (UN:PySem.W.hasDictIn K MK=true) (UJ:PySem.W.plainOver K MK=true) (UF:PySem.W.findIn K (.ref MK) "__setattr__"=some (some (.builtin "object.__setattr__"))) (UL:PySem.W.makesIn K MK=true) (UH:PySem.W.keepIn K (.ref MK)=true)
  (MY:PySem.W.findIn K (.ref MK) "hall"=some none)
  (MS:PySem.W.findIn K (.ref MK) "known_faces"=some none)
  (MW:PySem.W.findIn K (.ref MK) "by_square"=some none)
  (UO:PySem.W.plainGet K MF Str.empty=true) (UM:PySem.W.hasDictIn K MF=true) (UI:PySem.W.plainOver K MF=true) (UE:PySem.W.findIn K (.ref MF) "__setattr__"=some (some (.builtin "object.__setattr__"))) (UK:PySem.W.makesIn K MF=true) (UG:PySem.W.keepIn K (.ref MF)=true)
  (ON:PySem.W.findIn K (.ref MF) "begin"=some none)
  (OE:PySem.W.findIn K (.ref MF) "square"=some none)
  (NS:PySem.W.findIn K (.ref MF) "heading"=some none)
  (PP:PySem.W.findIn K (.ref MF) "due"=some none)
  (PN:PySem.W.findIn K (.ref MF) "lap"=some none)
  (x_NoRing:Xm K mg "NoRing" "point" "NoRing.__init__" Lg)
  (ML:PySem.W.nsIn K mainGlobals "abs"=some none)
  (MM:PySem.W.nsIn K mainGlobals "isinstance"=some none)
  (NZ:PySem.W.nsIn K mainGlobals "int"=some none)
  (OM:PySem.W.nsIn K mainGlobals "bool"=some none)
  (MR:PySem.W.nsIn K mainGlobals "enumerate"=some none)
  (MQ:PySem.W.nsIn K mainGlobals "sorted"=some none)
  (MJ:PySem.W.nsIn K mainGlobals "tuple"=some none)
  (QJ:PySem.W.nsIn K mainGlobals "any"=some none)
  (MU:PySem.W.nsIn K mainGlobals "range"=some none)
  (QG:PySem.W.nsIn K mainGlobals "zip"=some none)
  (QI:PySem.W.nsIn K mainGlobals "max"=some none)
  (QH:PySem.W.nsIn K mainGlobals "min"=some none)
  (NY:PySem.W.nsIn K mainGlobals "len"=some none)
  (QK:PySem.W.nsIn K mainGlobals "all"=some none)
  {MO:Tok} (NR:PySem.W.nsIn K mainGlobals "GREATEST_SIZE"=some (some (.int 8 MO)))
  {NK:Addr} (UC:PySem.W.nsIn K mainGlobals "FACES"=some (some (.ref NK))) (UD:cQ K NK [V.str (Str.ofString "m"),V.str (Str.ofString "p")]=true)
  : ∃fd:FuncData,(∀(s:Shared) (v:Value),BindsTo s fd ⟨[v],[]⟩ [("_law_script", v)])/\∀base:Heap,K.In base->base.Ns mainGlobals mg->MC l.prog w K mg base Yi 9 fa fd ["_law_script"] (Bw K Li):=by
 obtain⟨_,fdL,FL,mL⟩:=d_law.ex
 obtain⟨oc,od,kV,dc,pm,an,cd,ct,sl,rfl,lk,MV⟩:=FL.ex
 cases hfa.symm.trans mL
 refine⟨PySem.W.fnOf "law" "law" (Xz Gc) (Qz Gc) (Zg Gc) .none kV dc pm an cd ct,λs v=>.of_eq rfl,λbase _ _=>?_⟩
 have ML:=BR X G ML
 have MM:=BR X G MM
 have NZ:=BR X G NZ
 have OM:=BR X G OM
 have MR:=BR X G MR
 have MQ:=BR X G MQ
 have MJ:=BR X G MJ
 have QJ:=BR X G QJ
 have MU:=BR X G MU
 have QG:=BR X G QG
 have QI:=BR X G QI
 have QH:=BR X G QH
 have NY:=BR X G NY
 have QK:=BR X G QK
 have QQ:=x_NoRing.xr (P:=l.prog) (w:=w) (base:=base) En rfl (by trivial) (.inl rfl) (.inl rfl)
 have MG:=Gd (P:=l.prog) (w:=w) (base:=base) NU ML
 have c_amount:=O7 VF MG
 have c_below:=Zc2 (P:=l.prog) (w:=w) (base:=base) XE
 have NP:=A8 (P:=l.prog) (w:=w) (base:=base) SJ MM NZ OM
 have MD:=Ta QA NP
 have NX:=Ep TN MD
 have MH:=Pr (P:=l.prog) (w:=w) (base:=base) OS
 have NW:=Er TM NX MH (FN X G UC) UD
 have NM:=Es TQ MD NW MR MQ MJ (FN X G NR)
 have c_faces:=Zc3 XD MH
 have c_is_corner:=M3 RM MD QJ
 have PL:=vx cA NM MU MJ
 have c_square_of:=M5 (P:=l.prog) (w:=w) (base:=base) RJ
 have c_whole_time_of:=Nw (P:=l.prog) (w:=w) (base:=base) OI QG ML QI
 have TX:TV K MF:=⟨⟨QL,⟨UO,UM,UI,UE⟩⟩,ON,OE,NS,PP,PN⟩
 have aI:RW K "Floor" MK:=⟨QM,⟨UP,UN,UJ,UF⟩⟩
 obtain⟨_,_,mM_Floor_init,FM_Floor_init⟩:=e_Floor_init.ex
 have PJ:=FM_Floor_init.binds (ps:=["self","hall","people"]) λ_ _ _ _ _ _ us hl=>match us,hl with | [_,_,_],_=>rfl
 obtain⟨_,_,PU,FM_people_at⟩:=e_people_at.ex
 have QE:=FM_people_at.binds (ps:=["self","square"]) λ_ _ _ _ _ _ us hl=>match us,hl with | [_,_],_=>rfl
 obtain⟨_,_,QW,FM_faces_at⟩:=e_faces_at.ex
 have RR:=FM_faces_at.binds (ps:=["self","edge"]) λ_ _ _ _ _ _ us hl=>match us,hl with | [_,_],_=>rfl
 obtain⟨_,_,mM_Track_init,FM_Track_init⟩:=e_Track_init.ex
 have PH:=FM_Track_init.binds (ps:=["self","begin","part","whole_time"]) λ_ _ _ _ _ _ us hl=>match us,hl with | [_,_,_,_],_=>rfl
 obtain⟨_,_,MZ,FM_line_ahead⟩:=e_line_ahead.ex
 have NC:=FM_line_ahead.binds (ps:=["self"]) λ_ _ _ _ _ _ us hl=>match us,hl with | [_],_=>rfl
 obtain⟨_,_,QV,FM_place_at⟩:=e_place_at.ex
 have RQ:=FM_place_at.binds (ps:=["self","time"]) λ_ _ _ _ _ _ us hl=>match us,hl with | [_,_],_=>rfl
 obtain⟨_,_,RZ,FM_time_at⟩:=e_time_at.ex
 have SM:=FM_time_at.binds (ps:=["self","place"]) λ_ _ _ _ _ _ us hl=>match us,hl with | [_,_],_=>rfl
 obtain⟨_,_,UQ,FM_go_on⟩:=e_go_on.ex
 have VH:=FM_go_on.binds (ps:=["self"]) λ_ _ _ _ _ _ us hl=>match us,hl with | [_],_=>rfl
 obtain⟨_,_,PR,FM_turn_back⟩:=e_turn_back.ex
 have QD:=FM_turn_back.binds (ps:=["self"]) λ_ _ _ _ _ _ us hl=>match us,hl with | [_],_=>rfl
 obtain⟨YE,WV,OC,OD,OB,OA⟩:=c_square_of.ex
 obtain⟨Sq,aT,RF,RP,QZ,QU⟩:=c_amount.ex
 obtain⟨Ho,bu,WT,XG,WK,WG⟩:=c_faces.ex
 have PY:=M7 (P:=l.prog) (w:=w) (mg:=mg) (base:=base) FM_turn_back TX
 have UZ:=Zc5 (P:=l.prog) (w:=w) (mg:=mg) (base:=base) FM_go_on TX
 have OY:=Tb (P:=l.prog) (w:=w) (mg:=mg) (base:=base) FM_Track_init TX OC OD OB OA ML
 have NA:=Td (P:=l.prog) (w:=w) (mg:=mg) (base:=base) FM_line_ahead TX
 have RG:=Ca (P:=l.prog) (w:=w) (mg:=mg) (base:=base) FM_place_at TX MZ NA NC RF RP QZ QU
 have SH:=Et (P:=l.prog) (w:=w) (mg:=mg) (base:=base) FM_time_at TX MZ NA NC RF RP QZ QU
 have PZ:=Bc (P:=l.prog) (w:=w) (mg:=mg) (base:=base) FM_people_at aI MW
 have RH:=Cc (P:=l.prog) (w:=w) (mg:=mg) (base:=base) FM_faces_at aI MY MS WT XG WK WG
 have OZ:=Tg (P:=l.prog) (w:=w) (mg:=mg) (base:=base) FM_Floor_init aI MY MS MW OC OD OB OA
 obtain⟨Ll,ZT,F_time_to,SV⟩:=d_time_to.ex
 have SX:=F_time_to.kp
 have TU:=F_time_to.binds (ps:=["across","upward","person"]) λ_ _ _ _ _ _ us hl=>match us,hl with | [_,_,_],_=>rfl
 have TH:=Eu (P:=l.prog) (w:=w) (mg:=mg) (base:=base) F_time_to TX RZ SH SM
 obtain⟨P3,bw,WU,XH,WL,WH⟩:=c_below.ex
 obtain⟨VB,TY,F_person_ahead,OO⟩:=d_person_ahead.ex
 have OP:=F_person_ahead.kp
 have OT:=F_person_ahead.binds (ps:=["floor","across","upward","whole_time"]) λ_ _ _ _ _ _ us hl=>match us,hl with | [_,_,_,_],_=>rfl
 have OR:=Ps (P:=l.prog) (w:=w) (mg:=mg) (base:=base) F_person_ahead TX aI PU PZ QE TH TU SX SV WU XH WL WH
 obtain⟨WY,VU,F_face_ahead,PQ⟩:=d_face_ahead.ex
 have PV:=F_face_ahead.kp
 have QC:=F_face_ahead.binds (ps:=["track","pair"]) λ_ _ _ _ _ _ us hl=>match us,hl with | [_,_],_=>rfl
 have PX:=Tf (P:=l.prog) (w:=w) (mg:=mg) (base:=base) F_face_ahead TX
 obtain⟨YG,WX,RE,RO,QY,QT⟩:=c_is_corner.ex
 obtain⟨ZU,YC,F_thing_at,RY⟩:=d_thing_at.ex
 have SA:=F_thing_at.kp
 have SL:=F_thing_at.binds (ps:=["floor","across","upward","now"]) λ_ _ _ _ _ _ us hl=>match us,hl with | [_,_,_,_],_=>rfl
 have SG:=Ce (P:=l.prog) (w:=w) (mg:=mg) (base:=base) F_thing_at TX aI MY MZ NA NC RE RO QY QT QW RH RR PX QC PV PQ
 have c_how_it_ends:=Sk (P:=l.prog) (w:=w) (base:=base) PD
 obtain⟨YF,WW,F_pass_line,QS⟩:=d_pass_line.ex
 have QX:=F_pass_line.kp
 have RN:=F_pass_line.binds (ps:=["track","now","thing"]) λ_ _ _ _ _ _ us hl=>match us,hl with | [_,_,_],_=>rfl
 have RD:=Ba (P:=l.prog) (w:=w) (mg:=mg) (base:=base) F_pass_line TX PR PY QD UQ UZ VH
 obtain⟨TZ,TJ,OH,OJ,OG,OF⟩:=c_whole_time_of.ex
 obtain⟨VV,VA,OX,PF,OW,OV⟩:=c_how_it_ends.ex
 obtain⟨aU,ZS,F_walk_on,SU⟩:=d_walk_on.ex
 have SW:=F_walk_on.kp
 have TR:=F_walk_on.binds (ps:=["floor","point","step","most"]) λ_ _ _ _ _ _ us hl=>match us,hl with | [_,_,_,_],_=>rfl
 have TF:=Ew (P:=l.prog) (w:=w) (mg:=mg) (base:=base) F_walk_on TX aI OH OJ OG OF ⟨UK,mM_Track_init.at_,mM_Track_init.fn,UG⟩ OY PH (FN X G QL) OR OT OP OO SG SL SA RY OX PF OW OV QV RG RQ RD RN QX QS QH NY
 obtain⟨iA,dJ,F_walk,YV⟩:=d_walk.ex
 have YW:=F_walk.kp
 have ZY:=F_walk.binds (ps:=["hall","people","point","step","most"]) λ_ _ _ _ _ _ us hl=>match us,hl with | [_,_,_,_,_],_=>rfl
 have ZQ:=Zc8 (P:=l.prog) (w:=w) (mg:=mg) (base:=base) F_walk ⟨UL,mM_Floor_init.at_,mM_Floor_init.fn,UH⟩ OZ PJ (FN X G QM) TF TR SW SU
 have NB:Cl l.prog w K mg base 7 "walk" ["hall","people","point","step","most"] Law.F_walk:=⟨_,_,ZQ,ZY,YW,YV⟩
 have SK:=yV ZX MG NB PL ML QQ
 have NG:=Zaa (P:=l.prog) (w:=w) (base:=base) VE
 have MX:=Bf (P:=l.prog) (w:=w) (base:=base) RL ML MU NZ
 have NL:=Zc9 (P:=l.prog) (w:=w) (base:=base) XB ML MQ
 have MP:=Cf SI NL
 have NV:=Ex TL MP MJ
 have QB:=Zda XA NL
 have NJ:=Bh (P:=l.prog) (w:=w) (base:=base) RK
 have NQ:=Zac VD MP MJ
 exact vw FL NG MX NV QB PL SK NB NJ NQ NY QK QQ
theorem Lj {K:PySem.W.Frag}{H:Hp}:∀ns:List Int,Reps K H (ns.map D.int) (ns.map V.int)
 |[]=>Reps.nil
 |_::ns=>Reps.cons (rep_int.mpr rfl) (Lj ns)
def walk {l:PySem.W.OpenLaw}{q:Program}{loose:List Str}{XP:(Str->Option Value)->Heap->Prop}{YP:World->Heap->Prop}{d:DefRec}{K:Params->PySem.W.Frag}(hn:l.most=some 63)(bZ:d.params.defaults=[])(hT:∀ns:List Int,ns.length<=63->Li [.lst (ns.map D.int)]=.ok (.im (.bl true)))(hY:∀(w:World) (h:Heap),YP w h->(K w.params).In h)
  (F:∀(w:World) (mg:Str->Option Value) (fa:Addr) (h:Heap),(K w.params).In h->h.Ns mainGlobals mg->mg d.name=some (.ref fa) ->
   ∃fd:FuncData,(∀(s:Shared) (u:Value),BindsTo s fd ⟨[u],[]⟩ [("_law_script", u)])/\∀base:Heap,(K w.params).In base->base.Ns mainGlobals mg->MC l.prog w (K w.params) mg base Yi 9 fa fd ["_law_script"] (Bw (K w.params) Li)):
  PySem.W.WalkO q loose XP YP l.row.toRowW d [] (λf vs=>PySem.call f vs):=
 L2.Ze5 (n:=63) (k:=9) (x:="_law_script") (CX:=λw=>Yi) (sp:=λw=>Bw (K w.params) Li) hn (by decide) bZ ⟨rfl,by decide,by decide⟩ hY F
  (λw H a ns hl _ hS=>⟨H,[.lst (ns.map D.int)],.im (.bl true),Same.refl _,Reps.cons (rep_lst.mpr ⟨a,ns.map V.int,rfl,hS,Lj ns⟩) Reps.nil,hT ns hl,λv LZ H' _ r=>(rep_bl (K:=K w.params) (H:=LZ)).mp r⟩) λ_ _ _ _ _ z=>z
def yU {k:Nat}(h:k<=900):10 ^ k<2 ^ 4000:=by
 have h1:(10:Nat) ^ k<=16 ^ k:=JR (by decide) k
 have h2:(16:Nat) ^ k=2 ^ (4*k):=by rw[show(16:Nat)=2 ^ 4 from rfl,<-Nat.pow_mul]
 have h3:(2:Nat) ^ (4*k)<2 ^ 4000:=JJ (by decide) (by lia)
 lia
def Ye {x:Int}{k:Nat}(h:x.natAbs<=10 ^ k)(hk:k<=900):sm x=true:=sm_iff.mpr (Nat.lt_of_le_of_lt h (yU hk))
def Qt {x y:Int}{j k:Nat}(hx:x.natAbs<=10 ^ j)(hy:y.natAbs<=10 ^ k):(x*y).natAbs<=10 ^ (j+k):=by
 rw[BI,Nat.pow_add]
 exact BU hx hy
def Gg {x y:Int}{k:Nat}(hx:x.natAbs<=10 ^ k)(hy:y.natAbs<=10 ^ k):(x-y).natAbs<=10 ^ (k+1):=by
 have:=Int.natAbs_sub_le x y
 rw[Nat.pow_succ]
 lia
theorem Hg {gt:D->Zf->M Zf}{fe:Zf->M D}{SN:Zf}(φ:D->D):∀{ds:List D},(∀d∈ds,∃sd1,gt d SN=.ok sd1/\fe sd1=.ok (φ d))->U4 gt fe SN ds=.ok (ds.map φ)
 |[],_=>rfl
 |d::ds,h=>by
  obtain⟨sd1,h1,h2⟩:=h d AX
  simp[U4,h1,h2,Hg φ λd hd=>h d (AQ _ hd)]
def vv (n:Nat):Ru 0 n=(List.range n).map fun(k:Nat)=>D.int (k:Int):=by
 unfold Ru;simp
def sI {fs:Zf->M (List D)}{sd:Zf}{n:Nat}(h:fs sd=.ok [.int (n:Int)])(hn:n<=1000):Vj fs sd=.ok ((List.range n).map fun(k:Nat)=>D.int (k:Int)):=by
 simp[Vj,h,vv]
 lia
def Xu {ds:List D}(h:ds.length<=1000000):few ds=true:=AS h
def cH (m:Nat)(f:Zf->M O)(a0:D):V3 1 m f [a0]=Wc (f ([some (S.im a0)]++List.replicate m none)):=rfl
def YI (m:Nat)(f:Zf->M O)(a0 a1:D):V3 2 m f [a0,a1]=Wc (f ([some (S.im a0),some (S.im a1)]++List.replicate m none)):=rfl
def aa (m:Nat)(f:Zf->M O)(a0 a1 a2:D):V3 3 m f [a0,a1,a2]=Wc (f ([some (S.im a0),some (S.im a1),some (S.im a2)]++List.replicate m none)):=rfl
def iL (m:Nat)(f:Zf->M O)(a0 a1 a2 a3:D):V3 4 m f [a0,a1,a2,a3]=Wc (f ([some (S.im a0),some (S.im a1),some (S.im a2),some (S.im a3)]++List.replicate m none)):=rfl
def iK (m:Nat)(f:Zf->M O)(a0 a1 a2 a3 a4:D):V3 5 m f [a0,a1,a2,a3,a4]=Wc (f ([some (S.im a0),some (S.im a1),some (S.im a2),some (S.im a3),some (S.im a4)]++List.replicate m none)):=rfl
def yT {f g:Zf->M O}{sd sd':Zf}(h:f sd=.ok (.nx sd')):Zw f g sd=g sd':=by unfold Zw;rw[h];rfl
def Yz {f g:Zf->M O}{sd:Zf}{s:S}(h:f sd=.ok (.rt s)):Zw f g sd=.ok (.rt s):=by unfold Zw;rw[h];rfl
def Vu {fi:Zf->M (List D)}{g:D->Zf->M Zf}{f:Zf->M O}{sd:Zf}{ds:List D}(h:fi sd=.ok ds):Pm fi g f sd=Jc g f ds sd:=by unfold Pm;rw[h];rfl
def go {f g:Zf->M O}{sd sd':Zf}{r:M O}(h:f sd=.ok (.nx sd'))(k:g sd'=r):Zw f g sd=r:=(yT h).trans k
def Qh {r:M O}{s:S}(h:r=.ok (.rt s)):Wc r=.ok s:=by rw[h];rfl
def U1 (i:Nat)(sd:Zf):Du i (Dt Zk) sd=.ok (.nx (sd.set i (some (.ow [])))):=by
 unfold Du Dt Zk
 rw[M.bind_ok,Xu (CI _),AC rfl,M.bind_ok]
def ud {n:Nat}(h:n<=10 ^ 30):n<2 ^ 4000:=by
 have h1:(10:Nat) ^ 30<=16 ^ 30:=JR (by decide) 30
 have h2:(16:Nat) ^ 30=2 ^ 120:=by rw[show(16:Nat)=2 ^ 4 from rfl,<-Nat.pow_mul]
 have h3:(2:Nat) ^ 120<2 ^ 4000:=JJ (by decide) (by decide)
 lia
def Cg {x:Int}(h:-1000000000000000000000000000000<=x)(h':x<=1000000000000000000000000000000):sm x=true:=sm_iff.mpr (ud (by have:(10:Nat) ^ 30=1000000000000000000000000000000:=rfl;lia))
def gT {i j:Int}(hi:sm i=true)(hj:sm j=true):Zx (.int i) (.int j)=.ok (.int (i*j)):=by
 show(if(sm i&&sm j)=true then _ else _)=_
 rw[hi,hj];rfl
def By {i j:Int}(hj:0<j)(hs:sm j=true):Q4 (.int i) (.int j)=.ok (.int (i/j)):=by
 show(if(j != 0&&sm j)=true then M.ok (D.int (i.fdiv j)) else _)=_
 have:(j != 0)=true:=by simp;lia
 rw[this,hs,Int.fdiv_eq_ediv_of_nonneg i (by lia)];rfl
def gM {i j:Int}(hj:0<j):Yk (.int i) (.int j)=.ok (.int (i%j)):=by
 show(if(j != 0)=true then M.ok (D.int (i.fmod j)) else _)=_
 have:(j != 0)=true:=by simp;lia
 rw[this,Int.fmod_eq_emod_of_nonneg i (by lia)];rfl
def Z3 {i:Nat}{f:Zf->M D}{sd:Zf}{d:D}(h:f sd=.ok d):Z7 i f sd=.ok (.nx (sd.set i (some (.im d)))):=by unfold Z7;rw[h];rfl
def Z5 {F:List D->M S}{fs:Zf->M (List D)}{sd:Zf}{ds:List D}{s:S}{d:D}(h1:fs sd=.ok ds)(h2:F ds=.ok s)(h3:s.toD=.ok d):Z1 F fs sd=.ok d:=by
 unfold Z1;rw[h1,M.bind_ok,h2];exact h3
def a1 {fa:Zf->M D}{sd:Zf}{d:D}(h:fa sd=.ok d):Zb fa Zk sd=.ok [d]:=by unfold Zb Zk;rw[h];rfl
def aC {fa:Zf->M D}{fr:Zf->M (List D)}{sd:Zf}{d:D}{ds:List D}(h:fa sd=.ok d)(h2:fr sd=.ok ds):Zb fa fr sd=.ok (d::ds):=by unfold Zb;rw[h,M.bind_ok,h2];rfl
def Z9 {f:Zf->M D}{sd:Zf}{d:D}(h:f sd=.ok d):Qq f sd=.ok (.rt (.im d)):=by unfold Qq;rw[h];rfl
def Jy {g:List D->M D}{fs:Zf->M (List D)}{sd:Zf}{ds:List D}{r:M D}(h1:fs sd=.ok ds)(h2:g ds=r):Kr g fs sd=r:=by unfold Kr;rw[h1];exact h2
def Vv {g:D->Zf->M Zf}{f:Zf->M O}{d:D}{r:List D}{sd sd1 RV:Zf}(h1:g d sd=.ok sd1)(h2:f sd1=.ok (.nx RV)):Jc g f (d::r) sd=Jc g f r RV:=by
 simp only[Jc,h1,h2,M.bind_ok]
def Y3 {α:Type}(x:α)(r:List α):Ri (x::r) 0=some x:=by
 have:=Pv (xs:=x::r) (j:=0) (v:=x) rfl
 exact this
def Xx {α:Type}(x y:α)(r:List α):Ri (x::y::r) 1=some y:=by
 have:=Pv (xs:=x::y::r) (j:=1) (v:=y) rfl
 exact this
def V0 {x:Int}(h:-1000000000<=x)(h':x<=1000000000):sm x=true:=Cg (by lia) (by lia)
def Z8 {c:Zf->M Bool}{f:Zf->M O}{sd:Zf}(h:c sd=.ok false):Jt c f Ys sd=.ok (.nx sd):=by unfold Jt;rw[h];rfl
def mB {f g:Zf->M Bool}{sd:Zf}(h1:f sd=.ok false)(h2:g sd=.ok false):DL.tO f g sd=.ok false:=by unfold DL.tO;rw[h1];exact h2
def d8 {f:Zf->M Bool}{sd:Zf}(h:f sd=.ok true):DL.tN f sd=.ok false:=by unfold DL.tN;rw[h];rfl
def Qv {f:Zf->M D}{sd:Zf}{b:Bool}(h:f sd=.ok (.bl b)):DL.tB f sd=.ok b:=by unfold DL.tB;rw[h];rfl
def Zn {g:D->D->M D}{fa fb:Zf->M D}{sd:Zf}{x y:D}{r:M D}(h1:fa sd=.ok x)(h2:fb sd=.ok y)(h3:g x y=r):Zp g fa fb sd=r:=by unfold Zp;rw[h1,M.bind_ok,h2,M.bind_ok,h3]
def nC {f g:Zf->M D}{sd:Zf}{r:M D}(h1:f sd=.ok (.bl true))(h2:g sd=r):Ro f g sd=r:=by unfold Ro;rw[h1,M.bind_ok];exact h2
def Q3 {c:Zf->M Bool}{f g:Zf->M O}{sd:Zf}{r:M O}(h:c sd=.ok true)(k:f sd=r):Jt c f g sd=r:=by unfold Jt;rw[h];exact k
def Hh {c:Zf->M Bool}{f g:Zf->M O}{sd:Zf}{r:M O}(h:c sd=.ok false)(k:g sd=r):Jt c f g sd=r:=by unfold Jt;rw[h];exact k
def tP {f g:Zf->M Bool}{sd:Zf}(h1:f sd=.ok true):DL.tO f g sd=.ok true:=by unfold DL.tO;rw[h1];rfl
def tM {f g:Zf->M Bool}{sd:Zf}{r:M Bool}(h1:f sd=.ok false)(h2:g sd=r):DL.tO f g sd=r:=by unfold DL.tO;rw[h1];exact h2
def tL {f:Zf->M Bool}{sd:Zf}{b:Bool}(h:f sd=.ok b):DL.tN f sd=.ok (!b):=by unfold DL.tN;rw[h];rfl
def az {f g:Zf->M Bool}{sd:Zf}(h1:f sd=.ok false):DL.tA f g sd=.ok false:=by unfold DL.tA;rw[h1];rfl
def Ti {f g:Zf->M Bool}{sd:Zf}{r:M Bool}(h1:f sd=.ok true)(h2:g sd=r):DL.tA f g sd=r:=by unfold DL.tA;rw[h1];exact h2
def uc {f g:Zf->M D}{sd:Zf}(h1:f sd=.ok (.bl false)):Ro f g sd=.ok (.bl false):=by unfold Ro;rw[h1];rfl
def tK {f g:Zf->M D}{sd:Zf}(h1:f sd=.ok (.bl true)):YM f g sd=.ok (.bl true):=by unfold YM;rw[h1];rfl
def tJ {f g:Zf->M D}{sd:Zf}{r:M D}(h1:f sd=.ok (.bl false))(h2:g sd=r):YM f g sd=r:=by unfold YM;rw[h1];exact h2
def Pg {c:Zf->M Bool}{f g:Zf->M D}{sd:Zf}{r:M D}(h:c sd=.ok true)(k:f sd=r):C6 c f g sd=r:=by unfold C6;rw[h];exact k
def Sn {c:Zf->M Bool}{f g:Zf->M D}{sd:Zf}{r:M D}(h:c sd=.ok false)(k:g sd=r):C6 c f g sd=r:=by unfold C6;rw[h];exact k
def aw {α:Type}(x y z:α)(r:List α):Ri (x::y::z::r) 2=some z:=Pv (xs:=x::y::z::r) (j:=2) (v:=z) rfl
def lJ {α:Type}(x y z u:α)(r:List α):Ri (x::y::z::u::r) 3=some u:=Pv (xs:=x::y::z::u::r) (j:=3) (v:=u) rfl
def nB:Zf->M O:=(Zw (Z7 3 (Zp Yk (Zp Q0 (Zp Q0 (Zp Zx (Zd 3) (Zp Q0 (Zp Yk (Zd 3) ↑65521) ↑40487)) (Zp Zx ↑7 (Zd 5))) ↑5) ↑1999999973))
   (Zw (Ua 2 (Zp Tz (X1 (Zb (Zd 3) (Zb (Zp Yk (Zd 4) ↑1000000) Zk))) (Kr Oh (Zb (Zp S5 (Zd 4) ↑0) Zk))))
   (Z7 4 (Zp Q4 (Zd 4) ↑1000000))))
def cO (d:Int):Prop:=0<=d/\d<1999999973
def yS (s0 s1:Option S)(ds:List D)(hd:ds.length<=1000)(N R K:Int)(hN:0<=N)(kH:N<1999999973)(hK:0<=K)(hK':K<=1000):
  ∃d N':Int,0<=N'/\N'<1999999973/\cO d/\nB [s0,s1,some (.ow ds),some (.im (.int N)),some (.im (.int R)),some (.im (.int K))] =
   .ok (.nx [s0,s1,some (.ow (ds++[.int d])),some (.im (.int N')),some (.im (.int (R/1000000))),some (.im (.int K))]):=by
 have q1:0<=N%65521:=BS _ (by decide)
 have q2:N%65521<65521:=BG _ (by decide)
 have g1:=gM (i:=N) (j:=65521) (by decide)
 have g2:=gT (i:=N) (j:=N%65521+40487) (Cg (by lia) (by lia)) (Cg (by lia) (by lia))
 have g3:=gT (i:=7) (j:=K) (Cg (by lia) (by lia)) (Cg (by lia) (by lia))
 have g4:=gM (i:=N*(N%65521+40487)+7*K+5) (j:=1999999973) (by decide)
 have e1:Z7 3 (Zp Yk (Zp Q0 (Zp Q0 (Zp Zx (Zd 3) (Zp Q0 (Zp Yk (Zd 3) ↑65521) ↑40487)) (Zp Zx ↑7 (Zd 5))) ↑5) ↑1999999973)
   [s0,s1,some (.ow ds),some (.im (.int N)),some (.im (.int R)),some (.im (.int K))] =
   .ok (.nx [s0,s1,some (.ow ds),some (.im (.int ((N*(N%65521+40487)+7*K+5)%1999999973))),some (.im (.int R)),some (.im (.int K))]):=by
  simp[Z7,Zp,Zd,eC,g1,Q0,g2,g3,g4]
 have b1:0<=(N*(N%65521+40487)+7*K+5)%1999999973:=BS _ (by decide)
 have b2:(N*(N%65521+40487)+7*K+5)%1999999973<1999999973:=BG _ (by decide)
 generalize (N*(N%65521+40487)+7*K+5)%1999999973=N' at e1 b1 b2
 have f1:few ds=true:=Xu (by lia)
 have g5:=gM (i:=R) (j:=1000000) (by decide)
 have g8:=By (i:=R) (j:=1000000) (by decide) (Cg (by decide) (by decide))
 have f2:few [D.int N',D.int (R%1000000)]=true:=Xu (by simp)
 by_cases hR:R > 0
 .have p1:0<=R%1000000:=BS _ (by decide)
  have p2:R%1000000<1000000:=BG _ (by decide)
  refine⟨R%1000000,N',b1,b2,⟨p1,by lia⟩,go e1 ?_⟩
  simp[Zw,Ua,Zp,X1,Zb,Zk,Zd,eC,g5,f2,Kr,S5,Fl,hR,Oh,Tz,Xx,f1,Z7,g8]
 .refine⟨N',N',b1,b2,⟨b1,b2⟩,go e1 ?_⟩
  simp[Zw,Ua,Zp,X1,Zb,Zk,Zd,eC,g5,f2,Kr,S5,Fl,hR,Oh,Tz,Y3,f1,Z7,g8]
theorem Hi (s0 s1:Option S):∀(ks:List Nat) (ds:List Int) (N R:Int) (v:Option S),ds.length+ks.length<=1000->(∀k∈ks,k<=1000)->0<=N->N<1999999973->(∀d∈ds,cO d) ->
  ∃(es:List Int) (N' R':Int) (v':Option S),es.length=ds.length+ks.length/\(∀d∈es,cO d)/\Jc (Ut 5) nB (ks.map fun(k:Nat)=>D.int (k:Int)) [s0,s1,some (.ow (ds.map D.int)),some (.im (.int N)),some (.im (.int R)),v] =
   .ok (.nx [s0,s1,some (.ow (es.map D.int)),some (.im (.int N')),some (.im (.int R')),v'])
 |[],ds,N,R,v,_,_,_,_,hd=>⟨ds,N,R,v,by simp,hd,by simp[Jc]⟩
 |k::ks,ds,N,R,v,h,hk,hN,kH,hd=>by
  rw[AW] at h
  have gW:=hk k AX
  obtain⟨d,N1,h1,h2,h3,e⟩:=yS s0 s1 (ds.map D.int) (by simp;lia) N R (k:Int) hN kH (by lia) (by lia)
  obtain⟨es,N',R',v',hl,ho,ih⟩:=Hi s0 s1 ks (ds++[d]) N1 (R/1000000) (some (.im (.int (k:Int)))) (by simp;lia) (λk gX=>hk k (AQ _ gX)) h1 h2 (λd' ZL=>by
   rcases DA.mp ZL with q|q
   .exact hd d' q
   .have:d'=d:=by simpa using q
    rw[this];exact h3)
  refine⟨es,N',R',v',by rw[hl];simp;lia,ho,?_⟩
  rw[HS,BA,FH] at ih
  rw[<-ih]
  simp[Jc,Ut,e]
def Lk (c:Int)(n:Nat)(hn:n<=1000):∃es:List Int,es.length=n/\(∀d∈es,cO d)/\Jr [.int c,.int (n:Int)]=.ok (.ow (es.map D.int)):=by
 have g1:=gM (i:=c) (j:=1999999973) (by decide)
 have q1:0<=c%1999999973:=BS _ (by decide)
 have q2:c%1999999973<1999999973:=BG _ (by decide)
 have g2:=gT (i:=c%1999999973+31) (j:=765432101) (Cg (by lia) (by lia)) (Cg (by lia) (by lia))
 have g3:=gM (i:=(c%1999999973+31)*765432101) (j:=1999999973) (by decide)
 have g4:ez (.int 10) (.int 18)=.ok (.int 1000000000000000000):=rfl
 have b1:0<=(c%1999999973+31)*765432101%1999999973:=BS _ (by decide)
 have b2:(c%1999999973+31)*765432101%1999999973<1999999973:=BG _ (by decide)
 have e2:Z7 3 (Zp Yk (Zp Zx (Zp Q0 (Zp Yk (Zd 0) ↑1999999973) ↑31) ↑765432101) ↑1999999973) [some (.im (.int c)),some (.im (.int (n:Int))),some (.ow []),none,none,none] =
   .ok (.nx [some (.im (.int c)),some (.im (.int (n:Int))),some (.ow []),some (.im (.int ((c%1999999973+31)*765432101%1999999973))),none,none]):=by
  simp[Z7,Zp,Zd,eC,g1,Q0,g2,g3]
 generalize (c%1999999973+31)*765432101%1999999973=N at e2 b1 b2
 obtain⟨R,e4⟩:∃R:Int,(Jt (DL.tO (DL.tB (Zp XR (Zd 0) ↑0)) (DL.tB (Zp cK (Zd 0) (Zp ez ↑10 ↑18)))) (Z7 4 (Kr Kg (Zb (Zd 0) Zk))) Ys) [some (.im (.int c)),some (.im (.int (n:Int))),some (.ow []),some (.im (.int N)),some (.im (.int 0)),none] =
   .ok (.nx [some (.im (.int c)),some (.im (.int (n:Int))),some (.ow []),some (.im (.int N)),some (.im (.int R)),none]):=by
  by_cases h1:c<0
  .exact⟨-c,by simp[Jt,DL.tO,DL.tB,Zp,Zd,eC,XR,Fl,h1,asB,Z7,Kr,Kg,Zb,Zk]⟩
  .by_cases h2:1000000000000000000<=c
   .exact⟨c,by simp[Jt,DL.tO,DL.tB,Zp,Zd,eC,XR,cK,Fl,h1,h2,g4,asB,Z7,Kr,Kg,Zb,Zk]⟩
   .exact⟨0,by simp[Jt,DL.tO,DL.tB,Zp,Zd,eC,XR,cK,Fl,h1,h2,g4,asB,Z7,Kr,Kg,Zb,Zk,Ys]⟩
 obtain⟨es,N',R',v',hl,ho,e5⟩:=Hi (some (.im (.int c))) (some (.im (.int (n:Int)))) (List.range n) [] N R none (by simp;lia) (λk hk=>by have:=LV.mp hk;lia) b1 b2 (λd hd=>by simp at hd)
 refine⟨es,by simpa using hl,ho,?_⟩
 have r1:∀s0 s,Vj (Zb (Zd 1) Zk) (s0::some (.im (.int (n:Int)))::s)=.ok ((List.range n).map fun(k:Nat)=>D.int (k:Int)):=λs0 s=>sI (by simp[Zb,Zk,Zd]) hn
 exact(YI _ _ _ _).trans (Qh (go (U1 2 _) (go e2 (go rfl (go e4 (go ((Vu (r1 _ _)).trans e5) rfl))))))
def Js {fa fb:Zf->M D}{sd:Zf}{a b:D}(h1:fa sd=.ok a)(h2:fb sd=.ok b):Qi (Zb fa (Zb fb Zk)) sd=.ok (.tup [a,b]):=by
 unfold Qi;rw[aC h1 (a1 h2)];rfl
def K8 {fs:Zf->M (List D)}{sd:Zf}{ds:List D}(h:fs sd=.ok ds)(hf:few ds=true):X1 fs sd=.ok (.lst ds):=by
 unfold X1
 rw[h,M.bind_ok,AC hf]
def K5 {x y:D}(h:x.dep<=60):Jx x y=.ok (.bl (D.eq x y)):=AC h
def Gh {x y:D}(h:x.dep<=60):Rr x y=.ok (.bl (!D.eq x y)):=AC h
def Jg (a b:Int):Jx (.int a) (.int b)=.ok (.bl (a==b)):=by rw[K5 (by simp[D.dep])];simp only[D.eq]
def tI {f g:Zf->M Bool}{sd:Zf}{a b:Bool}(h1:f sd=.ok a)(h2:g sd=.ok b):DL.tO f g sd=.ok (a||b):=by
 cases a
 .exact tM h1 h2
 .exact tP h1
def tH {f g:Zf->M Bool}{sd:Zf}{a b:Bool}(h1:f sd=.ok a)(h2:g sd=.ok b):DL.tA f g sd=.ok (a&&b):=by
 cases a
 .exact az h1
 .exact Ti h1 h2
def vt {f g:Zf->M D}{sd:Zf}{a b:Bool}(h1:f sd=.ok (.bl a))(h2:g sd=.ok (.bl b)):Ro f g sd=.ok (.bl (a&&b)):=by
 cases a
 .exact uc h1
 .exact nC h1 h2
def ua {f g:Zf->M D}{sd:Zf}{a b:Bool}(h1:f sd=.ok (.bl a))(h2:g sd=.ok (.bl b)):YM f g sd=.ok (.bl (a||b)):=by
 cases a
 .exact tJ h1 h2
 .exact tK h1
theorem Bi {n:Nat}:∀{l:List D},(∀d∈l,d.dep<=n)->D.deps l<=n
 |[],_=>by simp[D.deps]
 |a::r,h=>by
  simp only[D.deps]
  have:=h a (by simp)
  have:=Bi (l:=r) λd hd=>h d (by simp[hd])
  lia
def Ey {i:Nat}{f:Zf->M D}{sd:Zf}{ds:List D}{d:D}(h:sd[i]?=some (some (.ow ds)))(hf:f sd=.ok d)(hl:ds.length<=1000):Ua i f sd=.ok (.nx (sd.set i (some (.ow (ds++[d]))))):=by
 unfold Ua
 rw[h]
 dsimp only
 rw[hf,M.bind_ok,Xu (by lia),AC rfl]
def jA {f:Zf->M D}{sd:Zf}{ds:List D}(h:f sd=.ok (.tup ds)):W0 f sd=.ok ds:=by
 unfold W0
 rw[h]
 rfl
def iz {f:Zf->M D}{sd:Zf}{ds:List D}(h:f sd=.ok (.lst ds)):W0 f sd=.ok ds:=by
 unfold W0
 rw[h]
 rfl
theorem lI {α:Type}{gt:D->Zf->M Zf}{fe:Zf->M D}{SN:Zf}(e g:α->D):∀l:List α,(∀a∈l,∃sd1,gt (e a) SN=.ok sd1/\fe sd1=.ok (g a))->U4 gt fe SN (l.map e)=.ok (l.map g)
 |[],_=>rfl
 |a::l,h=>by
  obtain⟨sd1,h1,h2⟩:=h a (by simp)
  rw[BA,BA]
  simp only[U4,h1,h2,lI e g l λb hb=>h b (by simp[hb])]
def vq {xs ys:List D}(h:xs.length+ys.length<=1000):Q0 (.lst xs) (.lst ys)=.ok (.lst (xs++ys)):=by
 show(if few (xs++ys) then M.ok (D.lst (xs++ys)) else .bad)=_
 rw[Xu (by rw[BE];lia),AC rfl]
def Ci {g l:Int}(hg:0<=g)(hl:0<l):Int.gcd l (g%l)=Int.gcd g l:=by
 obtain⟨g',rfl⟩:=IU hg
 obtain⟨l',rfl⟩:=IU (BW hl)
 rw[<-Int.natCast_emod]
 simp only[Int.gcd,ER]
 rw[JB l',<-Nat.gcd_rec,JB]
def Zaf {g:Int}(hg:0<=g):((Int.gcd g 0:Nat):Int)=g:=by
 rw[Int.gcd_zero_right];lia
theorem Hj (x y:Option S):∀(n:Nat) (g l:Int) (r:Option S),0<=g->0<=l->l.toNat<n ->
  ∃r',Yg (DL.tB (Zp Rr (Zd 3) ↑0)) (Zw (Z7 4 (Zp Yk (Zd 2) (Zd 3))) (Zw (Z7 2 (Zd 3)) (Z7 3 (Zd 4)))) n [x,y,some (.im (.int g)),some (.im (.int l)),r] =
   .ok (.nx [x,y,some (.im (.int (Int.gcd g l:Nat))),some (.im (.int 0)),r'])
 |0,_,_,_,_,_,h=>by lia
 |n+1,g,l,r,hg,hl,h=>by
  by_cases hz:l=0
  .subst hz
   refine⟨r,?_⟩
   simp[Yg,DL.tB,Zp,Zd,eC,Rr,D.dep,D.eq,asB,Zaf hg]
   lia
  .have hp:0<l:=by lia
   have dA:0<=g%l:=BS g (by lia)
   have qR:g%l<l:=BG g hp
   obtain⟨r',e⟩:=Hj x y n l (g%l) (some (.im (.int (g%l)))) hl dA (by lia)
   refine⟨r',?_⟩
   rw[Ci hg hp] at e
   rw[<-e]
   simp[Yg,DL.tB,Zp,Zd,eC,Rr,D.dep,D.eq,asB,Zw,Z7,gM hp,hz]
def ab (a:Int):(if a<0 then -a else a)=(a.natAbs:Int):=by split<;>lia
def Um (a:Int):Kg [.int a]=.ok (.int (a.natAbs:Int)):=by
 show M.ok (D.int (if a<0 then -a else a))=_
 rw[ab]
def lH (a b:Int):Q5 [.int a,.int b]=.ok (.im (.int (Int.gcd a b:Nat))):=by
 obtain⟨r',e⟩:=Hj (some (.im (.int a))) (some (.im (.int b))) (b.natAbs+1) a.natAbs b.natAbs none (by lia) (by lia) (by lia)
 have e2:=T1 (c:=DL.tB (Zp Rr (Zd 3) ↑0)) (f:=Zw (Z7 4 (Zp Yk (Zd 2) (Zd 3))) (Zw (Z7 2 (Zd 3)) (Z7 3 (Zd 4)))) (n:=b.natAbs+1) (sd:=[some (.im (.int a)),some (.im (.int b)),some (.im (.int a.natAbs)),some (.im (.int b.natAbs)),none]) (by rw[e];simp)
 rw[e] at e2
 refine(YI _ _ _ _).trans (Qh (go (Z3 (Jy (a1 rfl) (Um a))) (go (Z3 (Jy (a1 rfl) (Um b))) (go e2 (Z9 ?_)))))
 show M.ok (D.int ((Int.gcd (a.natAbs:Int) (b.natAbs:Int):Nat):Int))=_
 simp[Int.gcd]
def uZ {f:Zf->M D}{i j:Nat}{sd:Zf}{a b:D}(h:f sd=.ok (.lst [a,b])):eM f (U6 2 (Yn (Ut i) (Yn (Ut j) Wv))) sd=.ok (.nx ((sd.set i (some (.im a))).set j (some (.im b)))):=by
 unfold eM
 rw[h]
 rfl
def nD (p q:Int):D:=.tup [.int p,.int q]
def Kn (t b:Int):D:=nD (t/(Int.gcd t b:Nat)) (b/(Int.gcd t b:Nat))
def Bj {t b:Int}(hb:b≠0\/t≠0):(0:Int)<(Int.gcd t b:Nat):=by
 have:0<Int.gcd t b:=JZ λz=>by
  have:=JU.mp z
  lia
 lia
def Jd {fa fb:Zf->M D}{sd:Zf}{ds:List D}{i:Int}{d:D}(h:fa sd=.ok (.lst ds))(h2:fb sd=.ok (.int i))(e:Ri ds i=some d):Zp Tz fa fb sd=.ok d:=by
 refine Zn h h2 ?_
 show(match Ri ds i with|some d=>M.ok d|none=>.bad)=_
 rw[e]
def Zy {fa fb:Zf->M D}{sd:Zf}{ds:List D}{i:Int}{d:D}(h:fa sd=.ok (.tup ds))(h2:fb sd=.ok (.int i))(e:Ri ds i=some d):Zp Tz fa fb sd=.ok d:=by
 refine Zn h h2 ?_
 show(match Ri ds i with|some d=>M.ok d|none=>.bad)=_
 rw[e]
theorem So {α:Type}:∀l:List α,X3 (l.map λ_=>D.bl true)=some (l.map λ_=>true)
 |[]=>rfl
 |a::l=>by
  rw[BA,BA]
  simp only[X3,So l]
  rfl
def z9 {α:Type}(l:List α):cS [.lst (l.map λ_=>.bl true)]=.ok (.bl true):=by
 simp only[cS,So]
 congr 2
 rw[LG]
 intro b hb
 obtain⟨_,_,rfl⟩:=EU.mp hb
 rfl
def Ez {f:Zf->M (List D)}{sd:Zf}{ds:List D}(h:f sd=.ok ds):Dr f sd=.ok (.lst ds):=by
 unfold Dr;rw[h];rfl
def Bk {fi:Zf->M (List D)}{n0:Nat}{caps:List Nat}{gt:D->Zf->M Zf}{fe:Zf->M D}{sd:Zf}{ds:List D}{r:M (List D)}(h:fi sd=.ok ds)(hf:ds.length<=1000)(hr:U4 gt fe (Mj n0 caps sd) ds=r):Rw fi n0 caps gt fe sd=r:=by
 unfold Rw
 rw[h,M.bind_ok,Xu (by lia),AC rfl,hr]
def P0 {i:Nat}{f:Zf->M O}{sd:Zf}{r:M O}(h:f (frz i sd)=r):Ml i f sd=r:=h
def nA {ds:List D}:Oi [.lst ds]=.ok (.int (ds.length:Int)):=rfl
def m4 (a b c d:Int):a*b*(c*d)=a*c*(b*d):=by rw[CV,CV,KM b]
def X8 {t b:Int}(hb:0<b):∃p q,Kn t b=nD p q/\0<q/\p*b=t*q/\Int.gcd p q=1/\p.natAbs<=t.natAbs/\q<=b:=by
 obtain⟨u,eu⟩:((Int.gcd t b:Nat):Int) ∣ t:=FZ t b
 obtain⟨v,ev⟩:((Int.gcd t b:Nat):Int) ∣ b:=EW t b
 have gp:=Bj (t:=t) (b:=b) (by lia)
 have hg:Int.gcd u v=1:=by
  have h1:Int.gcd ((Int.gcd t b:Nat)*u) ((Int.gcd t b:Nat)*v)=Int.gcd t b:=by rw[<-eu,<-ev]
  rw[Int.gcd_mul_left,ER] at h1
  have h0:0<Int.gcd t b:=by lia
  exact Nat.eq_of_mul_eq_mul_left h0 (by rw[h1,Nat.mul_one])
 refine⟨t/(Int.gcd t b:Nat),b/(Int.gcd t b:Nat),rfl,?_⟩
 generalize ((Int.gcd t b:Nat):Int)=g at eu ev gp ⊢
 rw[eu,ev,II _ (by lia),II _ (by lia)]
 have v1:0<v:=by
  rcases Int.lt_or_le 0 v with h|h
  .exact h
  .have:=Int.mul_nonpos_of_nonneg_of_nonpos (BW gp) h;lia
 refine⟨v1,by rw[KM,CV],hg,?_,?_⟩
 .rw[BI]
  exact GD _ (by lia)
 .have:=AN (show(1:Int)<=g by lia) (BW v1)
  lia
def Zag {p q p' q':Int}(hq:0<q)(SB:0<q')(c:Int.gcd p q=1)(c':Int.gcd p' q'=1)(e:p*q'=p'*q):p=p'/\q=q':=by
 have half:∀{p q p' q':Int},Int.gcd p q=1->p*q'=p'*q->q ∣ q':=λ{p q p' q'} c e=>by
  have:q ∣ p*q':=by rw[e];exact Int.dvd_mul_left _ _
  have c2:Int.gcd q p=1:=by rw[Int.gcd_comm];exact c
  have h1:q.natAbs ∣ p.natAbs*q'.natAbs:=by rw[<-BI];exact DF.mpr this
  have h2:q.natAbs ∣ q'.natAbs:=Nat.Coprime.dvd_of_dvd_mul_left (show Nat.Coprime q.natAbs p.natAbs from c2) h1
  exact DF.mp h2
 have d1:=half c e
 have d2:=half c' e.symm
 have eq:q=q':=by
  have h1:=Int.le_of_dvd SB d1
  have h2:=Int.le_of_dvd hq d2
  lia
 subst eq
 exact⟨CZ (by lia) e,rfl⟩
def Jh {t b t' b':Int}(hb:0<b)(RC:0<b')(e:t*b'=t'*b):Kn t b=Kn t' b':=by
 obtain⟨p,q,e1,q1,r1,c1,_⟩:=X8 (t:=t) hb
 obtain⟨p',q',e2,q2,r2,c2,_⟩:=X8 (t:=t') RC
 have:p=p'/\q=q':=by
  refine Zag q1 q2 c1 c2 ?_
  have h:(p*q')*(b*b')=(p'*q)*(b*b'):=by
   have a1:(p*q')*(b*b')=(p*b)*(q'*b'):=by rw[m4]
   have a2:(p'*q)*(b*b')=(p'*b')*(q*b):=by rw[EV b b',m4]
   have a3:(t*q)*(q'*b')=(t*b')*(q*q'):=by rw[EV q' b',m4]
   have a4:(t'*q')*(q*b)=(t'*b)*(q*q'):=by rw[EV q b,m4,EV q' q]
   rw[a1,a2,r1,r2,a3,a4,e]
  exact CZ (Int.mul_ne_zero (by lia) (by lia)) h
 rw[e1,e2,this.1,this.2]
structure Fr (k:Nat) (p q:Int):Prop where
 pos:0<q
 top:p.natAbs<=10 ^ k
 bot:q.natAbs<=10 ^ k
def Fr.mono {j k:Nat}{p q:Int}(h:Fr j p q)(hk:j<=k):Fr k p q:=
 have:=JK (show 0<10 by decide) hk
 ⟨h.pos,by have:=h.top;lia,by have:=h.bot;lia⟩
def E1 {k:Nat}{t b:Int}(h:Fr k t b):∃p q,Kn t b=nD p q/\Fr k p q/\p*b=t*q/\Int.gcd p q=1:=by
 obtain⟨p,q,e,q1,r,c,h1,h2⟩:=X8 (t:=t) h.pos
 have:=h.top
 have:=h.bot
 exact⟨p,q,e,⟨q1,by lia,by lia⟩,r,c⟩
def m9 {k:Nat}{t b:Int}(h:t.natAbs<=10 ^ k)(h2:b.natAbs<=10 ^ k):(((Int.gcd t b:Nat):Int)).natAbs<=10 ^ k:=by
 rw[ER]
 by_cases hz:b=0
 .subst hz;simpa using h
 .have h1:((Int.gcd t b:Nat):Int) ∣ b:=EW t b
  have h2:=FP (by lia) (DF.mpr h1)
  rw[ER] at h2
  lia
def Sq {k:Nat}{t b:Int}(h:Fr k t b)(hk:k<=900):Vc [.int t,.int b]=.ok (.im (Kn t b)):=by
 have gp:=Bj (t:=t) (b:=b) (by have:=h.pos;lia)
 have gs:sm ((Int.gcd t b:Nat):Int)=true:=Ye (m9 h.top h.bot) hk
 exact(YI _ _ _ _).trans (Qh (go (Z3 (Z5 (aC rfl (a1 rfl)) (lH t b) rfl)) (Z9 (Js (Zn rfl rfl (By gp gs)) (Zn rfl rfl (By gp gs))))))
def K9 {j k:Nat}(h:j<=k):(10:Nat) ^ j<=10 ^ k:=JK (by decide) h
def P3 {k:Nat}{a b c d:Int}(h1:Fr k a b)(h2:Fr k c d)(hk:k<=400):Kb [nD a b,nD c d]=.ok (.im (.bl (decide (a*d<c*b)))):=by
 have sa:=Ye h1.top (by lia)
 have sb:=Ye h1.bot (by lia)
 have sc:=Ye h2.top (by lia)
 have sd:=Ye h2.bot (by lia)
 exact(YI _ _ _ _).trans (Qh (Z9 (Zn (Zn (Zy rfl rfl (Y3 _ _)) (Zy rfl rfl (Xx _ _ _)) (gT sa sd)) (Zn (Zy rfl rfl (Y3 _ _)) (Zy rfl rfl (Xx _ _ _)) (gT sc sb)) rfl)))
theorem Hl (x y:Option S):∀(n:Nat) (lo hi:Int),0<=hi->0<=lo->lo.toNat<n ->
  Yg (DL.tB (Zp S5 (Zd 2) ↑0)) (cT 2 3 (Zb (Zp Yk (Zd 3) (Zd 2)) (Zb (Zd 2) Zk))) n [x,y,some (.im (.int lo)),some (.im (.int hi))] =
   .ok (.nx [x,y,some (.im (.int 0)),some (.im (.int (Int.gcd hi lo:Nat)))])
 |0,_,_,_,_,h=>by lia
 |n+1,lo,hi,hg,hl,h=>by
  by_cases hz:lo=0
  .subst hz
   simp[Yg,DL.tB,Zp,Zd,eC,S5,Fl,asB]
   lia
  .have hp:0<lo:=by lia
   have dA:0<=hi%lo:=BS hi (by lia)
   have qR:hi%lo<lo:=BG hi hp
   have e:=Hl x y n (hi%lo) lo hl dA (by lia)
   rw[Ci hg hp] at e
   rw[<-e]
   simp[Yg,DL.tB,Zp,Zd,eC,S5,Fl,asB,cT,Zb,Zk,gM hp,hp]
def lG (a b:Int):K3 [.int a,.int b]=.ok (.im (.int (Int.gcd a b:Nat))):=by
 have key:∀lo hi:Int,0<=lo->0<=hi->Int.gcd hi lo=Int.gcd a b->U7 [(a.natAbs:Int),(b.natAbs:Int)]=[lo,hi]->K3 [.int a,.int b]=.ok (.im (.int (Int.gcd a b:Nat))):=λlo hi h1 h2 h3 h4=>by
  have e:=Hl (some (.im (.int a))) (some (.im (.int b))) (lo.toNat+1) lo hi h2 h1 (by lia)
  have e2:=T1 (c:=DL.tB (Zp S5 (Zd 2) ↑0)) (f:=cT 2 3 (Zb (Zp Yk (Zd 3) (Zd 2)) (Zb (Zd 2) Zk))) (n:=lo.toNat+1) (sd:=[some (.im (.int a)),some (.im (.int b)),some (.im (.int lo)),some (.im (.int hi))]) (by rw[e];simp)
  rw[e,h3] at e2
  have hs:Kr Wz (Zb (X1 (Zb (Kr Kg (Zb (Zd 0) Zk)) (Zb (Kr Kg (Zb (Zd 1) Zk)) Zk))) Zk) [some (.im (.int a)),some (.im (.int b)),none,none]=.ok (.lst [.int lo,.int hi]):=by
   refine Jy (a1 (K8 (aC (Jy (a1 rfl) (Um a)) (a1 (Jy (a1 rfl) (Um b)))) rfl)) ?_
   simp[Wz,G9,few,h4]
  exact(YI _ _ _ _).trans (Qh (go (uZ hs) (go e2 (Z9 rfl))))
 by_cases hc:(a.natAbs:Int)<=b.natAbs
 .refine key a.natAbs b.natAbs (by lia) (by lia) ?_ ?_
  .simp[Int.gcd,JB]
  .simp only[U7,Mh];rw[AC hc]
 .refine key b.natAbs a.natAbs (by lia) (by lia) ?_ ?_
  .simp[Int.gcd]
  .simp only[U7,Mh];rw[AD hc]
def l9 {k:Nat}{t b:Int}(h:Fr k t b)(hk:k<=900):Yy [.int t,.int b]=.ok (.im (Kn t b)):=by
 have gp:=Bj (t:=t) (b:=b) (by have:=h.pos;lia)
 have gs:sm ((Int.gcd t b:Nat):Int)=true:=Ye (m9 h.top h.bot) hk
 exact(YI _ _ _ _).trans (Qh (go (Z3 (Z5 (aC rfl (a1 rfl)) (lG t b) rfl)) (Z9 (Js (Zn rfl rfl (By gp gs)) (Zn rfl rfl (By gp gs))))))
abbrev Io (d:D):Option S:=some (.im d)
abbrev Jo (i:Int):Option S:=some (.im (.int i))
section
variable {k:Nat}{a b c d:Int}
def Sr {p q p' q':Int}(hb:0<b)(hd:0<d)(hq:0<q)(SB:0<q')(m1:p*b=a*q)(m2:p'*d=c*q'):p*q'<p'*q↔a*d<c*b:=by
 have e1:p*q'*(b*d)=a*d*(q*q'):=by grind
 have e2:p'*q*(b*d)=c*b*(q*q'):=by grind
 have h1:=AU hb hd
 have h2:=AU hq SB
 constructor
 .intro h
  have:=BQ h h1
  rw[e1,e2] at this
  exact BB this (BW h2)
 .intro h
  have:=BQ h h2
  rw[<-e1,<-e2] at this
  exact BB this (BW h1)
end
def yR {t b t' b':Int}(hb:0<b)(RC:0<b'):Kn t b=Kn t' b'↔t*b'=t'*b:=by
 constructor
 .intro h
  obtain⟨p,q,e1,f1,m1,_⟩:=X8 (t:=t) hb
  obtain⟨p',q',e2,f2,m2,_⟩:=X8 (t:=t') RC
  rw[e1,e2] at h
  unfold nD at h
  injection h with h
  injection h with h1 h
  injection h with h2 _
  injection h1 with h1
  injection h2 with h2
  subst h1
  subst h2
  have:t*b'*q=t'*b*q:=by grind
  exact CZ (by lia) this
 .exact Jh hb RC
def Uo {p q:Int}(hq:0<q)(g:Int.gcd p q=1):Kn p q=nD p q:=by
 unfold Kn
 rw[g]
 simp
def sH (m:Nat)(f:Zf->M O)(a0:S):F3 1 m f [a0]=Wc (f ([some a0]++List.replicate m none)):=rfl
def dR (m:Nat)(f:Zf->M O)(a0 a1:S):F3 2 m f [a0,a1]=Wc (f ([some a0,some a1]++List.replicate m none)):=rfl
def cG (m:Nat)(f:Zf->M O)(a0 a1 a2:S):F3 3 m f [a0,a1,a2]=Wc (f ([some a0,some a1,some a2]++List.replicate m none)):=rfl
def tE (m:Nat)(f:Zf->M O)(a0 a1 a2 a3:S):F3 4 m f [a0,a1,a2,a3]=Wc (f ([some a0,some a1,some a2,some a3]++List.replicate m none)):=rfl
def QF (b:D)(sq h due lap:Int):Qs:=[("begin", b),("square", .int sq),("heading", .int h),("due", .int due),("lap", .int lap)]
def vo (b th:D)(sq h due lap now:Int)(ht:th.dep<=60):F_pass_line (QF b sq h due lap) [.int now,th]=some (if due=now then(if D.eq th (.str (Str.ofString "m"))=true then QF b sq (-h) (due+lap) lap else QF b (sq+h) h (due+lap) lap) else QF b sq h due lap):=by
 unfold F_pass_line VY
 rw[AC (by rfl)]
 have e1:gB (C7 Jx (V1 "due") (J2 (Zd 1))) (none::([D.int now,th].map (λd=>Io d)++List.replicate 0 none)) (QF b sq h due lap)=.ok (due==now):=by
  show(Jx (.int due) (.int now)).bind asB=_
  rw[Jg]
  rfl
 have e2:(DL.tB (Zp Jx (Zd 2) ↑"m") (none::([D.int now,th].map (λd=>Io d)++List.replicate 0 none)))=.ok (D.eq th (.str (Str.ofString "m"))):=by
  show(Jx th (.str (Str.ofString "m"))).bind asB=_
  rw[K5 ht]
  rfl
 unfold VZ
 rw[e1]
 by_cases hd:due=now
 .rw[AC hd,show(due==now)=true by simp[hd]]
  dsimp only[]
  rw[e2]
  cases D.eq th (.str (Str.ofString "m")) with
  |true=>rfl
  |false=>rfl
 .rw[AD hd,show(due==now)=false by simp[hd]]
  rfl
def Yj (sq h:Int):Int:=if 0<h then sq+1 else sq
def vm (a:Addr)(b:D)(sq h due lap:Int):Qk [.ob a "Track" (QF b sq h due lap)]=.ok (.im (.int (Yj sq h))):=by
 unfold Yj
 refine(sH _ _ _).trans (Qh (Z9 ?_))
 by_cases hh:0<h
 .rw[AC hh]
  exact Pg (Qv (Zn rfl rfl (show S5 (.int h) (.int 0)=.ok (.bl true) by show M.ok (D.bl (decide (h > 0)))=_;rw[AS hh]))) rfl
 .rw[AD hh]
  exact Sn (Qv (Zn rfl rfl (show S5 (.int h) (.int 0)=.ok (.bl false) by show M.ok (D.bl (decide (h > 0)))=_;rw[AR hh]))) rfl
def Up (i:Nat){sd:Zf}{a:Addr}{b:D}{sq h due lap:Int} (e:sd[i]?=some (some (.ob a "Track" (QF b sq h due lap)))):Xa i "Track" "line_ahead" Qk Zk sd=.ok (.int (Yj sq h)):=by
 unfold Xa
 rw[e]
 show(if _/\_ then _ else _)=_
 rw[AC ⟨rfl,rfl⟩]
 show W7 (Qk [.ob a "Track" (QF b sq h due lap)])=_
 rw[vm]
 rfl
def zw (a:Addr)(b:D)(sq due lap now:Int):Q8 [.ob a "Track" (QF b sq 0 due lap),.im (.int now)]=.ok (.im b):=by
 refine(dR _ _ _ _).trans ?_
 exact Qh (Yz (Q3 (Qv (Zn rfl rfl (show Jx (.int 0) (.int 0)=.ok (.bl true) by rw[Jg];rfl))) (Z9 rfl)))
def yQ {k:Nat}(a:Addr)(b:D){sq h due lap now:Int}(hh:h≠0)(hl:0<lap)(bl:lap.natAbs<=10 ^ k)(b1:(Yj sq h).natAbs<=10 ^ k)(b2:h.natAbs<=10 ^ k)(b3:(due-now).natAbs<=10 ^ k)(hk:k<=300):
  Q8 [.ob a "Track" (QF b sq h due lap),.im (.int now)]=.ok (.im (Kn (Yj sq h*lap-h*(due-now)) lap)):=by
 have hf:Fr (k+k+1) (Yj sq h*lap-h*(due-now)) lap:=⟨hl,Gg (Qt b1 bl) (Qt b2 b3),AV bl (K9 (by lia))⟩
 refine(dR _ _ _ _).trans ?_
 refine Qh (go (Z8 (Qv (Zn rfl rfl (show Jx (.int h) (.int 0)=.ok (.bl false) by rw[Jg];simp[hh])))) (Z9 (Z5 (aC (d:=.int (Yj sq h*lap-h*(due-now))) ?_ (a1 (d:=.int lap) rfl)) (Sq hf (by lia)) rfl)))
 exact Zn (Zn (Up 0 rfl) rfl (gT (Ye b1 (by lia)) (Ye bl (by lia)))) (Zn rfl (Zn rfl rfl rfl) (gT (Ye b2 (by lia)) (Ye b3 (by lia)))) rfl
def Zah {k:Nat}(a:Addr)(b:D){sq h due lap n d:Int}(hd:Fr k n d)(bl:lap.natAbs<=10 ^ k)(b1:(Yj sq h).natAbs<=10 ^ k)(b2:h.natAbs<=10 ^ k)(b3:due.natAbs<=10 ^ k)(hk:k<=100):
  Ke [.ob a "Track" (QF b sq h due lap),.im (nD n d)]=.ok (.im (Kn (due*d-h*(Yj sq h*d-n)*lap) d)):=by
 have s1:=Ye hd.top (by lia)
 have s2:=Ye hd.bot (by lia)
 have s3:=Ye bl (by lia)
 have s4:=Ye b1 (by lia)
 have s5:=Ye b2 (by lia)
 have s6:=Ye b3 (by lia)
 have h1:(Yj sq h*d-n).natAbs<=10 ^ (k+k+1):=Gg (Qt b1 hd.bot) (AV hd.top (K9 (by lia)))
 have h2:(h*(Yj sq h*d-n)).natAbs<=10 ^ (k+(k+k+1)):=Qt b2 h1
 have h3:(h*(Yj sq h*d-n)*lap).natAbs<=10 ^ (k+(k+k+1)+k):=Qt h2 bl
 have hf:Fr (k+(k+k+1)+k+1) (due*d-h*(Yj sq h*d-n)*lap) d:=⟨hd.pos,Gg (AV (Qt b3 hd.bot) (K9 (by lia))) h3,AV hd.bot (K9 (by lia))⟩
 refine(dR _ _ _ _).trans ?_
 refine Qh (go (Z3 (d:=.int (h*(Yj sq h*d-n))) (Zn rfl (Zn (Zn (Up 0 rfl) (Zy rfl rfl (Xx _ _ _)) (gT s4 s2)) (Zy rfl rfl (Y3 _ _)) rfl) (gT s5 (Ye h1 (by lia))))) (Z9 (Z5 (aC (d:=.int (due*d-h*(Yj sq h*d-n)*lap)) ?_ (a1 (d:=.int d) (Zy rfl rfl (Xx _ _ _)))) (Sq hf (by lia)) rfl)))
 exact Zn (Zn rfl (Zy rfl rfl (Xx _ _ _)) (gT s6 s2)) (Zn rfl rfl (gT (Ye h2 (by lia)) s3)) rfl
structure Po4 where
 a:Int
 b:Int
 c:Int
 d:Int
def Po4.D (p:Po4):D:=.tup [nD p.a p.b,nD p.c p.d]
structure PoOk (k:Nat) (p:Po4):Prop where
 x:Fr k p.a p.b
 y:Fr k p.c p.d
structure PIn (z:Nat) (p q:Int):Prop where
 fr:Fr 4 p q
 p0:0<p
 p1:p<(z:Int)*q
 g:Int.gcd p q=1
 nw:∀k:Int,k*q≠p
 q3:q<=1000
def l8 {z:Nat}{t b:Int}(hb:2<=b)(RC:b<=1000)(h0:0<t)(h1:t<(z:Int)*b)(z8:z<=8)(hm:t%b≠0):∃p q,PIn z p q/\Yy [.int t,.int b]=.ok (.im (nD p q)):=by
 have p4:(10:Nat) ^ 4=10000:=rfl
 have wb:(z:Int)*b<=8*1000:=LX (by lia) RC (by lia) (by lia)
 have hf:Fr 4 t b:=⟨by lia,by rw[p4];lia,by rw[p4];lia⟩
 have b0:0<b:=by lia
 obtain⟨p,q,el,q0,m,g,h3,h4⟩:=X8 (t:=t) b0
 refine⟨p,q,⟨⟨q0,by rw[p4];lia,by rw[p4];lia⟩,?_,?_,g,λk e=>hm ?_,by lia⟩,by rw[l9 hf (by decide),el]⟩
 .have:0<p*b:=by rw[m];exact AU h0 q0
  exact FY this b0
 .have h3:=BQ h1 q0
  rw[<-m,KF] at h3
  exact BB h3 (BW b0)
 .have:t*q=(k*b)*q:=by rw[<-m,<-e];grind
  have:=CZ (by lia) this
  rw[this]
  exact Int.mul_emod_left k b
structure PtOk (W H:Nat) (p:Po4):Prop where
 x:PIn W p.a p.b
 y:PIn H p.c p.d
def PtOk.ok {W H:Nat}{p:Po4}(h:PtOk W H p):PoOk 4 p:=⟨h.x.fr,h.y.fr⟩
def cz (ns:List Int)(k:Nat):Int:=(ns[k]?).getD 0
def E2 (ns:List Int)(k:Nat)(hl:ns.length<=63):Xd [.lst (ns.map D.int),.int (k:Int)]=.ok (.im (.int (cz ns k))):=by
 have e1:(k:Int)+1=((k+1:Nat):Int):=by lia
 have gk:S6 (ns.map D.int) (some (k:Int)) (some ((k:Int)+1))++[D.int 0]=D.int (cz ns k)::(if k<ns.length then [D.int 0] else []):=by
  unfold S6
  rw[e1,HT.sIx_nat,HT.sIx_nat,BM]
  by_cases hk:k<ns.length
  .rw[LM (by lia),LM (by lia),AC hk,<-List.map_drop,<-List.map_take,DB hk]
   have:k+1-k=1:=by lia
   rw[this,GP,LU]
   simp[cz,hk]
  .rw[LB (by lia),LB (by lia),AD hk,Nat.sub_self,LU]
   have:cz ns k=0:=by unfold cz;rw[JH (by lia)];rfl
   rw[this];rfl
 have sl:∀r:List (Option S),Ag (Zd 0) (Jb (Zd 1)) (Jb (Zp Q0 (Zd 1) ↑1)) (Io (.lst (ns.map D.int))::Jo (k:Int)::r)=.ok (.lst (S6 (ns.map D.int) (some (k:Int)) (some ((k:Int)+1)))):=λr=>rfl
 have lc:(S6 (ns.map D.int) (some (k:Int)) (some ((k:Int)+1))).length<=63:=by
  unfold S6
  rw[FX,HK,BM]
  lia
 have pl:=vq (xs:=S6 (ns.map D.int) (some (k:Int)) (some ((k:Int)+1))) (ys:=[D.int 0]) (by rw[DD];lia)
 rw[gk] at pl
 generalize ns.map D.int=N at sl pl
 refine(YI _ _ _ _).trans (Qh (Z9 (Zn (Zn (sl _) (K8 (a1 rfl) rfl) pl) rfl ?_)))
 simp[Tz,Y3]
structure Tk where
 n:Int
 m:Int
 sq:Int
 h:Int
 due:Int
 lap:Int
def Tk.r (t:Tk):Qs:=QF (nD t.n t.m) t.sq t.h t.due t.lap
def Tk.line (t:Tk):Int:=Yj t.sq t.h
structure TB (k:Nat) (t:Tk):Prop where
 fr:Fr k t.n t.m
 li:t.line.natAbs<=10 ^ k
 h:t.h.natAbs<=10 ^ k
 due:t.due.natAbs<=10 ^ k
 lap:t.lap.natAbs<=10 ^ k
def Tk.tm (t:Tk)(n d:Int):Int:=t.due*d-t.h*(t.line*d-n)*t.lap
def E3 (a b:Int):(nD a b).dep<=60:=by simp[nD,D.dep,D.deps]
def Bm (a b:Int):(Kn a b).dep<=60:=E3 _ _
def Cj (a b c d:Int):D.eq (nD a b) (nD c d)=decide (a=c/\b=d):=by
 simp only[nD,D.eq,D.eqs]
 by_cases h1:a=c<;>by_cases h2:b=d<;>simp[h1,h2]
def m8 {t b t' b':Int}(hb:0<b)(RC:0<b'):D.eq (Kn t b) (Kn t' b')=decide (t*b'=t'*b):=by
 have:=yR (t:=t) (t':=t') hb RC
 unfold Kn at this ⊢
 rw[Cj]
 refine decide_eq_decide.mpr ?_
 rw[<-this]
 unfold nD
 constructor
 .rintro⟨h1,h2⟩;rw[h1,h2]
 .intro h
  injection h with h
  injection h with h1 h
  injection h with h2 _
  injection h1 with h1
  injection h2 with h2
  exact⟨h1,h2⟩
noncomputable def YH:Zf->M O:=Jt (DL.tB (Zp Rr (Qy 4 "Track" "heading") ↑0)) (Ua 3 (Xa 4 "Track" "time_at" Ke (Zb (Zd 5) Zk)))
   (Jt (DL.tB (Zp Rr (Zd 5) (Qy 4 "Track" "begin"))) (Qq (eC .non)) Ys)
def Zhv {k:Nat}{a:Addr}{t:Tk}(o0 o1 o2:Option S)(ts:List D){n d:Int}(hb:TB k t)(hd:Fr k n d)(hk:k<=100)(hh:t.h≠0)(hl:ts.length<=10):
  YH [o0,o1,o2,some (.ow ts),some (.ob a "Track" t.r),Io (nD n d)]=.ok (.nx [o0,o1,o2,some (.ow (ts++[Kn (t.tm n d) d])),some (.ob a "Track" t.r),Io (nD n d)]):=by
 refine Q3 (Qv (Zn rfl rfl (show Rr (.int t.h) (.int 0)=.ok (.bl true) by rw[Gh (by simp[D.dep])];simp[D.eq,hh]))) (Ey rfl ?_ (by lia))
 unfold Xa
 simp only[ES,IT]
 rw[AC ⟨trivial,rfl⟩]
 show W7 (Ke [.ob a "Track" (QF (nD t.n t.m) t.sq t.h t.due t.lap),.im (nD n d)])=_
 rw[Zah a (nD t.n t.m) hd hb.lap hb.li hb.h hb.due hk]
 rfl
def Cn {a:Addr}{t:Tk}(o0 o1 o2:Option S)(ts:List D){n d:Int}(hh:t.h=0)(he:n=t.n/\d=t.m):
  YH [o0,o1,o2,some (.ow ts),some (.ob a "Track" t.r),Io (nD n d)]=.ok (.nx [o0,o1,o2,some (.ow ts),some (.ob a "Track" t.r),Io (nD n d)]):=by
 refine Hh (Qv (Zn rfl rfl (show Rr (.int t.h) (.int 0)=.ok (.bl false) by rw[Gh (by simp[D.dep])];simp[D.eq,hh]))) (Z8 (Qv (Zn rfl rfl (show Rr (nD n d) (nD t.n t.m)=.ok (.bl false) by rw[Gh (E3 _ _),Cj,AS he];rfl))))
def mz {a:Addr}{t:Tk}(o0 o1 o2:Option S)(ts:List D){n d:Int}(hh:t.h=0)(he:¬(n=t.n/\d=t.m)):
  YH [o0,o1,o2,some (.ow ts),some (.ob a "Track" t.r),Io (nD n d)]=.ok (.rt (.im .non)):=by
 refine Hh (Qv (Zn rfl rfl (show Rr (.int t.h) (.int 0)=.ok (.bl false) by rw[Gh (by simp[D.dep])];simp[D.eq,hh]))) (Q3 (Qv (Zn rfl rfl (show Rr (nD n d) (nD t.n t.m)=.ok (.bl true) by rw[Gh (E3 _ _),Cj,AR he];rfl))) (Z9 rfl))
inductive At (t u:Tk) (p:Po4):Int->Int->Prop
 |two:t.h≠0->u.h≠0->t.tm p.a p.b*p.d=u.tm p.c p.d*p.b->At t u p (t.tm p.a p.b) p.b
 |one:t.h≠0->u.h=0->p.c=u.n/\p.d=u.m->At t u p (t.tm p.a p.b) p.b
 |oth:t.h=0->p.a=t.n/\p.b=t.m->u.h≠0->At t u p (u.tm p.c p.d) p.d
def Cp (a b:Int):D.eq (Kn a b) (Kn a b)=true:=by
 unfold Kn
 rw[Cj,AS ⟨rfl,rfl⟩]
def uY (x:D):Ri [x] (-1)=some x:=rfl
def l7 (x y:D):Ri [x,y] (-1)=some y:=rfl
noncomputable def kr:Zf->M O:=Ml 3 (Qq (C6 (DL.tB (Zp Jx 3[0]! (Zp Tz (Zd 3) (YK Dz ↑1)))) 3[0]! (eC .non)))
def lF (o0 o1 o2 o4 o5:Option S)(a b:Int):kr [o0,o1,o2,some (.ow [Kn a b]),o4,o5]=.ok (.rt (.im (Kn a b))):=by
 refine P0 (Z9 (Pg (Qv (Zn (Jd rfl rfl (Y3 _ _)) (Jd rfl rfl (uY _)) (by rw[K5 (Bm _ _),Cp]))) (Jd rfl rfl (Y3 _ _))))
def tG (o0 o1 o2 o4 o5:Option S){a b c d:Int}(hb:0<b)(hd:0<d):kr [o0,o1,o2,some (.ow [Kn a b,Kn c d]),o4,o5]=.ok (.rt (.im (if a*d=c*b then Kn a b else .non))):=by
 by_cases h:a*d=c*b
 .rw[AC h]
  exact P0 (Z9 (Pg (Qv (Zn (Jd rfl rfl (Y3 _ _)) (Jd rfl rfl (l7 _ _)) (by rw[K5 (Bm _ _),m8 hb hd,AS h]))) (Jd rfl rfl (Y3 _ _))))
 .rw[AD h]
  exact P0 (Z9 (Sn (Qv (Zn (Jd rfl rfl (Y3 _ _)) (Jd rfl rfl (l7 _ _)) (by rw[K5 (Bm _ _),m8 hb hd,AR h]))) rfl))
def yP {it ip i1 i2:Nat}{f1 f2:Zf->M D}{f:Zf->M O}{sd s1 s2:Zf}{o1 o2:S}{d1 d2:D}(e1:sd[i1]?=some (some o1))(e2:sd[i2]?=some (some o2))(h1:Wh o1=true)(h2:Wh o2=true)(g1:f1 sd=.ok d1)(g2:f2 sd=.ok d2)(k1:f ((sd.set it (some o1)).set ip (Io d1))=.ok (.nx s1)){r:M O}(k2:f ((s1.set it (some o2)).set ip (Io d2))=r)(hr:(∃s2,r=.ok (.nx s2))\/∃s,r=.ok (.rt s)):W9 it ip i1 i2 f1 f2 f sd=r:=by
 unfold W9
 rw[e1,e2]
 show(if(Wh o1&&Wh o2)=true then _ else _)=_
 rw[h1,h2,AC (show(true&&true)=true from rfl),g1]
 show(f2 sd).bind _=_
 rw[g2]
 show Kz it ip f [(o1,d1),(o2,d2)] sd=_
 unfold Kz
 rw[k1]
 show Kz it ip f [(o2,d2)] s1=_
 unfold Kz
 rw[k2]
 rcases hr with⟨s2,rfl⟩|⟨s,rfl⟩
 .rfl
 .rfl
def yN {it ip i1 i2:Nat}{f1 f2:Zf->M D}{f:Zf->M O}{sd:Zf}{o1 o2:S}{d1 d2:D}{s:S}(e1:sd[i1]?=some (some o1))(e2:sd[i2]?=some (some o2))(h1:Wh o1=true)(h2:Wh o2=true)(g1:f1 sd=.ok d1)(g2:f2 sd=.ok d2)(k1:f ((sd.set it (some o1)).set ip (Io d1))=.ok (.rt s)):W9 it ip i1 i2 f1 f2 f sd=.ok (.rt s):=by
 unfold W9
 rw[e1,e2]
 show(if(Wh o1&&Wh o2)=true then _ else _)=_
 rw[h1,h2,AC (show(true&&true)=true from rfl),g1]
 show(f2 sd).bind _=_
 rw[g2]
 show Kz it ip f [(o1,d1),(o2,d2)] sd=_
 unfold Kz
 rw[k1]
 rfl
section
variable {k:Nat}{a1 a2:Addr}{t u:Tk}{p:Po4}
def Bn {s1:Zf}{r:M O} (k1:YH [some (.ob a1 "Track" t.r),some (.ob a2 "Track" u.r),Io p.D,some (.ow []),some (.ob a1 "Track" t.r),Io (nD p.a p.b)]=.ok (.nx s1)) (k2:YH ((s1.set 4 (some (.ob a2 "Track" u.r))).set 5 (Io (nD p.c p.d)))=r) (hr:(∃s2,r=.ok (.nx s2))\/∃s,r=.ok (.rt s)):
  W9 4 5 0 1 2[0]! 2[1]! YH [some (.ob a1 "Track" t.r),some (.ob a2 "Track" u.r),Io p.D,some (.ow []),none,none]=r:=
 yP (s2:=[]) (sd:=[some (.ob a1 "Track" t.r),some (.ob a2 "Track" u.r),Io p.D,some (.ow []),none,none]) (o1:=.ob a1 "Track" t.r) (o2:=.ob a2 "Track" u.r) (d1:=nD p.a p.b) (d2:=nD p.c p.d) rfl rfl rfl rfl (Zy rfl rfl (Y3 _ _)) (Zy rfl rfl (Xx _ _ _)) k1 k2 hr
def yM {s:S} (k1:YH [some (.ob a1 "Track" t.r),some (.ob a2 "Track" u.r),Io p.D,some (.ow []),some (.ob a1 "Track" t.r),Io (nD p.a p.b)]=.ok (.rt s)):
  W9 4 5 0 1 2[0]! 2[1]! YH [some (.ob a1 "Track" t.r),some (.ob a2 "Track" u.r),Io p.D,some (.ow []),none,none]=.ok (.rt s):=
 yN (sd:=[some (.ob a1 "Track" t.r),some (.ob a2 "Track" u.r),Io p.D,some (.ow []),none,none]) (o1:=.ob a1 "Track" t.r) (o2:=.ob a2 "Track" u.r) (d1:=nD p.a p.b) (d2:=nD p.c p.d) rfl rfl rfl rfl (Zy rfl rfl (Y3 _ _)) (Zy rfl rfl (Xx _ _ _)) k1
def Ll (ht:TB k t)(hu:TB k u)(hp:PoOk k p)(hk:k<=100)(hm:t.h≠0\/u.h≠0):∃d,F_time_to [.ob a1 "Track" t.r,.ob a2 "Track" u.r,.im p.D]=.ok (.im d)/\((d=.non/\∀x y,¬At t u p x y)\/∃x y,At t u p x y/\d=Kn x y):=by
 have tA:=@Zhv k a1 t (some (.ob a1 "Track" t.r)) (some (.ob a2 "Track" u.r)) (Io p.D) [] p.a p.b ht hp.x hk
 have tB:=@Zhv k a2 u (some (.ob a1 "Track" t.r)) (some (.ob a2 "Track" u.r)) (Io p.D)
 by_cases h1:t.h=0
 .have h2:u.h≠0:=hm.resolve_left (λz=>z h1)
  by_cases he:p.a=t.n/\p.b=t.m
  .refine⟨Kn (u.tm p.c p.d) p.d,(cG _ _ _ _ _).trans (Qh (go (U1 3 _) (go (Bn (Cn _ _ _ [] h1 he) (tB [] hu hp.y hk h2 (by decide)) (.inl ⟨_,rfl⟩)) (lF _ _ _ _ _ _ _)))),.inr ⟨_,_,.oth h1 he h2,rfl⟩⟩
  .refine⟨.non,(cG _ _ _ _ _).trans (Qh (go (U1 3 _) (Yz (yM (mz _ _ _ [] h1 he))))),.inl ⟨rfl,λx y h=>?_⟩⟩
   cases h with
   |two a b c=>exact a h1
   |one a b c=>exact a h1
   |oth a b c=>exact he b
 .by_cases h2:u.h=0
  .by_cases he:p.c=u.n/\p.d=u.m
   .refine⟨Kn (t.tm p.a p.b) p.b,(cG _ _ _ _ _).trans (Qh (go (U1 3 _) (go (Bn (tA h1 (by decide)) (Cn _ _ _ _ h2 he) (.inl ⟨_,rfl⟩)) (lF _ _ _ _ _ _ _)))),.inr ⟨_,_,.one h1 h2 he,rfl⟩⟩
   .refine⟨.non,(cG _ _ _ _ _).trans (Qh (go (U1 3 _) (Yz (Bn (tA h1 (by decide)) (mz _ _ _ _ h2 he) (.inr ⟨_,rfl⟩))))),.inl ⟨rfl,λx y h=>?_⟩⟩
    cases h with
    |two a b c=>exact b h2
    |one a b c=>exact he c
    |oth a b c=>exact h1 a
  .refine⟨_,(cG _ _ _ _ _).trans (Qh (go (U1 3 _) (go (Bn (tA h1 (by decide)) (tB _ hu hp.y hk h2 (by simp)) (.inl ⟨_,rfl⟩)) (tG _ _ _ _ _ hp.x.pos hp.y.pos)))),?_⟩
   by_cases he:t.tm p.a p.b*p.d=u.tm p.c p.d*p.b
   .rw[AC he]
    exact .inr ⟨_,_,.two h1 h2 he,rfl⟩
   .rw[AD he]
    refine .inl ⟨rfl,λx y h=>?_⟩
    cases h with
    |two a b c=>exact he c
    |one a b c=>exact h2 b
    |oth a b c=>exact h1 a
end
def tval (t u:Tk)(p:Po4):Option (Int×Int):=
 if t.h≠0 then(if u.h≠0 then(if t.tm p.a p.b*p.d=u.tm p.c p.d*p.b then some (t.tm p.a p.b,p.b) else none) else if p.c=u.n/\p.d=u.m then some (t.tm p.a p.b,p.b) else none)
 else if p.a=t.n/\p.b=t.m then some (u.tm p.c p.d,p.d) else none
def tD:Option (Int×Int)->D
 |some xy=>Kn xy.1 xy.2
 |none=>.non
def yL {k:Nat}{a1 a2:Addr}{t u:Tk}{p:Po4}(ht:TB k t)(hu:TB k u)(hp:PoOk k p)(hk:k<=100)(hm:t.h≠0\/u.h≠0):F_time_to [.ob a1 "Track" t.r,.ob a2 "Track" u.r,.im p.D]=.ok (.im (tD (tval t u p))):=by
 obtain⟨d,e,h⟩:=Ll (a1:=a1) (a2:=a2) ht hu hp hk hm
 rw[e]
 congr 2
 unfold tval
 rcases h with⟨rfl,h⟩|⟨x,y,h,rfl⟩
 .by_cases h1:t.h=0
  .have h2:=hm.resolve_left (λz=>z h1)
   rw[AD (λz=>z h1)]
   by_cases he:p.a=t.n/\p.b=t.m
   .exact absurd (.oth h1 he h2) (h _ _)
   .rw[AD he];rfl
  .rw[AC h1]
   by_cases h2:u.h=0
   .rw[AD (λz=>z h2)]
    by_cases he:p.c=u.n/\p.d=u.m
    .exact absurd (.one h1 h2 he) (h _ _)
    .rw[AD he];rfl
   .rw[AC h2]
    by_cases he:t.tm p.a p.b*p.d=u.tm p.c p.d*p.b
    .exact absurd (.two h1 h2 he) (h _ _)
    .rw[AD he];rfl
 .cases h with
  |two a b c=>rw[AC a,AC b,AC c];rfl
  |one a b c=>rw[AC a,AD (λz=>z b),AC c];rfl
  |oth a b c=>rw[AD (λz=>z a),AC b];rfl
def iy {k:Nat}{t:Tk}{n d:Int}(ht:TB k t)(h:Fr k n d):Fr (k+(k+k+1)+k+1) (t.tm n d) d:=by
 have h1:(t.line*d-n).natAbs<=10 ^ (k+k+1):=Gg (Qt ht.li h.bot) (AV h.top (K9 (by lia)))
 have h3:(t.h*(t.line*d-n)*t.lap).natAbs<=10 ^ (k+(k+k+1)+k):=Qt (Qt ht.h h1) ht.lap
 exact⟨h.pos,Gg (AV (Qt ht.due h.bot) (K9 (by lia))) h3,AV h.bot (K9 (by lia))⟩
def Hm {k:Nat}{t u:Tk}{p:Po4}{xy:Int×Int}(ht:TB k t)(hu:TB k u)(hp:PoOk k p)(h:tval t u p=some xy):Fr (k+(k+k+1)+k+1) xy.1 xy.2:=by
 unfold tval at h
 split at h
 .split at h
  .split at h
   .cases h;exact iy ht hp.x
   .cases h
  .split at h
   .cases h;exact iy ht hp.x
   .cases h
 .split at h
  .cases h;exact iy hu hp.y
  .cases h
abbrev C8:=Option (Po4×Int×Int)
def Yq (c:Po4->Option (Int×Int))(s:C8)(p:Po4):C8:=match c p with
 |none=>s
 |some (x,y)=>match s with
  |none=>some (p,x,y)
  |some (q,x',y')=>if x*y'<x'*y then some (p,x,y) else some (q,x',y')
def Qw (c:Option (Int×Int))(lo hi:Int):Option (Int×Int):=match c with
 |some (x,y)=>if lo*y<x/\x<hi*y then some (x,y) else none
 |none=>none
def Wo {c:Option (Int×Int)}{lo hi x y:Int}(h:c=some (x,y))(a:lo*y<x/\x<hi*y):Qw c lo hi=some (x,y):=by rw[h];exact AC a
def Vw {c:Option (Int×Int)}{lo hi x y:Int}(h:c=some (x,y))(a:¬(lo*y<x/\x<hi*y)):Qw c lo hi=none:=by rw[h];exact AD a
def Ji {c:Po4->Option (Int×Int)}{s:C8}{p:Po4}(h:c p=none):Yq c s p=s:=by unfold Yq;rw[h]
def Lm {c:Po4->Option (Int×Int)}{p:Po4}{x y:Int}(h:c p=some (x,y)):Yq c none p=some (p,x,y):=by unfold Yq;rw[h]
def Cq {c:Po4->Option (Int×Int)}{p q:Po4}{x y x' y':Int}(h:c p=some (x,y))(hl:x*y'<x'*y):Yq c (some (q,x',y')) p=some (p,x,y):=by unfold Yq;rw[h];exact AC hl
def Cs {c:Po4->Option (Int×Int)}{p q:Po4}{x y x' y':Int}(h:c p=some (x,y))(hl:¬x*y'<x'*y):Yq c (some (q,x',y')) p=some (q,x',y'):=by unfold Yq;rw[h];exact AD hl
def Tj:C8->D
 |none=>.non
 |some (p,_,_)=>p.D
def Ct (wt:Int):C8->D
 |none=>nD wt 1
 |some (_,x,y)=>Kn x y
noncomputable def ko:Zf->M O:=Zw (Z7 7 (Sa F_time_to (Ub 1 (Ub 2 (Az (Zd 6) Ay)))))
   (Jt (tA (DL.tB (Zp Jj (Zd 7) (eC .non))) (tA (DL.tB (Z1 Kb (Zb (Qi (Zb ↑0 (Zb ↑1 Zk))) (Zb (Zd 7) Zk)))) (DL.tB (Z1 Kb (Zb (Zd 7) (Zb (Zd 5) Zk))))))
    (Zw (Z7 4 (Zd 6)) (Z7 5 (Zd 7))) Ys)
def cF (k:Nat):C8->Prop
 |none=>True
 |some (_,x,y)=>Fr k x y
section
variable {k:Nat}{ad1 ad2:Addr}{t u:Tk}{wt:Int}
def zv (sd:Zf)(x y:Int)(e:sd[7]?=some (Io (Kn x y))):DL.tB (Zp Jj (Zd 7) (eC .non)) sd=.ok true:=by
 refine Qv (Zn (x:=Kn x y) (y:=.non) ?_ rfl rfl)
 unfold Zd;rw[e]
def yK (fl:S)(ht:TB k t)(hu:TB k u)(hk:k<=60)(hm:t.h≠0\/u.h≠0)(hw:Fr k wt 1){p:Po4}(hp:PoOk k p){s:C8}(hs:cF (k+(k+k+1)+k+1) s)(hs':∀q x y,s=some (q,x,y)->x<wt*y)(v7:Option S):
  ∃w7,ko [some fl,some (.ob ad1 "Track" t.r),some (.ob ad2 "Track" u.r),Jo wt,Io (Tj s),Io (Ct wt s),Io p.D,v7] =
   .ok (.nx [some fl,some (.ob ad1 "Track" t.r),some (.ob ad2 "Track" u.r),Jo wt,Io (Tj (Yq (λp=>Qw (tval t u p) 0 wt) s p)),Io (Ct wt (Yq (λp=>Qw (tval t u p) 0 wt) s p)),Io p.D,w7]):=by
 have e1:Sa F_time_to (Ub 1 (Ub 2 (Az (Zd 6) Ay))) [some fl,some (.ob ad1 "Track" t.r),some (.ob ad2 "Track" u.r),Jo wt,Io (Tj s),Io (Ct wt s),Io p.D,v7]=.ok (tD (tval t u p)):=by
  show W7 (F_time_to [.ob ad1 "Track" t.r,.ob ad2 "Track" u.r,.im p.D])=_
  rw[yL ht hu hp (by lia) hm]
  rfl
 refine⟨Io (tD (tval t u p)),go (Z3 e1) ?_⟩
 cases ev:tval t u p with
 |none=>
  rw[Ji (show Qw (tval t u p) 0 wt=none by rw[ev];rfl)]
  exact Z8 (az (Qv (Zn (g:=Jj) (x:=.non) (y:=.non) rfl rfl rfl)))
 |some xy=>
  obtain⟨x,y⟩:=xy
  have hf:=Hm ht hu hp ev
  obtain⟨n,d,el,hnd,em,_⟩:=E1 hf
  have b0:DL.tB (Z1 Kb (Zb (Qi (Zb ↑0 (Zb ↑1 Zk))) (Zb (Zd 7) Zk))) [some fl,some (.ob ad1 "Track" t.r),some (.ob ad2 "Track" u.r),Jo wt,Io (Tj s),Io (Ct wt s),Io p.D,Io (Kn x y)]=.ok (decide (0<x)):=by
   refine Qv (Z5 (aC (Js rfl rfl) (a1 (d:=nD n d) ?_)) (P3 (k:=k+(k+k+1)+k+1) ⟨by decide,by simp,JI (by decide)⟩ hnd (by lia)) ?_)
   .show M.ok (Kn x y)=_
    rw[el]
   .show M.ok (D.bl (decide (0*d<n*1)))=_
    congr 3
    have:=Sr (a:=0) (b:=1) (c:=x) (d:=y) (p:=0) (q:=1) (p':=n) (q':=d) (by decide) hf.pos (by decide) hnd.pos rfl em
    simp only[FJ,CL] at this ⊢
    exact propext this
  have b1:∃sx sy,0<sy/\(s=none->sx=wt/\sy=1)/\(∀q x' y',s=some (q,x',y')->sx=x'/\sy=y')/\DL.tB (Z1 Kb (Zb (Zd 7) (Zb (Zd 5) Zk))) [some fl,some (.ob ad1 "Track" t.r),some (.ob ad2 "Track" u.r),Jo wt,Io (Tj s),Io (Ct wt s),Io p.D,Io (Kn x y)]=.ok (decide (x*sy<sx*y)):=by
   cases s with
   |none=>
    refine⟨wt,1,by decide,λ_=>⟨rfl,rfl⟩,(λ_ _ _ h=>by cases h),Qv (Z5 (aC (d:=nD n d) ?_ (a1 (d:=nD wt 1) rfl)) (P3 hnd (hw.mono (by lia)) (by lia)) ?_)⟩
    .show M.ok (Kn x y)=_
     rw[el]
    .show M.ok (D.bl (decide (n*1<wt*d)))=_
     congr 3
     exact propext (Sr (a:=x) (b:=y) (c:=wt) (d:=1) hf.pos (by decide) hnd.pos (by decide) em rfl)
   |some z=>
    obtain⟨q,x',y'⟩:=z
    have hs:Fr _ x' y':=hs
    obtain⟨n',d',ra,hnd',rZ,_⟩:=E1 hs
    refine⟨x',y',hs.pos,(λh=>by cases h),(λ_ _ _ h=>by cases h;exact⟨rfl,rfl⟩),Qv (Z5 (aC (d:=nD n d) ?_ (a1 (d:=nD n' d') ?_)) (P3 hnd hnd' (by lia)) ?_)⟩
    .show M.ok (Kn x y)=_
     rw[el]
    .show M.ok (Kn x' y')=_
     rw[ra]
    .show M.ok (D.bl (decide (n*d'<n'*d)))=_
     congr 3
     exact propext (Sr hf.pos hs.pos hnd.pos hnd'.pos em rZ)
  obtain⟨sx,sy,oj,n1,n2,b1⟩:=b1
  have nn:DL.tB (Zp Jj (Zd 7) (eC .non)) [some fl,some (.ob ad1 "Track" t.r),some (.ob ad2 "Track" u.r),Jo wt,Io (Tj s),Io (Ct wt s),Io p.D,Io (Kn x y)]=.ok true:=zv _ x y rfl
  by_cases h0:0<x
  .by_cases h1:x*sy<sx*y
   .have acc:0*y<x/\x<wt*y:=by
     refine⟨by lia,?_⟩
     cases gD:s with
     |none=>obtain⟨rfl,rfl⟩:=n1 gD;lia
     |some z=>
      obtain⟨q,x',y'⟩:=z
      obtain⟨rfl,rfl⟩:=n2 _ _ _ gD
      have h2:=hs' _ _ _ gD
      have h3:=BQ h2 hf.pos
      have h4:x*sy<wt*y*sy:=by
       refine Int.lt_trans h1 ?_
       rw[KF]
       exact h3
      exact BB h4 (BW oj)
    refine(Q3 (Ti nn (Ti (b0.trans (by rw[AS h0])) (b1.trans (by rw[AS h1])))) (go (Z3 rfl) (Z3 rfl))).trans ?_
    have aL:=Wo ev acc
    cases s with
    |none=>rw[Lm (c:=λp=>Qw (tval t u p) 0 wt) aL];rfl
    |some z=>
     obtain⟨q,x',y'⟩:=z
     obtain⟨rfl,rfl⟩:=n2 _ _ _ rfl
     rw[Cq (c:=λp=>Qw (tval t u p) 0 wt) aL h1]
     rfl
   .refine(Z8 (Ti nn (Ti (b0.trans (by rw[AS h0])) (b1.trans (by rw[AR h1]))))).trans ?_
    cases s with
    |none=>
     obtain⟨rfl,rfl⟩:=n1 rfl
     rw[Ji (c:=λp=>Qw (tval t u p) 0 sx) (Vw ev (by lia))]
     rfl
    |some z=>
     obtain⟨q,x',y'⟩:=z
     obtain⟨rfl,rfl⟩:=n2 _ _ _ rfl
     by_cases acc:0*y<x/\x<wt*y
     .rw[Cs (c:=λp=>Qw (tval t u p) 0 wt) (Wo ev acc) h1];rfl
     .rw[Ji (c:=λp=>Qw (tval t u p) 0 wt) (Vw ev acc)];rfl
  .refine(Z8 (Ti nn (az (b0.trans (by rw[AR h0]))))).trans ?_
   rw[Ji (c:=λp=>Qw (tval t u p) 0 wt) (Vw ev (by lia))]
   rfl
def zu (ht:TB k t)(hu:TB k u){p:Po4}(hp:PoOk k p){s:C8}(hs:cF (k+(k+k+1)+k+1) s/\∀q x y,s=some (q,x,y)->x<wt*y):
  cF (k+(k+k+1)+k+1) (Yq (λp=>Qw (tval t u p) 0 wt) s p)/\∀q x y,Yq (λp=>Qw (tval t u p) 0 wt) s p=some (q,x,y)->x<wt*y:=by
 cases ev:tval t u p with
 |none=>
  rw[Ji (show Qw (tval t u p) 0 wt=none by rw[ev];rfl)]
  exact hs
 |some xy=>
  obtain⟨x,y⟩:=xy
  have hf:=Hm ht hu hp ev
  by_cases acc:0*y<x/\x<wt*y
  .have aL:=Wo ev acc
   have new:cF (k+(k+k+1)+k+1) (some (p,x,y))/\∀q x' y',some (p,x,y)=some (q,x',y')->x'<wt*y':=⟨hf,λq x' y' h=>by cases h;exact acc.2⟩
   cases s with
   |none=>rw[Lm (c:=λp=>Qw (tval t u p) 0 wt) aL];exact new
   |some z=>
    obtain⟨q,x',y'⟩:=z
    by_cases hl:x*y'<x'*y
    .rw[Cq (c:=λp=>Qw (tval t u p) 0 wt) aL hl];exact new
    .rw[Cs (c:=λp=>Qw (tval t u p) 0 wt) aL hl];exact hs
  .rw[Ji (c:=λp=>Qw (tval t u p) 0 wt) (Vw ev acc)]
   exact hs
theorem Hn (fl:S)(ht:TB k t)(hu:TB k u)(hk:k<=60)(hm:t.h≠0\/u.h≠0)(hw:Fr k wt 1):∀(ps:List Po4) (s:C8) (v6 v7:Option S),(∀p∈ps,PoOk k p)->(cF (k+(k+k+1)+k+1) s/\∀q x y,s=some (q,x,y)->x<wt*y) ->
  ∃w6 w7,Jc (Ut 6) ko (ps.map Po4.D) [some fl,some (.ob ad1 "Track" t.r),some (.ob ad2 "Track" u.r),Jo wt,Io (Tj s),Io (Ct wt s),v6,v7] =
   .ok (.nx [some fl,some (.ob ad1 "Track" t.r),some (.ob ad2 "Track" u.r),Jo wt,Io (Tj (ps.foldl (Yq (λp=>Qw (tval t u p) 0 wt)) s)),Io (Ct wt (ps.foldl (Yq (λp=>Qw (tval t u p) 0 wt)) s)),w6,w7])
 |[],s,v6,v7,_,_=>⟨v6,v7,rfl⟩
 |p::ps,s,v6,v7,hp,hs=>by
  obtain⟨w7,e⟩:=yK (ad1:=ad1) (ad2:=ad2) fl ht hu hk hm hw (hp p (AX ..)) hs.1 hs.2 v7
  obtain⟨x6,x7,e2⟩:=Hn fl ht hu hk hm hw ps (Yq (λp=>Qw (tval t u p) 0 wt) s p) (Io p.D) w7 (λq hq=>hp q (AQ _ hq)) (zu ht hu (hp p (AX ..)) hs)
  exact⟨x6,x7,(Vv rfl e).trans e2⟩
def ix (q:List (List Q9×D))(x y:Int)(ps:List Po4):Prop:=(Yu q [.inl x,.inl y]=some (.lst (ps.map Po4.D)))\/(Yu q [.inl x,.inl y]=none/\ps=[])
def yJ (a:Addr)(g:D){q:List (List Q9×D)}{ps:List Po4}(hh:ix q t.sq u.sq ps)(ht:TB k t)(hu:TB k u)(hk:k<=60)(hm:t.h≠0\/u.h≠0)(hw:Fr k wt 1)(hp:∀p∈ps,PoOk k p):
  F_person_ahead [.fl a g q,.ob ad1 "Track" t.r,.ob ad2 "Track" u.r,.im (.int wt)]=.ok (.im (Tj (ps.foldl (Yq (λp=>Qw (tval t u p) 0 wt)) none))):=by
 obtain⟨w6,w7,e⟩:=Hn (ad1:=ad1) (ad2:=ad2) (.fl a g q) ht hu hk hm hw ps none none none hp ⟨trivial,λ_ _ _ h=>by cases h⟩
 have e1:W0 (Sb 0 Xw (Zb (Qi (Zb (Qy 1 "Track" "square") (Zb (Qy 2 "Track" "square") Zk))) Zk)) [some (.fl a g q),some (.ob ad1 "Track" t.r),some (.ob ad2 "Track" u.r),Jo wt,Io .non,Io (nD wt 1),none,none]=.ok (ps.map Po4.D):=by
  have e2:Sb 0 Xw (Zb (Qi (Zb (Qy 1 "Track" "square") (Zb (Qy 2 "Track" "square") Zk))) Zk) [some (.fl a g q),some (.ob ad1 "Track" t.r),some (.ob ad2 "Track" u.r),Jo wt,Io .non,Io (nD wt 1),none,none]=.ok ((Yu q [.inl t.sq,.inl u.sq]).getD (.tup [])):=by
   show W7 (Xw [.fl a g q,.im (.tup [.int t.sq,.int u.sq])])=_
   rfl
  rcases hh with h|⟨h,rfl⟩
  .rw[h] at e2
   exact iz e2
  .rw[h] at e2
   exact jA e2
 exact(tE _ _ _ _ _ _).trans (Qh (go (Z3 rfl) (go (Z3 (Js rfl rfl)) (go ((Vu e1).trans e) (Z9 rfl)))))
end
structure Sd where
 up:Bool
 x:Int
 y:Int
 f:Bool
 g:Bool
def fc (b:Bool):D:=.str (if b=true then Str.ofString "m" else Str.ofString "p")
def kd (b:Bool):D:=.str (if b=true then Str.ofString "up" else Str.ofString "flat")
def Sd.D (s:Sd):D:=.tup [kd s.up,.int s.x,.int s.y,fc s.f,fc s.g]
def Qo (W H:Int)(ss:List Sd):D:=.tup [.int W,.int H,.tup (ss.map Sd.D)]
def Sd.at (s:Sd)(u:Bool)(x y:Int):Bool:=decide (s.up=u/\s.x=x/\s.y=y)
def Yl (W H:Int)(ss:List Sd)(u:Bool)(x y:Int):Option (Bool×Bool):=match ss.find? (λs=>s.at u x y) with
 |some s=>some (s.f,s.g)
 |none=>if(if u=true then x else y)=0\/(if u=true then x else y)=(if u=true then W else H) then some (false,false) else none
def iu:Option (Bool×Bool)->D
 |some (f,g)=>.tup [fc f,fc g]
 |none=>.non
def l6 (a b:Bool):D.eq (kd a) (kd b)=decide (a=b):=by cases a<;>cases b<;>rfl
def yH (s:Sd)(u:Bool)(x y:Int):D.eq (.tup [kd s.up,.int s.x,.int s.y]) (.tup [kd u,.int x,.int y])=s.at u x y:=by
 unfold Sd.at
 simp only[D.eq,D.eqs,l6]
 by_cases h1:s.up=u<;>by_cases h2:s.x=x<;>by_cases h3:s.y=y<;>simp[h1,h2,h3]
def Cu (b:Bool)(x y:Int):(D.tup [kd b,.int x,.int y]).dep<=60:=by cases b<;>simp[kd,D.dep,D.deps]
def fB:Zf->M O:=Jt (DL.tB (Zp Jx (Ag (Zd 4) Ku (Jb ↑3)) (Qi (Zb (Zd 1) (Zb (Zd 2) (Zb (Zd 3) Zk)))))) (Qq (Ag (Zd 4) (Jb ↑3) Ku)) Ys
def Tl {fa fb fc:Zf->M D}{sd:Zf}{a b c:D}(h1:fa sd=.ok a)(h2:fb sd=.ok b)(h3:fc sd=.ok c):Qi (Zb fa (Zb fb (Zb fc Zk))) sd=.ok (.tup [a,b,c]):=by
 unfold Qi
 rw[aC h1 (aC h2 (Law.a1 h3))]
 rfl
theorem mw (h0:Option S)(u:Bool)(x y:Int):∀(ss:List Sd) (v:Option S),(∃s,ss.find? (λs=>s.at u x y)=some s/\Jc (Ut 4) fB (ss.map Sd.D) [h0,Io (kd u),Jo x,Jo y,v]=.ok (.rt (.im (.tup [fc s.f,fc s.g])))) \/
  (ss.find? (λs=>s.at u x y)=none/\∃w,Jc (Ut 4) fB (ss.map Sd.D) [h0,Io (kd u),Jo x,Jo y,v]=.ok (.nx [h0,Io (kd u),Jo x,Jo y,w]))
 |[],v=>.inr ⟨rfl,v,rfl⟩
 |s::ss,v=>by
  have e1:DL.tB (Zp Jx (Ag (Zd 4) Ku (Jb ↑3)) (Qi (Zb (Zd 1) (Zb (Zd 2) (Zb (Zd 3) Zk))))) [h0,Io (kd u),Jo x,Jo y,Io s.D]=.ok (s.at u x y):=by
   refine Qv (Zn (x:=.tup [kd s.up,.int s.x,.int s.y]) rfl (Tl rfl rfl rfl) ?_)
   rw[K5 (Cu _ _ _),yH]
  by_cases h:s.at u x y=true
  .refine .inl ⟨s,by rw[BX,h],?_⟩
   rw[h] at e1
   have e2:fB [h0,Io (kd u),Jo x,Jo y,Io s.D]=.ok (.rt (.im (.tup [fc s.f,fc s.g]))):=Q3 e1 (Z9 rfl)
   unfold List.map Jc
   show(fB [h0,Io (kd u),Jo x,Jo y,Io s.D]).bind _=_
   rw[e2]
   rfl
  .have hf:s.at u x y=false:=by cases hh:s.at u x y;rfl;exact absurd hh h
   rw[hf] at e1
   have e2:fB [h0,Io (kd u),Jo x,Jo y,Io s.D]=.ok (.nx [h0,Io (kd u),Jo x,Jo y,Io s.D]):=Z8 e1
   rcases mw h0 u x y ss (Io s.D) with⟨s',g1,g2⟩|⟨g1,w,g2⟩
   .exact .inl ⟨s',by rw[BX,hf];exact g1,(Vv rfl e2).trans g2⟩
   .exact .inr ⟨by rw[BX,hf];exact g1,w,(Vv rfl e2).trans g2⟩
def vk (W H:Int)(u:Bool)(x y:Int):∃d,Q7 [.int W,.int H,kd u,.int x,.int y]=.ok (.im d)/\(d=.non↔¬((if u=true then x else y)=0\/(if u=true then x else y)=(if u=true then W else H))):=by
 have e5:C6 (DL.tB (Zp Jx (Zd 2) ↑"up")) (Zd 3) (Zd 4) [Jo W,Jo H,Io (kd u),Jo x,Jo y,none,none]=.ok (.int (if u=true then x else y)):=by
  cases u
  .exact Sn (Qv (Zn rfl rfl (by rw[K5 (by simp[kd,D.dep])];rfl))) rfl
  .exact Pg (Qv (Zn rfl rfl (by rw[K5 (by simp[kd,D.dep])];rfl))) rfl
 have e6:∀z,C6 (DL.tB (Zp Jx (Zd 2) ↑"up")) (Zd 0) (Zd 1) [Jo W,Jo H,Io (kd u),Jo x,Jo y,z,none]=.ok (.int (if u=true then W else H)):=λz=>by
  cases u
  .exact Sn (Qv (Zn rfl rfl (by rw[K5 (by simp[kd,D.dep])];rfl))) rfl
  .exact Pg (Qv (Zn rfl rfl (by rw[K5 (by simp[kd,D.dep])];rfl))) rfl
 generalize (if u=true then x else y)=l at *
 generalize (if u=true then W else H)=m at *
 by_cases h0:l=0
 .exact⟨.int 3,(iK _ _ _ _ _ _ _).trans (Qh (go (Z3 e5) (go (Z3 (e6 _)) (Yz (Q3 (Qv (Zn rfl rfl (by rw[Jg,h0];rfl))) (Z9 rfl)))))),by simp[h0]⟩
 .by_cases h1:l=m
  .exact⟨.int 4,(iK _ _ _ _ _ _ _).trans (Qh (go (Z3 e5) (go (Z3 (e6 _)) (go (Z8 (Qv (Zn rfl rfl (by rw[Jg];simp[h0])))) (Yz (Q3 (Qv (Zn rfl rfl (by rw[Jg];simp[h1]))) (Z9 rfl))))))),by simp[h1]⟩
  .exact⟨.non,(iK _ _ _ _ _ _ _).trans (Qh (go (Z3 e5) (go (Z3 (e6 _)) (go (Z8 (Qv (Zn rfl rfl (by rw[Jg];simp[h0])))) (go (Z8 (Qv (Zn rfl rfl (by rw[Jg];simp[h1])))) (Z9 rfl)))))),by simp[h0,h1]⟩
def Ho (W H:Int)(ss:List Sd)(u:Bool)(x y:Int):Q2 [Qo W H ss,kd u,.int x,.int y]=.ok (.im (iu (Yl W H ss u x y))):=by
 have e0:W0 0[2]! [Io (Qo W H ss),Io (kd u),Jo x,Jo y,none]=.ok (ss.map Sd.D):=jA (Zy rfl rfl (aw _ _ _ _))
 unfold Yl
 rcases mw (Io (Qo W H ss)) u x y ss none with⟨s,g1,g2⟩|⟨g1,w,g2⟩
 .rw[g1]
  exact(iL _ _ _ _ _ _).trans (Qh (Yz ((Vu e0).trans g2)))
 .rw[g1]
  obtain⟨d,ed,hd⟩:=vk W H u x y
  have ec:Z1 Q7 (Zb 0[0]! (Zb 0[1]! (Zb (Zd 1) (Zb (Zd 2) (Zb (Zd 3) Zk))))) [Io (Qo W H ss),Io (kd u),Jo x,Jo y,w]=.ok d:=
   Z5 (aC (Zy rfl rfl (Y3 _ _)) (aC (Zy rfl rfl (Xx _ _ _)) (aC rfl (aC rfl (Law.a1 rfl))))) ed rfl
  by_cases hn:d=.non
  .have hr:=hd.mp hn
   simp only[AD hr]
   subst hn
   exact(iL _ _ _ _ _ _).trans (Qh (go ((Vu e0).trans g2) (Yz (Q3 (Qv (Zn ec rfl rfl)) (Z9 rfl)))))
  .have hr:_:=Classical.not_not.mp (λz=>hn (hd.mpr z))
   simp only[AC hr]
   refine(iL _ _ _ _ _ _).trans (Qh (go ((Vu e0).trans g2) (go (Z8 (Qv (Zn ec rfl ?_))) (Z9 (Js rfl rfl)))))
   cases d<;>first|rfl|exact absurd rfl hn
def Sd.tch (s:Sd)(x y:Int):Bool:=s.at true x (y-1)||(s.at true x y||(s.at false (x-1) y||s.at false x y))
def Kc (W H:Int)(ss:List Sd)(x y:Int):Bool:=(decide (x=0\/x=W)||decide (y=0\/y=H))||ss.any (λs=>s.tch x y)
theorem Ln {α:Type}(b:α->Bool):∀l:List α,X3 (l.map λa=>D.bl (b a))=some (l.map b)
 |[]=>rfl
 |a::l=>by
  rw[BA,BA]
  simp only[X3,Ln b l]
  rfl
def any_map {α:Type}(b:α->Bool)(l:List α):eL [.lst (l.map λa=>.bl (b a))]=.ok (.bl (l.any b)):=by
 show(match X3 (l.map λa=>D.bl (b a)) with|some bs=>M.ok (D.bl (bs.any id))|none=>.bad)=_
 rw[Ln]
 simp
def Cv (x a b:Int):Qd [.int x,.int a,.int b]=.ok (.im (.bl (decide (a<=x)&&decide (x<=b)))):=by
 have e:Vt [.int x]=.ok (.im (.bl true)):=rfl
 refine(aa _ _ _ _ _).trans (Qh (Z9 (nC (Z5 (Law.a1 rfl) e rfl) (vt rfl rfl))))
def sv (x a b:Int):UB (.int x) [.int a,.int b]=decide (x=a\/x=b):=by
 have e:UB (.int x) [.int a,.int b]=((a==x)||((b==x)||false)):=by simp only[UB,CP,JE,D.eq]
 rw[e,HW]
 simp only[GU,DU,CO,DW]
 exact⟨λh=>h.imp KP KP,λh=>h.imp KP KP⟩
def yG (l:List Int):D.deps (l.map D.int)<=60:=Bi λd hd=>by
 obtain⟨i,_,rfl⟩:=EU.mp hd
 simp[D.dep]
def lz (x a b:Int):Fq (.int x) (.tup [.int a,.int b])=.ok (.bl (decide (x=a\/x=b))):=by
 show(if D.deps [.int a,.int b]<=60 then M.ok (D.bl (UB (.int x) [.int a,.int b])) else .bad)=_
 rw[AC (show D.deps [D.int a,D.int b]<=60 from yG [a,b]),sv]
def Xi (u:Bool)(x y:Int):D:=.tup [kd u,.int x,.int y]
def su (s:Sd)(x y:Int):Fq (.tup [kd s.up,.int s.x,.int s.y]) (.lst [Xi true x (y-1),Xi true x y,Xi false (x-1) y,Xi false x y])=.ok (.bl (s.tch x y)):=by
 have hd:D.deps [Xi true x (y-1),Xi true x y,Xi false (x-1) y,Xi false x y]<=60:=Bi λd hd=>by
  simp only[AZ,HJ,LP] at hd
  rcases hd with rfl|rfl|rfl|rfl<;>exact Cu _ _ _
 show(if D.deps [Xi true x (y-1),Xi true x y,Xi false (x-1) y,Xi false x y]<=60 then M.ok (D.bl (UB (.tup [kd s.up,.int s.x,.int s.y]) [Xi true x (y-1),Xi true x y,Xi false (x-1) y,Xi false x y])) else .bad)=_
 rw[AC hd]
 have sy:∀u a b,D.eq (Xi u a b) (.tup [kd s.up,.int s.x,.int s.y])=s.at u a b:=λu a b=>by
  unfold Xi Sd.at
  simp only[D.eq,D.eqs,l6]
  rw[HW]
  simp only[Bool.and_true,BC,CO,DW]
  exact⟨fun⟨h1,h2,h3⟩=>⟨h1.symm,h2.symm,h3.symm⟩,fun⟨h1,h2,h3⟩=>⟨h1.symm,h2.symm,h3.symm⟩⟩
 unfold Sd.tch UB
 simp only[CP,JE,sy,GU]
def zt {W H:Int}{ss:List Sd}(hl:ss.length<=1000){x y:Int}(x0:0<=x)(x1:x<=W)(y0:0<=y)(y1:y<=H):K1 [Qo W H ss,.int x,.int y]=.ok (.im (.bl (Kc W H ss x y))):=by
 have c1:Z1 Qd (Zb (Zd 1) (Zb ↑0 (Zb (Zd 3) Zk))) [Io (Qo W H ss),Jo x,Jo y,Jo W,Jo H,none]=.ok (.bl true):=
  Z5 (aC rfl (aC rfl (Law.a1 rfl))) (Cv x 0 W) (by show M.ok (D.bl _)=_;rw[AS x0,AS x1];rfl)
 have c2:Z1 Qd (Zb (Zd 2) (Zb ↑0 (Zb (Zd 4) Zk))) [Io (Qo W H ss),Jo x,Jo y,Jo W,Jo H,none]=.ok (.bl true):=
  Z5 (aC rfl (aC rfl (Law.a1 rfl))) (Cv y 0 H) (by show M.ok (D.bl _)=_;rw[AS y0,AS y1];rfl)
 have c3:DL.tO (DL.tB (Zp Fq (Zd 1) (Qi (Zb ↑0 (Zb (Zd 3) Zk))))) (DL.tB (Zp Fq (Zd 2) (Qi (Zb ↑0 (Zb (Zd 4) Zk))))) [Io (Qo W H ss),Jo x,Jo y,Jo W,Jo H,none]=.ok (decide (x=0\/x=W)||decide (y=0\/y=H)):=
  tI (Qv (Zn rfl (Js rfl rfl) (lz x 0 W))) (Qv (Zn rfl (Js rfl rfl) (lz y 0 H)))
 unfold Kc
 refine(aa _ _ _ _ _).trans (Qh (go (Z3 (Zy rfl rfl (Y3 _ _))) (go (Z3 (Zy rfl rfl (Xx _ _ _))) (go (Z8 (mB (d8 (Qv c1)) (d8 (Qv c2)))) ?_))))
 cases hb:(decide (x=0\/x=W)||decide (y=0\/y=H)) with
 |true=>
  rw[hb] at c3
  exact Yz (Q3 c3 (Z9 rfl))
 |false=>
  rw[hb] at c3
  refine go (Z8 c3) (go (Z3 (d:=.lst [Xi true x (y-1),Xi true x y,Xi false (x-1) y,Xi false x y]) (K8 (aC (Tl rfl rfl rfl) (aC (Tl rfl rfl rfl) (aC (Tl rfl rfl rfl) (Law.a1 (Tl rfl rfl rfl))))) (Xu (by show(4:Nat)<=1000000;decide)))) (Z9 (Jy (Law.a1 (Ez (Bk (jA (Zy rfl rfl (aw _ _ _ _))) (by rw[BM];exact hl) (lI Sd.D (λs=>.bl (s.tch x y)) ss λs _=>⟨_,rfl,Zn (x:=.tup [kd s.up,.int s.x,.int s.y]) rfl rfl (su s x y)⟩)))) (any_map _ ss))))
inductive Th where
 |no|co|fa (b:Bool)
 deriving DecidableEq
def Th.D:Th->D
 |.no=>.non
 |.co=>.str (Str.ofString "corner")
 |.fa b=>fc b
def Th.mir:Th->Bool
 |.fa true=>true
 |_=>false
def Ss (h:Int):Option (Bool×Bool)->Th
 |none=>.no
 |some (f,g)=>.fa (if 0<h then f else g)
def thing (W H:Int)(ss:List Sd)(t u:Tk)(now:Int):Th:=
 if t.due=now/\u.due=now then(if Kc W H ss t.line u.line=true then .co else .no)
 else if t.due=now then Ss t.h (Yl W H ss true t.line u.sq)
 else if u.due=now then Ss u.h (Yl W H ss false t.sq u.line)
 else .no
def E4 (th:Th):th.D.dep<=60:=by cases th<;>simp[Th.D,fc,D.dep]
def iX (th:Th):D.eq th.D (.str (Str.ofString "m"))=th.mir:=by
 cases th with
 |no=>rfl
 |co=>rfl
 |fa b=>cases b<;>rfl
def tw (th:Th):D.eq th.D (.str (Str.ofString "p"))=decide (th=.fa false):=by
 cases th with
 |no=>rfl
 |co=>rfl
 |fa b=>cases b<;>rfl
def tu (th:Th):D.eq th.D (.str (Str.ofString "corner"))=decide (th=.co):=by
 cases th with
 |no=>rfl
 |co=>rfl
 |fa b=>cases b<;>rfl
def lr {x y:Int}(h:y<x):S5 (.int x) (.int y)=.ok (.bl true):=by
 show M.ok (D.bl (decide (y<x)))=_
 rw[AS h]
def mW {x y:Int}(h:¬y<x):S5 (.int x) (.int y)=.ok (.bl false):=by
 show M.ok (D.bl (decide (y<x)))=_
 rw[AR h]
def vj (a:Addr)(t:Tk)(o:Option (Bool×Bool)):F_face_ahead [.ob a "Track" t.r,.im (iu o)]=.ok (.im (Ss t.h o).D):=by
 refine(dR _ _ _ _).trans (Qh ?_)
 cases o with
 |none=>exact Yz (Q3 (Qv (Zn rfl rfl rfl)) (Z9 rfl))
 |some fg=>
  obtain⟨f,g⟩:=fg
  refine go (Z8 (Qv (Zn rfl rfl rfl))) (Z9 ?_)
  show _=M.ok (fc (if 0<t.h then f else g))
  by_cases h:0<t.h
  .rw[AC h]
   exact Pg (Qv (Zn rfl rfl (lr h))) (Zy rfl rfl (Y3 _ _))
  .rw[AD h]
   exact Sn (Qv (Zn rfl rfl (mW h))) (Zy rfl rfl (Xx _ _ _))
def sk (f:Zf->M D)(a0 a1 a2 a3:S):cI 4 f [a0,a1,a2,a3]=f [some a0,some a1,some a2,some a3]:=rfl
def ir {c:Zf->M Bool}{f g:Zf->M D}{sd:Zf}{r:M D}(h:c sd=.ok true)(k:f sd=r):YJ c f g sd=r:=by unfold YJ;rw[h];exact k
def Lo {c:Zf->M Bool}{f g:Zf->M D}{sd:Zf}{r:M D}(h:c sd=.ok false)(k:g sd=r):YJ c f g sd=r:=by unfold YJ;rw[h];exact k
def Hq (i:Nat){sd:Zf}{a b:Addr}{g:D}{q:List (List Q9×D)}{t:Tk}{W H:Int}{ss:List Sd}{up:Bool}{x y:Int}(e0:sd[0]?=some (some (.fl a (Qo W H ss) q))) (ei:sd[i]?=some (some (.ob b "Track" t.r))) {fk:Zf->M D} (hk:fk sd=.ok (.tup [kd up,.int x,.int y])):
  Uy Q2 F_face_ahead i fk sd=.ok (Ss t.h (Yl W H ss up x y)).D:=by
 unfold Uy
 rw[e0,ei]
 show(if Wh (S.ob b "Track" t.r)=true then _ else _)=_
 rw[AC (show Wh (S.ob b "Track" t.r)=true from rfl),hk]
 have hs:(Jn [kd up,D.int x,D.int y]).isSome=true:=by cases up<;>rfl
 rw[M.bind_ok]
 dsimp only
 rw[AC ⟨rfl,hs⟩]
 have e1:Wi Q2 (Qo W H ss) [kd up,.int x,.int y]=.ok (iu (Yl W H ss up x y)):=by
  unfold Wi
  rw[Ho]
  rfl
 rw[e1,M.bind_ok,vj]
 rfl
def mr (i:Nat){sd:Zf}{b:Addr}{t:Tk}{now:Int} (ei:sd[i]?=some (some (.ob b "Track" t.r))) (e3:sd[3]?=some (Jo now)):DL.tB (Zp Jx (Qy i "Track" "due") (Zd 3)) sd=.ok (decide (t.due=now)):=by
 refine Qv (Zn (x:=.int t.due) (y:=.int now) ?_ ?_ (by rw[Jg];rfl))
 .unfold Qy;rw[ei];rfl
 .unfold Zd;rw[e3]
def yF (a a1 a2:Addr)(q:List (List Q9×D)){W H:Int}{ss:List Sd}{t u:Tk}{now:Int}(hl:ss.length<=1000)(hc:t.due=now->u.due=now->0<=t.line/\t.line<=W/\0<=u.line/\u.line<=H):
  F_thing_at [.fl a (Qo W H ss) q,.ob a1 "Track" t.r,.ob a2 "Track" u.r,.im (.int now)]=.ok (thing W H ss t u now).D:=by
 refine(sk _ _ _ _ _).trans ?_
 have d1:=mr 1 (sd:=[some (.fl a (Qo W H ss) q),some (.ob a1 "Track" t.r),some (.ob a2 "Track" u.r),Jo now]) rfl rfl
 have d2:=mr 2 (sd:=[some (.fl a (Qo W H ss) q),some (.ob a1 "Track" t.r),some (.ob a2 "Track" u.r),Jo now]) rfl rfl
 unfold thing
 by_cases h1:t.due=now
 .rw[AS h1] at d1
  by_cases h2:u.due=now
  .rw[AS h2] at d2
   rw[AC ⟨h1,h2⟩]
   obtain⟨x0,x1,y0,y1⟩:=hc h1 h2
   refine ir (Ti d1 d2) ?_
   have ec:=zt (W:=W) (H:=H) (ss:=ss) hl x0 x1 y0 y1
   cases hb:Kc W H ss t.line u.line with
   |true=>
    rw[hb] at ec
    exact Pg (Qv (Z5 (aC rfl (aC (Up 1 rfl) (Law.a1 (Up 2 rfl)))) ec rfl)) rfl
   |false=>
    rw[hb] at ec
    exact Sn (Qv (Z5 (aC rfl (aC (Up 1 rfl) (Law.a1 (Up 2 rfl)))) ec rfl)) rfl
  .rw[AR h2] at d2
   rw[AD (λz=>h2 z.2),AC h1]
   refine Lo (Ti d1 d2) (ir d1 (Hq 1 (g:=.non) (up:=true) rfl rfl (Tl rfl (Up 1 rfl) rfl)))
 .rw[AR h1] at d1
  rw[AD (λz=>h1 z.1),AD h1]
  by_cases h2:u.due=now
  .rw[AS h2] at d2
   rw[AC h2]
   exact Lo (az d1) (Lo d1 (ir d2 (Hq 2 (g:=.non) (up:=false) rfl rfl (Tl rfl rfl (Up 2 rfl)))))
  .rw[AR h2] at d2
   rw[AD h2]
   exact Lo (az d1) (Lo d1 (Lo d2 rfl))
def Yr (th:Th)(over may:Bool):Option Str:=match th with
 |.co=>some (Str.ofString "corner")
 |.no=>if over=true then some (Str.ofString "end") else none
 |.fa false=>if over=true then some (Str.ofString "end") else some (Str.ofString "plain")
 |.fa true=>if over=true then some (Str.ofString "end") else if may=true then none else some (Str.ofString "many")
def Hr:Option Str->D
 |some s=>.str s
 |none=>.non
def vg (th:Th)(over may:Bool):Xn [th.D,.bl over,.bl may]=.ok (.im (Hr (Yr th over may))):=by
 refine(aa _ _ _ _ _).trans (Qh ?_)
 have c1:∀s:String,DL.tB (Zp Jx (Zd 0) (eC (.str (Str.ofString s)))) [Io th.D,Io (.bl over),Io (.bl may)]=.ok (D.eq th.D (.str (Str.ofString s))):=λs=>Qv (Zn (x:=th.D) rfl rfl (K5 (E4 th)))
 have cc:=c1 "corner"
 have cp:=c1 "p"
 have cm:=c1 "m"
 rw[tu] at cc
 rw[tw] at cp
 rw[iX] at cm
 cases th with
 |co=>exact Yz (Q3 cc (Z9 rfl))
 |no=>
  cases over with
  |true=>exact go (Z8 cc) (Yz (Q3 rfl (Z9 rfl)))
  |false=>exact go (Z8 cc) (go (Z8 rfl) (go (Z8 cp) (go (Z8 (az cm)) (Z9 rfl))))
 |fa b=>
  cases over with
  |true=>cases b<;>exact go (Z8 cc) (Yz (Q3 rfl (Z9 rfl)))
  |false=>
   cases b with
   |false=>exact go (Z8 cc) (go (Z8 rfl) (Yz (Q3 cp (Z9 rfl))))
   |true=>
    cases may with
    |true=>exact go (Z8 cc) (go (Z8 rfl) (go (Z8 cp) (go (Z8 (Ti cm (d8 rfl))) (Z9 rfl))))
    |false=>exact go (Z8 cc) (go (Z8 rfl) (go (Z8 cp) (Yz (Q3 (Ti cm (tL (b:=false) rfl)) (Z9 rfl)))))
def place (t:Tk)(now:Int):D:=if t.h=0 then nD t.n t.m else Kn (t.line*t.lap-t.h*(t.due-now)) t.lap
def Yh (t u:Tk)(now:Int):D:=.tup [place t now,place u now]
def Qf (t:Tk)(now:Int)(th:Th):Tk:=if t.due=now then(if th.mir=true then {t with h:=-t.h,due:=t.due+t.lap} else {t with sq:=t.sq+t.h,due:=t.due+t.lap}) else t
def Ht (t:Tk)(now:Int)(th:Th):F_pass_line t.r [.int now,th.D]=some (Qf t now th).r:=by
 unfold Tk.r
 rw[vo _ _ _ _ _ _ _ (E4 th),iX]
 unfold Qf
 by_cases h:t.due=now
 .rw[AC h,AC h]
  cases th.mir<;>rfl
 .rw[AD h,AD h]
def Jv:Nat:=10 ^ 54
def Su:(10:Nat) ^ 56=100*Jv:=rfl
def Bo:10 ^ 10<=Jv:=by decide
structure PB (z:Nat) (p q:Int):Prop where
 fr:Fr 15 p q
 p0:0<p
 p1:p<(z:Int)*q
 g:Int.gcd p q=1
 nw:∀k:Int,k*q≠p
def PIn.pb {z:Nat}{p q:Int}(h:PIn z p q):PB z p q:=⟨h.fr.mono (by decide),h.p0,h.p1,h.g,h.nw⟩
structure TI (z:Nat) (T now:Int) (t:Tk):Prop where
 pn:PB z t.n t.m
 z8:z<=8
 s0:0<=t.sq
 s1:t.sq<z
 l0:0<=t.lap
 mv:(t.h=0/\t.due=T+1/\t.sq=t.n/t.m)\/((t.h=1\/t.h = -1)/\0<t.lap/\now<t.due/\t.due<=now+t.lap)
structure WS (W H:Nat) (T now:Int) (t u:Tk):Prop where
 x:TI W T now t
 y:TI H T now u
 mv:t.h≠0\/u.h≠0
 n0:0<=now
 n1:now<T
 at0:now=0\/(t.h≠0/\t.due=now+t.lap)\/(u.h≠0/\u.due=now+u.lap)
section
variable {z W H:Nat}{T now:Int}{t u:Tk}
theorem TI.line (h:TI z T now t):0<=t.line/\t.line<=z:=by
 have:=h.s0
 have:=h.s1
 unfold Tk.line Yj
 split<;>lia
def TI.tb (h:TI z T now t)(l1:t.lap<=Jv)(n0:0<=now)(n1:now<T)(t1:T<=Jv):TB 56 t:=by
 have hl:=h.line
 have:=h.z8
 have:=h.l0
 have bg:=Bo
 refine⟨h.pn.fr.mono (by decide),?_,?_,?_,?_⟩<;>rw[Su]
 .lia
 .rcases h.mv with⟨a,_⟩|⟨a,_⟩<;>lia
 .rcases h.mv with⟨_,a,_⟩|⟨_,_,_,a⟩<;>lia
 .lia
def Zh (t u:Tk)(T:Int):Int:=min (min t.due u.due) T
def WS.nxt (h:WS W H T now t u):now<Zh t u T/\Zh t u T<=T/\Zh t u T<=t.due/\Zh t u T<=u.due:=by
 have:=h.n1
 have a:now<t.due:=by rcases h.x.mv with⟨_,a,_⟩|⟨_,_,a,_⟩<;>lia
 have b:now<u.due:=by rcases h.y.mv with⟨_,a,_⟩|⟨_,_,a,_⟩<;>lia
 unfold Zh
 lia
def Cw (a:Addr)(h:TI z T now t)(l1:t.lap<=Jv){w:Int}(n0:0<=now)(n1:now<T)(t1:T<=Jv)(w0:0<=w)(w1:w<=T):Q8 [.ob a "Track" t.r,.im (.int w)]=.ok (.im (place t w)):=by
 unfold place
 have tb:=h.tb l1 n0 n1 t1
 have bg:=Bo
 by_cases hh:t.h=0
 .rw[AC hh]
  have:=zw a (nD t.n t.m) t.sq t.due t.lap w
  unfold Tk.r
  rw[hh]
  exact this
 .rw[AD hh]
  have hl:0<t.lap:=by rcases h.mv with⟨z,_⟩|⟨_,z,_⟩;exact absurd z hh;exact z
  refine yQ (k:=56) a (nD t.n t.m) hh hl tb.lap tb.li tb.h ?_ (by decide)
  rw[Su]
  rcases h.mv with⟨z,_⟩|⟨_,_,z1,z2⟩
  .exact absurd z hh
  .lia
def N4 (x y:Int)(p:Po4):Bool:=decide (p.a/p.b=x/\p.c/p.d=y)
def Xj (ps:List Po4)(T:Int)(t u:Tk):C8:=(ps.filter (N4 t.sq u.sq)).foldl (Yq (λp=>Qw (tval t u p) 0 T)) none
def wk (W H:Int)(ss:List Sd)(ps:List Po4)(T:Int)(most:Nat):Nat->Tk->Tk->List D->Option D
 |0,_,_,_=>none
 |n+1,t,u,tn=>match Xj ps T t u with
  |some (p,_)=>some (.tup [.str (Str.ofString "person"),p.D,.lst tn])
  |none=>match Yr (thing W H ss t u (Zh t u T)) (decide (Zh t u T=T)) (decide (tn.length<most)) with
   |some w=>some (.tup [.str w,Yh t u (Zh t u T),.lst tn])
   |none=>wk W H ss ps T most n (Qf t (Zh t u T) (thing W H ss t u (Zh t u T))) (Qf u (Zh t u T) (thing W H ss t u (Zh t u T))) (if(thing W H ss t u (Zh t u T)).mir=true then tn++[Yh t u (Zh t u T)] else tn)
def Hu {th:Th}{n':Int}(h:TI z T now t)(a:now<n')(b:n'<=t.due)(c:n'<T)(hm:t.due=n'->th.mir=false->t.line≠0/\t.line≠z):TI z T n' (Qf t n' th):=by
 have h0:=h.s0
 have h1:=h.s1
 unfold Qf
 by_cases hd:t.due=n'
 .rw[AC hd]
  rcases h.mv with⟨_,z1,_⟩|⟨z1,z2,z3,z4⟩
  .lia
  .cases hq:th.mir with
   |true=>exact⟨h.pn,h.z8,h.s0,h.s1,h.l0,.inr ⟨by show -t.h=1 \/ -t.h = -1;lia,z2,by show n'<t.due+t.lap;lia,by show t.due+t.lap<=n'+t.lap;lia⟩⟩
   |false=>
    have hl:=hm hd hq
    unfold Tk.line Yj at hl
    refine⟨h.pn,h.z8,?_,?_,h.l0,.inr ⟨z1,z2,by show n'<t.due+t.lap;lia,by show t.due+t.lap<=n'+t.lap;lia⟩⟩
    .show 0<=t.sq+t.h
     rcases z1 with z1|z1<;>rw[z1] at hl ⊢<;>simp at hl<;>lia
    .show t.sq+t.h<z
     rcases z1 with z1|z1<;>rw[z1] at hl ⊢<;>simp at hl<;>lia
 .rw[AD hd]
  refine⟨h.pn,h.z8,h.s0,h.s1,h.l0,?_⟩
  rcases h.mv with z1|⟨z1,z2,z3,z4⟩
  .exact .inl z1
  .exact .inr ⟨z1,z2,by lia,by lia⟩
def pass_h {th:Th}{n':Int}:(Qf t n' th).h≠0↔t.h≠0:=by
 unfold Qf
 split
 .split
  .show -t.h≠0↔_
   lia
  .exact GM
 .exact GM
def Sv {th:Th}{n':Int}(h:t.due=n'):(Qf t n' th).due=n'+(Qf t n' th).lap:=by
 unfold Qf
 rw[AC h]
 split
 .show t.due+t.lap=n'+t.lap
  rw[h]
 .show t.due+t.lap=n'+t.lap
  rw[h]
def Cy {ss:List Sd}{up:Bool}{x y:Int}{W H:Int}(h:Yl W H ss up x y=none):(if up=true then x else y)≠0/\(if up=true then x else y)≠(if up=true then W else H):=by
 unfold Yl at h
 cases hf:ss.find? (λs=>s.at up x y) with
 |some s=>rw[hf] at h;cases h
 |none=>
  rw[hf] at h
  dsimp only at h
  by_cases q:(if up=true then x else y)=0\/(if up=true then x else y)=(if up=true then W else H)
  .rw[AC q] at h;cases h
  .exact⟨λz=>q (.inl z),λz=>q (.inr z)⟩
def Zai {ss:List Sd}{x y:Int}{W H:Int}(h:Kc W H ss x y=false):x≠0/\x≠W/\y≠0/\y≠H:=by
 unfold Kc at h
 simp only[Bool.or_eq_false_iff,decide_eq_false_iff_not] at h
 lia
def Cz {h:Int}{o:Option (Bool×Bool)}(e:Ss h o=.no):o=none:=by
 cases o with
 |none=>rfl
 |some p=>cases e
def Gi {h:Int}{o:Option (Bool×Bool)}:Ss h o≠.co:=by
 cases o with
 |none=>intro e;cases e
 |some p=>intro e;cases e
def Lp {ss:List Sd}{n':Int}{th:Th}(e:thing W H ss t u n'=th)(OU:th=.no):(t.due=n'->t.line≠0/\t.line≠W)/\(u.due=n'->u.line≠0/\u.line≠H):=by
 subst e
 unfold thing at OU
 split at OU
 .rename_i hd
  split at OU
  .cases OU
  .rename_i hc
   have:=Zai (HI.mpr hc)
   exact⟨λ_=>⟨this.1,this.2.1⟩,λ_=>this.2.2⟩
 .rename_i hd
  split at OU
  .rename_i h1
   have:=Cy (Cz OU)
   exact⟨λ_=>this,λz=>absurd ⟨h1,z⟩ hd⟩
  .rename_i h1
   split at OU
   .have:=Cy (Cz OU)
    exact⟨λz=>absurd z h1,λ_=>this⟩
   .rename_i h2
    exact⟨λz=>absurd z h1,λz=>absurd z h2⟩
def U2 {th:Th}{over may:Bool}(h:Yr th over may=none):over=false/\(th=.no\/(th=.fa true/\may=true)):=by
 cases th with
 |co=>cases h
 |no=>cases over;exact⟨rfl,.inl rfl⟩;cases h
 |fa b=>
  cases over
  .cases b
   .cases h
   .cases may
    .cases h
    .exact⟨rfl,.inr ⟨rfl,rfl⟩⟩
  .cases b<;>cases h
def WS.step {ss:List Sd}{may:Bool}(h:WS W H T now t u)(hw:Yr (thing W H ss t u (Zh t u T)) (decide (Zh t u T=T)) may=none):
  WS W H T (Zh t u T) (Qf t (Zh t u T) (thing W H ss t u (Zh t u T))) (Qf u (Zh t u T) (thing W H ss t u (Zh t u T))):=by
 obtain⟨a1,a2,a3,a4⟩:=h.nxt
 obtain⟨w1,w2⟩:=U2 hw
 have w1:=JX w1
 have lt:Zh t u T<T:=by lia
 have bM:(thing W H ss t u (Zh t u T)).mir=false->(t.due=Zh t u T->t.line≠0/\t.line≠W)/\(u.due=Zh t u T->u.line≠0/\u.line≠H):=λhm=>by
  rcases w2 with w2|⟨w2,_⟩
  .exact Lp rfl w2
  .rw[w2] at hm;cases hm
 have du:t.due=Zh t u T\/u.due=Zh t u T:=by unfold Zh at lt ⊢;lia
 refine⟨Hu h.x a1 a3 lt λz1 z2=>(bM z2).1 z1,Hu h.y a1 a4 lt λz1 z2=>(bM z2).2 z1,?_,by have:=h.n0;lia,lt,.inr ?_⟩
 .rw[pass_h,pass_h];exact h.mv
 .rcases du with d|d
  .refine .inl ⟨?_,Sv d⟩
   rw[pass_h]
   rcases h.x.mv with⟨_,z,_⟩|⟨z,_⟩<;>lia
  .refine .inr ⟨?_,Sv d⟩
   rw[pass_h]
   rcases h.y.mv with⟨_,z,_⟩|⟨z,_⟩<;>lia
end
def X9 {t:Tk}(w:Int)(th:Th):(Qf t w th).lap=t.lap:=by
 unfold Qf
 split
 .split<;>rfl
 .rfl
theorem PoOk.mono {j k:Nat}{p:Po4}(h:PoOk j p)(hk:j<=k):PoOk k p:=⟨h.x.mono hk,h.y.mono hk⟩
section
variable {W H:Nat}{T:Int}{ss:List Sd}{ps:List Po4}{most:Nat} (a a1 a2:Addr) (q:Mw) (g pt st:D)
def yE (mo:Nat)(r1 r2:Qs)(tn:List D)(now:Int)(th:Th):
  Hc (Nz a a1 a2 g (qD q) pt st (.int mo) (.int T) r1 r2 tn none (Jo now) (Io th.D) none)=.ok (Hr (Yr th (decide (now=T)) (decide (tn.length<mo)))):=by
 unfold Hc Fu
 have e:Z1 Xn (Zb (Zd 10) (Zb (Zp Jx (Zd 9) (Zd 4)) (Zb (Zp XR (Kr Oi (Zb (Zd 7) Zk)) (Zd 3)) Zk))) (frz 7 (Nz a a1 a2 g (qD q) pt st (.int mo) (.int T) r1 r2 tn none (Jo now) (Io th.D) none))=.ok (Hr (Yr th (decide (now=T)) (decide (tn.length<mo)))):=by
  refine Z5 (aC rfl (aC (Zn (x:=.int now) (y:=.int T) rfl rfl (by rw[Jg])) (Law.a1 (d:=.bl (decide (tn.length<mo))) (Zn (x:=.int tn.length) (y:=.int mo) (Jy (Law.a1 rfl) nA) rfl ?_)))) (s:=.im (Hr (Yr th (decide (now=T)) (decide (tn.length<mo))))) ?_ rfl
  .show M.ok (D.bl (decide ((tn.length:Int)<(mo:Int))))=_
   congr 2
   rw[HW]
   simp
  .have:=vg th (now==T) (decide (tn.length<mo))
   exact this
 rw[e]
 cases Yr th (decide (now=T)) (decide (tn.length<mo))<;>rfl
def vf (mo wt:D)(r1 r2:Qs)(tn:List D)(th:Th):d9 (Nz a a1 a2 g (qD q) pt st mo wt r1 r2 tn none none (Io th.D) none)=.ok th.mir:=
 Qv (Zn (x:=th.D) rfl rfl ((K5 (E4 th)).trans (by rw[iX])))
def Zaj (mo wt:D){t u:Tk}(tn:List D){w:Int}{p1 p2:D} (h1:Q8 [.ob a1 "Track" t.r,.im (.int w)]=.ok (.im p1)) (h2:Q8 [.ob a2 "Track" u.r,.im (.int w)]=.ok (.im p2)):
  K2 (Nz a a1 a2 g (qD q) pt st mo wt t.r u.r tn none (Jo w) none none)=.ok (.tup [p1,p2]):=by
 refine Js ?_ ?_
 .show W7 (Q8 [.ob a1 "Track" t.r,.im (.int w)])=_
  rw[h1];rfl
 .show W7 (Q8 [.ob a2 "Track" u.r,.im (.int w)])=_
  rw[h2];rfl
theorem lw (hl:ss.length<=1000)(hp:∀p∈ps,PtOk W H p)(hq:∀x y,ix (qD q) x y (ps.filter (N4 x y)))(hm:most<=1000)(hT:T<=Jv):∀(n:Nat) (t u:Tk) (tn:List D) (now:Int) (d:D),WS W H T now t u->t.lap<=Jv->u.lap<=Jv->tn.length<=most->wk W H ss ps T most n t u tn=some d ->
  Sl a a1 a2 (Qo W H ss) (qD q) pt st (.int most) (.int T) n t.r u.r tn=.ok d
 |0,_,_,_,_,_,_,_,_,_,h=>by cases h
 |n+1,t,u,tn,now,d,wi,lx,ly,qB,h=>by
  have tx:=wi.x.tb lx wi.n0 wi.n1 hT
  have ty:=wi.y.tb ly wi.n0 wi.n1 hT
  have hw:Fr 56 T 1:=by
   have:=wi.n0
   have:=wi.n1
   have:=Bo
   refine⟨by decide,?_,?_⟩<;>rw[Su]<;>lia
  have ea:Ev (Nz a a1 a2 (Qo W H ss) (qD q) pt st (.int most) (.int T) t.r u.r tn none none none none)=.ok (Tj (Xj ps T t u)):=by
   show W7 (F_person_ahead [.fl a (Qo W H ss) (qD q),.ob a1 "Track" t.r,.ob a2 "Track" u.r,.im (.int T)])=_
   rw[yJ a (Qo W H ss) (hq t.sq u.sq) tx ty (by decide) wi.mv hw (λp hp'=>(hp p (EN.mp hp').1).ok.mono (by decide))]
   rfl
  unfold Sl
  rw[ea,M.bind_ok]
  unfold wk at h
  cases ha:Xj ps T t u with
  |some x=>
   rw[ha] at h
   obtain⟨p,xy⟩:=x
   cases h
   rfl
  |none=>
   rw[ha] at h
   dsimp only at h
   have en:iY (Nz a a1 a2 (Qo W H ss) (qD q) pt st (.int most) (.int T) t.r u.r tn none none none none)=.ok (.int (Zh t u T)):=rfl
   obtain⟨n1,n2,n3,n4⟩:=wi.nxt
   have n0:=wi.n0
   have et:=yF a a1 a2 (qD q) (t:=t) (u:=u) (now:=Zh t u T) (W:=W) (H:=H) hl λ_ _=>⟨wi.x.line.1,wi.x.line.2,wi.y.line.1,wi.y.line.2⟩
   have ep:=Zaj a a1 a2 q (Qo W H ss) pt st (.int most) (.int T) tn (Cw a1 wi.x lx n0 wi.n1 hT (show 0<=Zh t u T by lia) n2) (Cw a2 wi.y ly n0 wi.n1 hT (show 0<=Zh t u T by lia) n2)
   have RX:=λmay h=>WS.step (ss:=ss) (may:=may) wi h
   have ew:=yE (T:=T) a a1 a2 q (Qo W H ss) pt st most t.r u.r tn (Zh t u T) (thing W H ss t u (Zh t u T))
   have em:=vf a a1 a2 q (Qo W H ss) pt st (.int most) (.int T) t.r u.r tn (thing W H ss t u (Zh t u T))
   have e1:=Ht t (Zh t u T) (thing W H ss t u (Zh t u T))
   have e2:=Ht u (Zh t u T) (thing W H ss t u (Zh t u T))
   show(if D.isN .non=true then _ else _)=_
   rw[AC (show D.isN .non=true from rfl),en,M.bind_ok,et,M.bind_ok,ew,M.bind_ok]
   generalize YA:thing W H ss t u (Zh t u T)=th at *
   cases hw:Yr th (decide (Zh t u T=T)) (decide (tn.length<most)) with
   |some w=>
    rw[hw] at h
    cases h
    show(if D.isN (.str w)=true then _ else _)=_
    rw[AD (by intro z;cases z),ep,M.bind_ok]
    rfl
   |none=>
    rw[hw] at h
    dsimp only at h
    show(if D.isN .non=true then _ else _)=_
    rw[AC (show D.isN .non=true from rfl),em,M.bind_ok,ep,e1,e2]
    have wi':=RX _ hw
    obtain⟨_,w2⟩:=U2 hw
    cases hb:th.mir with
    |true=>
     rw[hb] at h
     have NN:tn.length<most:=by
      rcases w2 with rfl|⟨_,w2⟩
      .cases hb
      .exact BK w2
     show(M.bind (if few tn=true then M.ok (tn++[D.tup [place t (Zh t u T),place u (Zh t u T)]]) else M.bad) _)=_
     rw[AC (Xu (by lia)),M.bind_ok]
     exact lw hl hp hq hm hT n _ _ _ _ d wi' (by rw[X9];exact lx) (by rw[X9];exact ly) (by rw[BE,DD];lia) h
    |false=>
     rw[hb] at h
     exact lw hl hp hq hm hT n _ _ _ _ d wi' (by rw[X9];exact lx) (by rw[X9];exact ly) qB h
end
theorem Hv {W H:Int}{ss:List Sd}{ps:List Po4}{T:Int}{most:Nat}:∀(n m:Nat) (t u:Tk) (tn:List D) (d:D),n<=m->wk W H ss ps T most n t u tn=some d->wk W H ss ps T most m t u tn=some d
 |0,_,_,_,_,_,_,h=>by cases h
 |n+1,0,_,_,_,_,hm,_=>by lia
 |n+1,m+1,t,u,tn,d,hm,h=>by
  unfold wk at h ⊢
  cases ha:Xj ps T t u with
  |some x=>rw[ha] at h;exact h
  |none=>
   rw[ha] at h
   dsimp only at h ⊢
   cases hw:Yr (thing W H ss t u (Zh t u T)) (decide (Zh t u T=T)) (decide (tn.length<most)) with
   |some w=>rw[hw] at h;exact h
   |none=>
    rw[hw] at h
    exact Hv n m _ _ _ d (by lia) h
theorem Hw {W H:Nat}{ss:List Sd}{ps:List Po4}{T:Int}{most:Nat}:∀(n kx ky:Nat) (t u:Tk) (tn:List D) (now:Int),WS W H T now t u->T<t.due+kx*t.lap->T<u.due+ky*u.lap->kx+ky<n->∃d,wk W H ss ps T most n t u tn=some d
 |0,_,_,_,_,_,_,_,_,_,h=>by lia
 |n+1,kx,ky,t,u,tn,now,wi,hx,hy,hn=>by
  unfold wk
  cases ha:Xj ps T t u with
  |some x=>exact⟨_,rfl⟩
  |none=>
   dsimp only
   cases hw:Yr (thing W H ss t u (Zh t u T)) (decide (Zh t u T=T)) (decide (tn.length<most)) with
   |some w=>exact⟨_,rfl⟩
   |none=>
    have wi':=wi.step hw
    have lt:=wi'.n1
    obtain⟨n1,n2,n3,n4⟩:=wi.nxt
    have ZF:∀(v:Tk) (th:Th),(Qf v (Zh t u T) th).lap=v.lap:=λv th=>by
     unfold Qf;split
     .split<;>rfl
     .rfl
    have same:∀(v:Tk) (th:Th),v.due≠Zh t u T->(Qf v (Zh t u T) th).due=v.due:=λv th h=>by unfold Qf;rw[AD h]
    have one:∀(v:Tk) (th:Th) (k:Nat),v.due=Zh t u T->T<v.due+k*v.lap->0<=v.lap->∃j,k=j+1/\T<(Qf v (Zh t u T) th).due+j*(Qf v (Zh t u T) th).lap:=λv th k h hk h0=>by
     cases k with
     |zero=>simp at hk;lia
     |succ j=>
      refine⟨j,rfl,?_⟩
      have e:=Sv (th:=th) h
      rw[ZF] at e
      rw[ZF,e]
      have:((j+1:Nat):Int)*v.lap=j*v.lap+v.lap:=by rw[Int.natCast_add,DM];simp
      lia
    have VG:∀(v:Tk) (th:Th) (k:Nat),T<v.due+k*v.lap->0<=v.lap->∃j,j<=k/\(v.due=Zh t u T->j<k)/\T<(Qf v (Zh t u T) th).due+j*(Qf v (Zh t u T) th).lap:=λv th k hk h0=>by
     by_cases h:v.due=Zh t u T
     .obtain⟨j,e1,e2⟩:=one v th k h hk h0
      exact⟨j,by lia,λ_=>by lia,e2⟩
     .refine⟨k,AO _,λz=>absurd z h,?_⟩
      rw[same v th h,ZF];exact hk
    obtain⟨jx,x1,x2,x3⟩:=VG t (thing W H ss t u (Zh t u T)) kx hx wi.x.l0
    obtain⟨jy,y1,y2,y3⟩:=VG u (thing W H ss t u (Zh t u T)) ky hy wi.y.l0
    have du:t.due=Zh t u T\/u.due=Zh t u T:=by unfold Zh at lt ⊢;lia
    exact Hw n jx jy _ _ _ _ wi' x3 y3 (by rcases du with z|z;have:=x2 z;lia;have:=y2 z;lia)
def Ck (c1 c2 s w w':Int):Prop:=c2*w'=c1*w-s
section
variable {c1 c2 s a a' b b':Int}
def uX (h1:0<c1)(h2:0<c2)(x:Ck c1 c2 s a a')(y:Ck c1 c2 s b b'):a'<b'↔a<b:=by
 unfold Ck at x y
 rw[<-BL h2,<-BL (a:=c1) h1 (b:=a)]
 lia
def iq (h1:0<c1)(h2:0<c2)(x:Ck c1 c2 s a a')(y:Ck c1 c2 s b b'):a'<=b'↔a<=b:=by
 have:=uX h1 h2 y x
 lia
def mV (h1:0<c1)(h2:0<c2)(x:Ck c1 c2 s a a')(y:Ck c1 c2 s b b'):a'=b'↔a=b:=by
 have:=iq h1 h2 x y
 have:=iq h1 h2 y x
 lia
end
structure Rt (c1 c2 s T T':Int) (t t':Tk):Prop where
 sq:t'.sq=t.sq
 h:t'.h=t.h
 lap:c2*t'.lap=c1*t.lap
 due:(t.h≠0/\Ck c1 c2 s t.due t'.due)\/(t.h=0/\t'.n=t.n/\t'.m=t.m/\t.due=T+1/\t'.due=T'+1)
section
variable {c1 c2 s T T':Int}{t u t' u':Tk}
theorem Rt.line (r:Rt c1 c2 s T T' t t'):t'.line=t.line:=by
 unfold Tk.line
 rw[r.sq,r.h]
def Rt.now (h1:0<c1)(h2:0<c2)(x:Rt c1 c2 s T T' t t')(y:Rt c1 c2 s T T' u u')(hT:c2*T'<=c1*T-s)(hl:Zh t' u' T'<T'):Ck c1 c2 s (Zh t u T) (Zh t' u' T')/\Zh t u T<T:=by
 have key:∀{d d':Int},Ck c1 c2 s d d'->d'<T'->d<T:=λ{d d'} hd NN=>by
  unfold Ck at hd
  have:c2*d'<c2*T':=(BL h2).mpr NN
  exact(BL h1).mp (by lia)
 unfold Zh at hl ⊢
 rcases x.due with⟨_,x1⟩|⟨_,_,_,x1,x2⟩
 .rcases y.due with⟨_,y1⟩|⟨_,_,_,y1,y2⟩
  .have e:=iq h1 h2 x1 y1
   have k1:=key x1
   have k2:=key y1
   by_cases q:t.due<=u.due
   .have q':=e.mpr q
    have:t.due<T:=k1 (by lia)
    rw[show min (min t.due u.due) T=t.due by lia,show min (min t'.due u'.due) T'=t'.due by lia]
    exact⟨x1,this⟩
   .have q':¬t'.due<=u'.due:=λz=>q (e.mp z)
    have:u.due<T:=k2 (by lia)
    rw[show min (min t.due u.due) T=u.due by lia,show min (min t'.due u'.due) T'=u'.due by lia]
    exact⟨y1,this⟩
  .have:t.due<T:=key x1 (by lia)
   rw[show min (min t.due u.due) T=t.due by lia,show min (min t'.due u'.due) T'=t'.due by lia]
   exact⟨x1,this⟩
 .rcases y.due with⟨_,y1⟩|⟨_,_,_,y1,y2⟩
  .have:u.due<T:=key y1 (by lia)
   rw[show min (min t.due u.due) T=u.due by lia,show min (min t'.due u'.due) T'=u'.due by lia]
   exact⟨y1,this⟩
  .lia
def Rt.at (h1:0<c1)(h2:0<c2)(x:Rt c1 c2 s T T' t t'){w w':Int}(hw:Ck c1 c2 s w w')(l:w<=T)(l':w'<=T'):t'.due=w'↔t.due=w:=by
 rcases x.due with⟨_,x1⟩|⟨_,_,_,x1,x2⟩
 .exact mV h1 h2 x1 hw
 .lia
theorem Rt.thing (h1:0<c1)(h2:0<c2)(x:Rt c1 c2 s T T' t t')(y:Rt c1 c2 s T T' u u'){w w':Int}(hw:Ck c1 c2 s w w')(l:w<=T)(l':w'<=T'){W H:Int}{ss:List Sd}:thing W H ss t' u' w'=thing W H ss t u w:=by
 have e1:=x.at h1 h2 hw l l'
 have e2:=y.at h1 h2 hw l l'
 unfold Law.thing
 rw[x.line,y.line,x.sq,y.sq,x.h,y.h]
 simp only[e1,e2]
theorem Rt.place (h1:0<c1)(h2:0<c2)(x:Rt c1 c2 s T T' t t'){w w':Int}(hw:Ck c1 c2 s w w')(hl:t.h≠0->0<t.lap):place t' w'=place t w:=by
 unfold Law.place
 rw[x.h,x.line]
 rcases x.due with⟨h,x1⟩|⟨h,a,b,_⟩
 .rw[AD h,AD h]
  have l0:=hl h
  have l1:0<t'.lap:=by
   have:0<c2*t'.lap:=by rw[x.lap];exact AU h1 l0
   exact FQ this h2
  refine Jh l1 l0 ?_
  have e:=x.lap
  unfold Ck at x1 hw
  have:c2*((t.line*t'.lap-t.h*(t'.due-w'))*t.lap)=c2*((t.line*t.lap-t.h*(t.due-w))*t'.lap):=by grind
  exact EJ (by lia) this
 .rw[AC h,AC h,a,b]
def Rt.pass (h1:0<c1)(h2:0<c2)(x:Rt c1 c2 s T T' t t'){w w':Int}{th:Th}(hw:Ck c1 c2 s w w')(l:w<=T)(l':w'<=T'):Rt c1 c2 s T T' (Qf t w th) (Qf t' w' th):=by
 have e:=x.at h1 h2 hw l l'
 unfold Qf
 by_cases q:t.due=w
 .rw[AC q,AC (e.mpr q)]
  rcases x.due with⟨h,x1⟩|⟨h,a,b,x1,x2⟩
  .have hd:Ck c1 c2 s (t.due+t.lap) (t'.due+t'.lap):=by
    have:=x.lap
    unfold Ck at x1 ⊢
    rw[FD,FD]
    lia
   cases th.mir with
   |true=>
    rw[AC rfl,AC rfl]
    refine⟨x.sq,?_,x.lap,.inl ⟨?_,hd⟩⟩
    .show -t'.h = -t.h
     rw[x.h]
    .show -t.h≠0
     lia
   |false=>
    rw[AD (by decide),AD (by decide)]
    refine⟨?_,x.h,x.lap,.inl ⟨h,hd⟩⟩
    show t'.sq+t'.h=t.sq+t.h
    rw[x.sq,x.h]
  .lia
 .rw[AD q,AD (λz=>q (e.mp z))]
  exact x
theorem Rt.tm (x:Rt c1 c2 s T T' t t')(h:t.h≠0)(n d:Int):c2*t'.tm n d=c1*t.tm n d-s*d:=by
 unfold Tk.tm
 rw[x.line,x.h]
 rcases x.due with⟨_,x1⟩|⟨z,_⟩
 .have:=x.lap
  unfold Ck at x1
  grind
 .exact absurd z h
def Vk (c1 c2 s:Int):Option (Int×Int)->Option (Int×Int)->Prop
 |none,none=>True
 |some (x,y),some (x',y')=>y'=y/\0<y/\c2*x'=c1*x-s*y
 |_,_=>False
theorem Rt.tval (h2:0<c2)(h1:0<c1)(x:Rt c1 c2 s T T' t t')(y:Rt c1 c2 s T T' u u')(hm:t.h≠0\/u.h≠0){p:Po4}(hb:0<p.b)(hd:0<p.d):Vk c1 c2 s (tval t u p) (tval t' u' p):=by
 unfold Law.tval
 rw[x.h,y.h]
 by_cases ht:t.h=0
 .have hu:=hm.resolve_left λz=>z ht
  have nt:¬(t.h≠0):=λz=>z ht
  rw[AD nt,AD nt]
  rcases x.due with⟨z,_⟩|⟨_,a,b,_⟩
  .exact absurd ht z
  .rw[a,b]
   by_cases q:p.a=t.n/\p.b=t.m
   .rw[AC q,AC q];exact⟨rfl,hd,y.tm hu _ _⟩
   .rw[AD q,AD q];trivial
 .rw[AC ht,AC ht]
  have ex:=x.tm ht p.a p.b
  by_cases hu:u.h=0
  .have nu:¬(u.h≠0):=λz=>z hu
   rw[AD nu,AD nu]
   rcases y.due with⟨z,_⟩|⟨_,a,b,_⟩
   .exact absurd hu z
   .rw[a,b]
    by_cases q:p.c=u.n/\p.d=u.m
    .rw[AC q,AC q];exact⟨rfl,hb,ex⟩
    .rw[AD q,AD q];trivial
  .rw[AC hu,AC hu]
   have ey:=y.tm hu p.c p.d
   have e:t'.tm p.a p.b*p.d=u'.tm p.c p.d*p.b↔t.tm p.a p.b*p.d=u.tm p.c p.d*p.b:=by
    generalize t'.tm p.a p.b=A' at *
    generalize u'.tm p.c p.d=B' at *
    generalize t.tm p.a p.b=A at *
    generalize u.tm p.c p.d=B at *
    constructor
    .intro q
     have:c1*(A*p.d)=c1*(B*p.b):=by grind
     exact EJ (by lia) this
    .intro q
     have:c2*(A'*p.d)=c2*(B'*p.b):=by grind
     exact EJ (by lia) this
   by_cases q:t.tm p.a p.b*p.d=u.tm p.c p.d*p.b
   .rw[AC q,AC (e.mpr q)];exact⟨rfl,hb,ex⟩
   .rw[AD q,AD (λz=>q (e.mp z))];trivial
end
section
variable {c1 c2 s T T':Int}{t u t' u':Tk}
def Vl (c1 c2 s T':Int):Option (Int×Int)->Option (Int×Int)->Prop
 |none,none=>True
 |some (x,y),none=>0<y/\c2*T'*y<=c1*x-s*y
 |some (x,y),some (x',y')=>y'=y/\0<y/\c2*x'=c1*x-s*y/\c1*x-s*y<c2*T'*y
 |none,some _=>False
def Bl (c1 c2 s T':Int):C8->C8->Prop
 |none,none=>True
 |some (_,x,y),none=>0<y/\c2*T'*y<=c1*x-s*y
 |some (p,x,y),some (p',x',y')=>p'=p/\y'=y/\0<y/\c2*x'=c1*x-s*y/\c1*x-s*y<c2*T'*y
 |none,some _=>False
def Hy {c K x y x0 y0:Int}(hc:0<c)(hy:0<y)(hy0:0<y0)(a:c*x0<K*y0)(b:K*y<=c*x):x0*y<x*y0:=by
 have h1:c*x0*y<K*y0*y:=BQ a hy
 have h2:K*y*y0<=c*x*y0:=AN b (by lia)
 have e:K*y0*y=K*y*y0:=by grind
 have h3:c*(x0*y)<c*(x*y0):=by
  have e1:c*(x0*y)=c*x0*y:=by grind
  have e2:c*(x*y0)=c*x*y0:=by grind
  lia
 exact(BL hc).mp h3
def Zak (h1:0<c1)(h2:0<c2){c c':Po4->Option (Int×Int)}{b b':C8}{p:Po4}(hv:Vl c1 c2 s T' (c p) (c' p))(hb:Bl c1 c2 s T' b b'):Bl c1 c2 s T' (Yq c b p) (Yq c' b' p):=by
 unfold Yq
 cases e:c p with
 |none=>
  cases e':c' p with
  |none=>exact hb
  |some YR=>rw[e,e'] at hv;exact hv.elim
 |some xy=>
  obtain⟨x,y⟩:=xy
  cases e':c' p with
  |none=>
   rw[e,e'] at hv
   obtain⟨v1,v2⟩:=hv
   cases b with
   |none=>
    cases b' with
    |none=>exact⟨v1,v2⟩
    |some q'=>exact hb.elim
   |some q=>
    obtain⟨q,x0,y0⟩:=q
    cases b' with
    |none=>
     dsimp only
     split
     .exact⟨v1,v2⟩
     .exact hb
    |some q'=>
     obtain⟨q',fF,WA⟩:=q'
     obtain⟨b1,b2,b3,b4,b5⟩:=hb
     dsimp only
     have:x0*y<x*y0:=Hy (K:=c2*T'+s) h1 v1 b3 (by rw[DM];lia) (by rw[DM];lia)
     rw[AD (by lia)]
     exact⟨b1,b2,b3,b4,b5⟩
  |some YR=>
   obtain⟨x',y'⟩:=YR
   rw[e,e'] at hv
   obtain⟨rfl,v2,v3,v4⟩:=hv
   cases b with
   |none=>
    cases b' with
    |none=>exact⟨rfl,rfl,v2,v3,v4⟩
    |some q'=>exact hb.elim
   |some q=>
    obtain⟨q,x0,y0⟩:=q
    cases b' with
    |none=>
     obtain⟨b1,b2⟩:=hb
     dsimp only
     have:x*y0<x0*y':=Hy (K:=c2*T'+s) h1 b1 v2 (by rw[DM];lia) (by rw[DM];lia)
     rw[AC this]
     exact⟨rfl,rfl,v2,v3,v4⟩
    |some q'=>
     obtain⟨q',fF,WA⟩:=q'
     obtain⟨rfl,rfl,b3,b4,b5⟩:=hb
     dsimp only
     have k:x'*WA<fF*y'↔x*WA<x0*y':=by
      rw[<-BL h2,<-BL (a:=c1) h1 (b:=x*WA)]
      have e1:c2*(x'*WA)=c1*(x*WA)-s*(y'*WA):=by grind
      have e2:c2*(fF*y')=c1*(x0*y')-s*(y'*WA):=by grind
      lia
     by_cases g:x*WA<x0*y'
     .rw[AC g,AC (k.mpr g)];exact⟨rfl,rfl,v2,v3,v4⟩
     .rw[AD g,AD (λz=>g (k.mp z))];exact⟨rfl,rfl,b3,b4,b5⟩
theorem Lq (h1:0<c1)(h2:0<c2){c c':Po4->Option (Int×Int)}:∀(l:List Po4) (b b':C8),(∀p∈l,Vl c1 c2 s T' (c p) (c' p))->Bl c1 c2 s T' b b'->Bl c1 c2 s T' (l.foldl (Yq c) b) (l.foldl (Yq c') b')
 |[],_,_,_,hb=>hb
 |p::l,b,b',hv,hb=>Lq h1 h2 l _ _ (λq hq=>hv q (.tail _ hq)) (Zak h1 h2 (hv p (.head _)) hb)
def E5 (h1:0<c1)(h2:0<c2)(h0:0<=s)(hT:c2*T'<=c1*T-s){v v':Option (Int×Int)}(hv:Vk c1 c2 s v v')(hB:∀x y,v=some (x,y)->0<x->s*y<c1*x):Vl c1 c2 s T' (Qw v 0 T) (Qw v' 0 T'):=by
 cases v with
 |none=>
  cases v' with
  |none=>exact trivial
  |some _=>exact hv.elim
 |some xy=>
  obtain⟨x,y⟩:=xy
  cases v' with
  |none=>exact hv.elim
  |some YR=>
   obtain⟨x',y'⟩:=YR
   obtain⟨rfl,y0,e⟩:=hv
   have hB:=hB x y' rfl
   unfold Qw
   dsimp only
   rw[FJ]
   have l1:0<x'↔s*y'<c1*x:=by
    rw[<-BL h2]
    lia
   have l2:x'<T'*y'↔c1*x-s*y'<c2*T'*y':=by
    rw[<-BL h2,e,CV]
   have l3:c1*x-s*y'<c2*T'*y'->x<T*y':=λq=>by
    have:c2*T'*y'<=(c1*T-s)*y':=AN hT (by lia)
    rw[JM] at this
    exact(BL h1).mp (by rw[<-CV];lia)
   have sy:0<=s*y':=GK h0 (by lia)
   have l4:s*y'<c1*x->0<x:=λq=>(BL h1).mp (by lia)
   by_cases q:0<x'/\x'<T'*y'
   .have q1:=l1.mp q.1
    have q2:=l2.mp q.2
    rw[AC q,AC ⟨l4 q1,l3 q2⟩]
    exact⟨rfl,y0,e,q2⟩
   .rw[AD q]
    by_cases g:0<x/\x<T*y'
    .rw[AC g]
     refine⟨y0,?_⟩
     have g1:=l1.mpr (hB g.1)
     have:¬x'<T'*y':=λz=>q ⟨g1,z⟩
     rw[l2] at this
     lia
    .rw[AD g];exact trivial
def Zal (h1:0<c1)(h2:0<c2)(h0:0<=s)(hT:c2*T'<=c1*T-s)(x:Rt c1 c2 s T T' t t')(y:Rt c1 c2 s T T' u u')(hm:t.h≠0\/u.h≠0){ps:List Po4}(hp:∀p∈ps,0<p.b/\0<p.d)(hB:∀p∈ps,N4 t.sq u.sq p=true->∀x y,tval t u p=some (x,y)->0<x->s*y<c1*x):Bl c1 c2 s T' (Xj ps T t u) (Xj ps T' t' u'):=by
 unfold Xj
 rw[x.sq,y.sq]
 refine Lq h1 h2 _ _ _ (λp hp'=>?_) trivial
 have hp':=EN.mp hp'
 exact E5 h1 h2 h0 hT (x.tval h2 h1 y hm (hp p hp'.1).1 (hp p hp'.1).2) (hB p hp'.1 hp'.2)
def mU {n d:Int}(hd:0<d)(hh:t.h=1\/t.h = -1)(hl:0<=t.lap)(hq:n/d=t.sq):(t.due-t.lap)*d<=t.tm n d:=by
 have e:=FA n d
 have r0:=BS n (Int.ne_of_gt hd)
 have r1:=BG n hd
 rw[hq] at e
 generalize n%d=r at *
 unfold Tk.tm Tk.line Yj
 rcases hh with hh|hh<;>rw[hh]
 .rw[AC (by decide)]
  have k:t.due*d-1*((t.sq+1)*d-n)*t.lap=(t.due-t.lap)*d+r*t.lap:=by grind
  rw[k]
  have:=GK r0 hl
  lia
 .rw[AD (by decide)]
  have k:t.due*d - -1*(t.sq*d-n)*t.lap=(t.due-t.lap)*d+(d-r)*t.lap:=by grind
  rw[k]
  have:=GK (show 0<=d-r by lia) hl
  lia
def WS.late {W H:Nat}{w:Int}(h:WS W H T w t u)(w0:0<w){p:Po4}(hb:0<p.b)(hd:0<p.d)(hq:N4 t.sq u.sq p=true){x y:Int}(e:tval t u p=some (x,y)):0<y/\w*y<=x:=by
 obtain⟨q1,q2⟩:=BK hq
 have mx:t.h≠0->(t.h=1\/t.h = -1):=λz=>by rcases h.x.mv with a|a;exact absurd a.1 z;exact a.1
 have my:u.h≠0->(u.h=1\/u.h = -1):=λz=>by rcases h.y.mv with a|a;exact absurd a.1 z;exact a.1
 have gx:t.h≠0->t.due=w+t.lap->w*p.b<=t.tm p.a p.b:=λz q=>by
  have:=mU hb (mx z) h.x.l0 q1
  rw[q] at this
  rw[show w+t.lap-t.lap=w by lia] at this
  exact this
 have gy:u.h≠0->u.due=w+u.lap->w*p.d<=u.tm p.c p.d:=λz q=>by
  have:=mU hd (my z) h.y.l0 q2
  rw[q] at this
  rw[show w+u.lap-u.lap=w by lia] at this
  exact this
 have at0:=h.at0.resolve_left (by lia)
 unfold tval at e
 by_cases ht:t.h=0
 .rw[AD (λz=>z ht)] at e
  split at e
  .cases e
   rcases at0 with a|a
   .exact absurd ht a.1
   .exact⟨hd,gy a.1 a.2⟩
  .cases e
 .rw[AC ht] at e
  by_cases hu:u.h=0
  .rw[AD (λz=>z hu)] at e
   split at e
   .cases e
    rcases at0 with a|a
    .exact⟨hb,gx a.1 a.2⟩
    .exact absurd hu a.1
   .cases e
  .rw[AC hu] at e
   split at e
   .rename_i he
    cases e
    refine⟨hb,?_⟩
    rcases at0 with a|a
    .exact gx a.1 a.2
    .have g:=gy a.1 a.2
     have:w*p.d*p.b<=u.tm p.c p.d*p.b:=AN g (by lia)
     rw[<-he] at this
     exact Int.le_of_mul_le_mul_right (by rw[show w*p.b*p.d=w*p.d*p.b by grind];exact this) hd
   .cases e
end
def mT {t:Tk}{n d:Int}(hd:0<d)(hh:t.h=1\/t.h = -1)(hl:0<t.lap)(hq:n/d=t.sq)(hn:∀k:Int,k*d≠n):t.tm n d<t.due*d:=by
 have e:=FA n d
 have r0:=BS n (Int.ne_of_gt hd)
 have r1:=BG n hd
 have hk:=hn (n/d)
 rw[hq] at e hk
 generalize n%d=r at *
 have r2:0<r:=by
  rcases Int.lt_or_eq_of_le r0 with z|z
  .exact z
  .rw[EV] at e;lia
 unfold Tk.tm Tk.line Yj
 rcases hh with hh|hh<;>rw[hh]
 .rw[AC (by decide)]
  have k:t.due*d-1*((t.sq+1)*d-n)*t.lap=t.due*d-(d-r)*t.lap:=by grind
  rw[k]
  have:=AU (show 0<d-r by lia) hl
  lia
 .rw[AD (by decide)]
  have k:t.due*d - -1*(t.sq*d-n)*t.lap=t.due*d-r*t.lap:=by grind
  rw[k]
  have:=AU r2 hl
  lia
def WS.soon {W H:Nat}{T w:Int}{t u:Tk}(h:WS W H T w t u){p:Po4}(hb:0<p.b)(hd:0<p.d)(hn:∀k:Int,k*p.b≠p.a/\k*p.d≠p.c)(hq:N4 t.sq u.sq p=true){x y:Int}(e:tval t u p=some (x,y)):0<y/\(t.h≠0->x<t.due*y)/\(u.h≠0->x<u.due*y):=by
 obtain⟨q1,q2⟩:=BK hq
 have gx:t.h≠0->t.tm p.a p.b<t.due*p.b:=λz=>by
  rcases h.x.mv with a|a
  .exact absurd a.1 z
  .exact mT hb a.1 a.2.1 q1 λk=>(hn k).1
 have gy:u.h≠0->u.tm p.c p.d<u.due*p.d:=λz=>by
  rcases h.y.mv with a|a
  .exact absurd a.1 z
  .exact mT hd a.1 a.2.1 q2 λk=>(hn k).2
 unfold tval at e
 by_cases ht:t.h=0
 .rw[AD (λz=>z ht)] at e
  split at e
  .cases e
   exact⟨hd,λz=>absurd ht z,gy⟩
  .cases e
 .rw[AC ht] at e
  by_cases hu:u.h=0
  .rw[AD (λz=>z hu)] at e
   split at e
   .cases e
    exact⟨hb,gx,λz=>absurd hu z⟩
   .cases e
  .rw[AC hu] at e
   split at e
   .rename_i he
    cases e
    refine⟨hb,gx,λz=>?_⟩
    have:u.tm p.c p.d*p.b<u.due*p.d*p.b:=BQ (gy z) hb
    rw[<-he] at this
    exact BB (by rw[show u.due*p.b*p.d=u.due*p.d*p.b by grind];exact this) (by lia)
   .cases e
theorem Lr {c:Po4->Option (Int×Int)}:∀(l:List Po4) (b:C8) {p:Po4}{x y:Int},l.foldl (Yq c) b=some (p,x,y)->b=some (p,x,y)\/(p∈l/\c p=some (x,y))
 |[],_,_,_,_,h=>.inl h
 |q::l,b,p,x,y,h=>by
  rcases Lr l _ h with z|⟨z1,z2⟩
  .unfold Yq at z
   cases e:c q with
   |none=>rw[e] at z;exact .inl z
   |some xy=>
    obtain⟨x1,y1⟩:=xy
    rw[e] at z
    cases b with
    |none=>cases z;exact .inr ⟨.head _,e⟩
    |some b0=>
     obtain⟨p0,x0,y0⟩:=b0
     dsimp only at z
     split at z
     .cases z;exact .inr ⟨.head _,e⟩
     .exact .inl z
  .exact .inr ⟨.tail _ z1,z2⟩
def Zam {ps:List Po4}{T:Int}{t u:Tk}{p:Po4}{x y:Int}(h:Xj ps T t u=some (p,x,y)):p∈ps/\N4 t.sq u.sq p=true/\tval t u p=some (x,y)/\0<x/\x<T*y:=by
 rcases Lr _ _ h with z|⟨z1,z2⟩
 .cases z
 .have z1:=EN.mp z1
  unfold Qw at z2
  cases e:tval t u p with
  |none=>rw[e] at z2;cases z2
  |some xy=>
   rw[e] at z2
   dsimp only at z2
   split at z2
   .rename_i g
    cases z2
    rw[FJ] at g
    exact⟨z1.1,z1.2,rfl,g⟩
   .cases z2
def cE:D->Bool
 |.tup [_,.int q]=>decide (q=1)
 |_=>false
def sj (k:Nat):D->D
 |.tup ds=>(ds[k]?).getD .non
 |_=>.non
def par (k:Nat):List D->Int
 |[]=>1
 |d::l=>(if cE (sj k d)=true then -1 else 1)*par k l
theorem Bp (k:Nat):∀a b:List D,par k (a++b)=par k a*par k b
 |[],b=>(CT _).symm
 |d::a,b=>by
  show _*par k (a++b)=_*par k a*par k b
  rw[Bp k a b,CV]
section
variable {z W H:Nat}{T now w:Int}{t u:Tk}
def TI.whole (h:TI z T now t)(hm:t.h≠0)(hd:t.due=w):cE (place t w)=true:=by
 have l0:0<t.lap:=by rcases h.mv with a|a;exact absurd a.1 hm;exact a.2.1
 have e:place t w=nD t.line 1:=by
  unfold place
  rw[AD hm,hd,<-Uo (p:=t.line) (q:=1) (by decide) Int.gcd_one]
  refine Jh l0 (by decide) ?_
  rw[Int.sub_self,DS,Int.sub_zero,CL]
 rw[e]
 rfl
def TI.broken (h:TI z T now t)(a:now<=w)(b:w<=t.due)(hd:t.due≠w)(hw:t.h≠0->now<w):cE (place t w)=false:=by
 unfold place
 by_cases hm:t.h=0
 .rw[AC hm]
  refine AR λq=>h.pn.nw t.n ?_
  rw[q,CL]
 .rw[AD hm]
  have hw:=hw hm
  rcases h.mv with g|⟨g1,l0,g2,g3⟩
  .exact absurd g.1 hm
  .obtain⟨p,q,e,q0,e1,_⟩:=X8 (t:=t.line*t.lap-t.h*(t.due-w)) (b:=t.lap) l0
   rw[e]
   refine AR λq1=>?_
   rw[q1,CL] at e1
   have k1:(t.line-p)*t.lap=t.h*(t.due-w):=by rw[JM];lia
   generalize t.line-p=c at k1
   have d1:0<t.due-w:=by lia
   have d2:t.due-w<t.lap:=by lia
   generalize t.due-w=e at *
   rcases g1 with g1|g1<;>rw[g1] at k1
   .have c0:0<c:=FY (show 0<c*t.lap by lia) l0
    have:=AN (show 1<=c by lia) (BW l0)
    lia
   .have c0:0 < -c:=FY (show 0 < -c*t.lap by rw[Int.neg_mul];lia) l0
    have:=AN (show 1 <= -c by lia) (BW l0)
    rw[Int.neg_mul] at this
    lia
def WS.turn {ss:List Sd}(h:WS W H T now t u)(hl:Zh t u T<T)(hm:(thing W H ss t u (Zh t u T)).mir=true):
  (Qf t (Zh t u T) (thing W H ss t u (Zh t u T))).h=t.h*par 0 [Yh t u (Zh t u T)]/\(Qf u (Zh t u T) (thing W H ss t u (Zh t u T))).h=u.h*par 1 [Yh t u (Zh t u T)]:=by
 obtain⟨n1,n2,n3,n4⟩:=h.nxt
 have p0:par 0 [Yh t u (Zh t u T)]=if cE (place t (Zh t u T))=true then -1 else 1:=CL _
 have p1:par 1 [Yh t u (Zh t u T)]=if cE (place u (Zh t u T))=true then -1 else 1:=CL _
 have kx:t.due=Zh t u T->t.h≠0:=λz q=>by rcases h.x.mv with a|a;lia;lia
 have ky:u.due=Zh t u T->u.h≠0:=λz q=>by rcases h.y.mv with a|a;lia;lia
 rw[p0,p1]
 have gP:=hm
 generalize YA:thing W H ss t u (Zh t u T)=th at *
 unfold thing at YA
 have np:∀v:Tk,v.due≠Zh t u T->(Qf v (Zh t u T) th).h=v.h:=λv q=>by unfold Qf;rw[AD q]
 have yp:∀v:Tk,v.due=Zh t u T->(Qf v (Zh t u T) th).h = -v.h:=λv q=>by unfold Qf;rw[AC q,AC hm]
 split at YA
 .split at YA<;>rw[<-YA] at hm<;>cases hm
 .rename_i hb
  by_cases hx:t.due=Zh t u T
  .have hy:u.due≠Zh t u T:=λq=>hb ⟨hx,q⟩
   rw[yp t hx,np u hy,h.x.whole (kx hx) hx,h.y.broken (BW n1) n4 hy (λ_=>n1)]
   simp
  .rw[AD hx] at YA
   by_cases hy:u.due=Zh t u T
   .rw[yp u hy,np t hx,h.y.whole (ky hy) hy,h.x.broken (BW n1) n3 hx (λ_=>n1)]
    simp
   .rw[AD hy] at YA
    rw[<-YA] at hm
    cases hm
def Ls {th:Th}(hm:th.mir=false):(Qf t w th).h=t.h:=by
 unfold Qf
 split
 .rw[hm];rfl
 .rfl
end
section
variable {c1 c2 s T T':Int}{W H:Nat}{ss:List Sd}{ps:List Po4}{most:Nat}
structure cf (c1 c2 s T T':Int) (W H:Nat) (ss:List Sd) (ps:List Po4) (most n:Nat) (tn0:List D) (hx hy lx ly g1 g2:Int) (r d:Option D):Prop where
 ex:∃(m:Nat) (t u t' u':Tk) (tn:List D) (now:Int),m<=n/\r=wk W H ss ps T most (m+1) t u (tn0++tn)/\d=some (.tup [.str (Str.ofString "end"),Yh t' u' T',.lst (tn0++tn)]) /\
  WS W H T now t u/\Rt c1 c2 s T T' t t'/\Rt c1 c2 s T T' u u'/\(∀p∈ps,N4 t.sq u.sq p=true->∀x y,tval t u p=some (x,y)->0<x->s*y<c1*x) /\
  Zh t' u' T'=T'/\Xj ps T' t' u'=none/\c1*now-s<c2*T'/\tn0.length+tn.length<=max most tn0.length/\t.h=hx*par 0 tn/\u.h=hy*par 1 tn/\t.lap=lx/\u.lap=ly/\thing W H ss t' u' T'≠.co/\(t.h≠0->g1 ∣ t'.due/\g1 ∣ t'.lap)/\(u.h≠0->g2 ∣ u'.due/\g2 ∣ u'.lap)
def C0 {t:Tk}{w g h0:Int}{th:Th}(h:h0≠0->g ∣ t.due/\g ∣ t.lap)(q:h0≠0):g ∣ (Qf t w th).due/\g ∣ (Qf t w th).lap:=by
 obtain⟨a,b⟩:=h q
 rw[X9]
 refine⟨?_,b⟩
 unfold Qf
 split
 .split
  .exact Int.dvd_add a b
  .exact Int.dvd_add a b
 .exact a
def zr {th:Th}{may:Bool}{w:Str}(h:Yr th false may=some w):w≠Str.ofString "end":=by
 cases th with
 |co=>cases h;decide
 |no=>cases h
 |fa b=>
  cases b
  .cases h;decide
  .cases may
   .cases h;decide
   .cases h
def Bq {w:Str}{p pt:D}{tn l:List D}{r:Option D}(e:r=some (.tup [.str w,p,.lst tn])) (hw:w≠Str.ofString "end"):r≠some (.tup [.str (Str.ofString "end"),pt,.lst l]):=λz=>by
 rw[e] at z
 injection z with z
 injection z with z
 injection z with z _
 injection z with z
 exact hw z
theorem lim {g1 g2:Int}(h1:0<c1)(h2:0<c2)(h0:0<=s)(hT:c2*T'<=c1*T-s)(hp:∀p∈ps,0<p.b/\0<p.d)(hN:∀p∈ps,∀k:Int,k*p.b≠p.a/\k*p.d≠p.c):∀(n:Nat) (t u t' u':Tk) (tn:List D) (now:Int),WS W H T now t u->Rt c1 c2 s T T' t t'->Rt c1 c2 s T T' u u'->s<c1*Zh t u T->c1*now-s<c2*T' ->
  (∀p∈ps,N4 t.sq u.sq p=true->∀x y,tval t u p=some (x,y)->0<x->s*y<c1*x)->(t.h≠0->g1 ∣ t'.due/\g1 ∣ t'.lap)->(u.h≠0->g2 ∣ u'.due/\g2 ∣ u'.lap) ->
  (wk W H ss ps T most n t u tn=wk W H ss ps T' most n t' u' tn/\∀pt l,wk W H ss ps T' most n t' u' tn≠some (.tup [.str (Str.ofString "end"),pt,.lst l]))\/cf c1 c2 s T T' W H ss ps most n tn t.h u.h t.lap u.lap g1 g2 (wk W H ss ps T most n t u tn) (wk W H ss ps T' most n t' u' tn)
 |0,_,_,_,_,_,_,_,_,_,_,_,_,_,_=>.inl ⟨rfl,λ_ _ z=>by cases z⟩
 |n+1,t,u,t',u',tn,now,wi,x,y,hs,hl,hB,dx,dy=>by
  have ha:=Zal h1 h2 h0 hT x y wi.mv hp hB
  have wk1:wk W H ss ps T most (n+1) t u tn=wk W H ss ps T most (n+1) t u (tn++[]):=by rw[BJ]
  generalize hr:wk W H ss ps T most (n+1) t u tn=r at *
  have XY:Xj ps T' t' u'=none->c1*Zh t u T-s<=c2*T'->((t.h≠0/\t.due=Zh t u T)\/(u.h≠0/\u.due=Zh t u T))->Xj ps T t u=none:=λTK hle hd=>by
   cases ea:Xj ps T t u with
   |none=>rfl
   |some b=>
    obtain⟨p,xx,yy⟩:=b
    rw[ea,TK] at ha
    obtain⟨m1,m2,m3,_⟩:=Zam ea
    obtain⟨y0,g1,g2⟩:=wi.soon (hp p m1).1 (hp p m1).2 (hN p m1) m2 m3
    have g:xx<Zh t u T*yy:=by
     rcases hd with⟨z1,z2⟩|⟨z1,z2⟩
     .rw[<-z2];exact g1 z1
     .rw[<-z2];exact g2 z1
    have a1:c1*xx<c1*(Zh t u T*yy):=(BL h1).mpr g
    have a2:(c1*Zh t u T-s)*yy<=c2*T'*yy:=AN hle (by lia)
    rw[JM,CV] at a2
    have a3:c2*T'*yy<=c1*xx-s*yy:=ha.2
    lia
  cases TK:Xj ps T' t' u' with
  |some b'=>
   obtain⟨p',z'⟩:=b'
   rw[TK] at ha
   cases ea:Xj ps T t u with
   |none=>rw[ea] at ha;exact ha.elim
   |some b=>
    obtain⟨p,z⟩:=b
    rw[ea] at ha
    have:p'=p:=ha.1
    subst this
    left
    have e2:wk W H ss ps T' most (n+1) t' u' tn=some (.tup [.str (Str.ofString "person"),p'.D,.lst tn]):=by
     unfold wk
     rw[TK]
    refine⟨?_,λ_ _=>Bq e2 (by decide)⟩
    rw[<-hr,e2]
    unfold wk
    rw[ea]
  |none=>
   by_cases ho:Zh t' u' T'<T'
   ·
    obtain⟨hn,ht⟩:=x.now h1 h2 y hT ho
    have en:Xj ps T t u=none:=by
     refine XY TK ?_ ?_
     .unfold Ck at hn
      rw[<-hn]
      exact BW ((BL h2).mpr ho)
     .have kx:t.due<=T->t.h≠0:=λz q=>by rcases wi.x.mv with a|a;lia;lia
      have ky:u.due<=T->u.h≠0:=λz q=>by rcases wi.y.mv with a|a;lia;lia
      have hv:Zh t u T=t.due\/Zh t u T=u.due:=by unfold Zh at ht ⊢;lia
      rcases hv with q|q
      .exact .inl ⟨kx (by lia),q.symm⟩
      .exact .inr ⟨ky (by lia),q.symm⟩
    have UA:thing W H ss t' u' (Zh t' u' T')=thing W H ss t u (Zh t u T):=x.thing h1 h2 y hn (by lia) (by lia)
    have lx:t.h≠0->0<t.lap:=λz=>by rcases wi.x.mv with a|a;exact absurd a.1 z;exact a.2.1
    have ly:u.h≠0->0<u.lap:=λz=>by rcases wi.y.mv with a|a;exact absurd a.1 z;exact a.2.1
    have WZ:Yh t' u' (Zh t' u' T')=Yh t u (Zh t u T):=by
     unfold Yh
     rw[x.place h1 h2 hn lx,y.place h1 h2 hn ly]
    have px:=x.pass h1 h2 (th:=thing W H ss t u (Zh t u T)) hn (by lia) (by lia)
    have py:=y.pass h1 h2 (th:=thing W H ss t u (Zh t u T)) hn (by lia) (by lia)
    have o1:decide (Zh t u T=T)=false:=AR (by lia)
    have o2:decide (Zh t' u' T'=T')=false:=AR (by lia)
    cases hw:Yr (thing W H ss t u (Zh t u T)) (decide (Zh t u T=T)) (decide (tn.length<most)) with
    |some w=>
     left
     have e2:wk W H ss ps T' most (n+1) t' u' tn=some (.tup [.str w,Yh t u (Zh t u T),.lst tn]):=by
      unfold wk
      rw[TK]
      dsimp only
      rw[UA,o2,<-o1,hw,WZ]
     refine⟨?_,λ_ _=>Bq e2 (zr (o1▸hw))⟩
     rw[<-hr,e2]
     unfold wk
     rw[en]
     dsimp only
     rw[hw]
    |none=>
     have wi':=wi.step hw
     have nx:=wi.nxt
     have pZ:0<Zh t u T:=by have:=wi.n0;lia
     have tl:∃tl:List D,(if(thing W H ss t u (Zh t u T)).mir=true then tn++[Yh t u (Zh t u T)] else tn)=tn++tl/\tn.length+tl.length<=max most tn.length/\(Qf t (Zh t u T) (thing W H ss t u (Zh t u T))).h=t.h*par 0 tl/\(Qf u (Zh t u T) (thing W H ss t u (Zh t u T))).h=u.h*par 1 tl:=by
      obtain⟨_,w2⟩:=U2 hw
      rcases w2 with w2|⟨w2,w3⟩
      .have gO:(thing W H ss t u (Zh t u T)).mir=false:=by rw[w2];rfl
       rw[gO]
       exact⟨[],by rw[BJ];rfl,by simp;lia,by rw[Ls gO];exact(CL _).symm,by rw[Ls gO];exact(CL _).symm⟩
      .have:=BK w3
       have jz:(thing W H ss t u (Zh t u T)).mir=true:=by rw[w2];rfl
       have k:=wi.turn ht jz
       refine⟨[Yh t u (Zh t u T)],AC jz,by rw[DD];lia,k.1,k.2⟩
     obtain⟨tl,kY,ltl,oq,oo⟩:=tl
     have hs':s<c1*Zh (Qf t (Zh t u T) (thing W H ss t u (Zh t u T))) (Qf u (Zh t u T) (thing W H ss t u (Zh t u T))) T:=by
      have:=wi'.nxt.1
      have:=(BL h1).mpr this
      lia
     have qW:c1*Zh t u T-s<c2*T':=by
      unfold Ck at hn
      rw[<-hn]
      exact(BL h2).mpr ho
     have rH:∀p∈ps,N4 (Qf t (Zh t u T) (thing W H ss t u (Zh t u T))).sq (Qf u (Zh t u T) (thing W H ss t u (Zh t u T))).sq p=true->∀x y,tval (Qf t (Zh t u T) (thing W H ss t u (Zh t u T))) (Qf u (Zh t u T) (thing W H ss t u (Zh t u T))) p=some (x,y)->0<x->s*y<c1*x:=λp hp' hq xx yy e _=>by
      obtain⟨y0,g⟩:=wi'.late pZ (hp p hp').1 (hp p hp').2 hq e
      have g1:=HP g (show 0<=c1 by lia)
      have g2:=BQ hs y0
      rw[<-CV] at g1
      lia
     have ih:=lim h1 h2 h0 hT hp hN n _ _ _ _ (tn++tl) _ wi' px py hs' qW rH (λq=>C0 dx (pass_h.mp q)) (λq=>C0 dy (pass_h.mp q))
     have e1:r=wk W H ss ps T most n (Qf t (Zh t u T) (thing W H ss t u (Zh t u T))) (Qf u (Zh t u T) (thing W H ss t u (Zh t u T))) (tn++tl):=by
      rw[<-hr]
      conv=>lhs;unfold wk
      rw[en]
      dsimp only
      rw[hw]
      dsimp only
      rw[kY]
     have e2:wk W H ss ps T' most (n+1) t' u' tn=wk W H ss ps T' most n (Qf t' (Zh t' u' T') (thing W H ss t u (Zh t u T))) (Qf u' (Zh t' u' T') (thing W H ss t u (Zh t u T))) (tn++tl):=by
      conv=>lhs;unfold wk
      rw[TK]
      dsimp only
      rw[UA,o2,<-o1,hw]
      dsimp only
      rw[WZ,kY]
     rw[e1,e2]
     rcases ih with ih|⟨m,t1,u1,oH,oG,jW,WE,i1,i2,i3,i4,i5,i6,i7,i8,i9,pX,pW,i12,pV,pU,pS,pR,pQ,pP⟩
     .exact .inl ih
     .refine .inr ⟨m,t1,u1,oH,oG,tl++jW,WE,by lia,by rw[<-HF];exact i2,by rw[<-HF];exact i3,i4,i5,i6,i7,i8,i9,pX,?_,?_,?_,by rw[pU,X9],by rw[pS,X9],pR,pQ,pP⟩
      .rw[BE] at pW ⊢
       lia
      .rw[i12,oq,Bp,CV]
      .rw[pV,oo,Bp,CV]
   ·
    have no:Zh t' u' T'=T':=by
     have:Zh t' u' T'<=T':=by unfold Zh;lia
     lia
    have e2:wk W H ss ps T' most (n+1) t' u' tn=(match Yr (thing W H ss t' u' T') true (decide (tn.length<most)) with
      |some w=>some (.tup [.str w,Yh t' u' T',.lst tn])
      |none=>none):=by
     conv=>lhs;unfold wk
     rw[TK,no]
     dsimp only
     rw[AS rfl]
     cases thing W H ss t' u' T' with
     |co=>rfl
     |no=>rfl
     |fa b=>cases b<;>rfl
    have back:∀{z z':Tk},Rt c1 c2 s T T' z z'->z'.due=T'->z.h≠0/\Ck c1 c2 s z.due T'/\z.due<=T:=λ{z z'} rz hz=>by
     rcases rz.due with⟨a,b⟩|⟨_,_,_,_,b⟩
     .rw[hz] at b
      refine⟨a,b,?_⟩
      unfold Ck at b
      exact Int.le_of_mul_le_mul_left (by lia) h1
     .lia
    cases UA:thing W H ss t' u' T' with
    |co=>
     left
     have hc:=UA
     unfold thing at hc
     split at hc
     .rename_i hd
      obtain⟨b1,b2,b3⟩:=back x hd.1
      obtain⟨b4,b5,b6⟩:=back y hd.2
      have eq:t.due=u.due:=(mV h1 h2 b2 b5).mp rfl
      have ew:Zh t u T=t.due:=by unfold Zh;lia
      have qC:thing W H ss t u t.due=.co:=by
       rw[<-x.thing h1 h2 y b2 b3 (GL _)]
       exact UA
      have en:Xj ps T t u=none:=by
       refine XY TK ?_ (.inl ⟨b1,ew.symm⟩)
       unfold Ck at b2
       rw[ew,b2]
       exact GL _
      have lx:t.h≠0->0<t.lap:=λz=>by rcases wi.x.mv with a|a;exact absurd a.1 z;exact a.2.1
      have ly:u.h≠0->0<u.lap:=λz=>by rcases wi.y.mv with a|a;exact absurd a.1 z;exact a.2.1
      rw[UA] at e2
      refine⟨?_,λ_ _=>Bq e2 (by decide)⟩
      rw[e2,<-hr]
      unfold wk
      rw[en,ew,qC]
      dsimp only
      unfold Yh
      rw[x.place h1 h2 b2 lx,y.place h1 h2 b2 ly]
      rfl
     .exfalso
      split at hc
      .exact Gi hc
      .split at hc
       .exact Gi hc
       .cases hc
    |no=>
     right
     rw[UA] at e2
     refine⟨n,t,u,t',u',[],now,by lia,by rw[BJ];exact hr.symm,by rw[e2,BJ];rfl,wi,x,y,hB,no,TK,hl,by simp;lia,(CL _).symm,(CL _).symm,rfl,rfl,(by rw[UA];intro z;cases z),dx,dy⟩
    |fa b=>
     right
     rw[UA] at e2
     refine⟨n,t,u,t',u',[],now,by lia,by rw[BJ];exact hr.symm,by rw[e2,BJ];cases b<;>rfl,wi,x,y,hB,no,TK,hl,by simp;lia,(CL _).symm,(CL _).symm,rfl,rfl,(by rw[UA];intro z;cases z),dx,dy⟩
end
def m1 (a:Int):Int:=if(a.natAbs:Int) > 1 then a.natAbs else 1
def Ph (a:Int):0<m1 a/\(a≠0->m1 a=a.natAbs):=by
 unfold m1
 split
 .exact⟨by lia,λ_=>rfl⟩
 .exact⟨by lia,λ_=>by lia⟩
def Lu {a:Int}{k:Nat}(h:a.natAbs<=10 ^ k):(m1 a).natAbs<=10 ^ k:=by
 have:=JI (n:=k) (show 0<10 by decide)
 unfold m1
 split<;>lia
def wT (p s:Po4):Int:=1*p.b*m1 s.a*p.d*m1 s.c
structure VN (s:Po4):Prop where
 x:Fr 12 s.a s.b
 y:Fr 12 s.c s.d
 gx:Int.gcd s.a s.b=1
 gy:Int.gcd s.c s.d=1
 n0:s.a≠0\/s.c≠0
 lx:(s.a.natAbs:Int)<=300*s.b
 ly:(s.c.natAbs:Int)<=300*s.d
def sh:Zf->M O:=Z7 2 (Zp Zx (Zp Zx (Zd 2) 3[1]!) (Kr A4 (Zb ↑1 (Zb (Kr Kg (Zb 4[0]! Zk)) Zk))))
def mq (o0 o1 o3 o4:Option S){T0 n m a b:Int}(h0:T0.natAbs<=10 ^ 100)(hm:m.natAbs<=10 ^ 100)(ha:a.natAbs<=10 ^ 100):∃sd1,U6 2 (Yn (Ut 3) (Yn (Ut 4) Wv)) (.tup [nD n m,nD a b]) [o0,o1,Jo T0,o3,o4]=.ok sd1 /\
  sh sd1=.ok (.nx [o0,o1,Jo (T0*m*m1 a),Io (nD n m),Io (nD a b)]):=by
 refine⟨[o0,o1,Jo T0,Io (nD n m),Io (nD a b)],rfl,?_⟩
 have em:Kr A4 (Zb ↑1 (Zb (Kr Kg (Zb 4[0]! Zk)) Zk)) [o0,o1,Jo T0,Io (nD n m),Io (nD a b)]=.ok (.int (m1 a)):=Jy (aC rfl (Law.a1 (Jy (Law.a1 (Zy rfl rfl (Y3 _ _))) (Um a)))) rfl
 exact Z3 (Zn (Zn rfl (Zy rfl rfl (Xx _ _ _)) (gT (Ye h0 (by decide)) (Ye hm (by decide)))) em (gT (Ye (Qt h0 hm) (by decide)) (Ye (Lu ha) (by decide))))
def Zgv {p s:Po4}(hp:PoOk 20 p)(hs:VN s):Y1 [p.D,s.D]=.ok (.im (.int (wT p s))):=by
 have b1:=hp.x.bot
 have b2:=hp.y.bot
 have a1:=hs.x.top
 have a2:=hs.y.top
 have le:∀{j:Nat},j<=100->(10:Nat) ^ j<=10 ^ 100:=λh=>K9 h
 obtain⟨s1,e1,e2⟩:=mq (Io p.D) (Io s.D) none none (T0:=1) (n:=p.a) (m:=p.b) (a:=s.a) (b:=s.b) (JI (by decide)) (AV b1 (le (by decide))) (AV a1 (le (by decide)))
 have h0:((1:Int)*p.b*m1 s.a).natAbs<=10 ^ 100:=AV (Qt (j:=20) (k:=12) (by rw[CT];exact b1) (Lu a1)) (le (by decide))
 obtain⟨s2,e3,e4⟩:=mq (Io p.D) (Io s.D) (Io (nD p.a p.b)) (Io (nD s.a s.b)) (T0:=1*p.b*m1 s.a) (n:=p.c) (m:=p.d) (a:=s.c) (b:=s.d) h0 (AV b2 (le (by decide))) (AV a2 (le (by decide)))
 have z:Ej (Zb (Zd 0) (Zb (Zd 1) Zk)) [Io p.D,Io s.D,Jo 1,none,none]=.ok [.tup [nD p.a p.b,nD s.a s.b],.tup [nD p.c p.d,nD s.c s.d]]:=rfl
 exact(YI _ _ _ _).trans (Qh (go (Z3 rfl) (go ((Vu z).trans ((Vv e1 e2).trans ((Vv e3 e4).trans rfl))) (Z9 rfl))))
def K6 {f g:Zf->Qs->Option (Zf×Qs)}{sd sd':Zf}{r r':Qs}{x:Option (Zf×Qs)}(h:f sd r=some (sd',r'))(k:g sd' r'=x):Kk f g sd r=x:=by
 unfold Kk;rw[h];exact k
def Xg {n:Str}{e:Zf->Qs->M D}{sd:Zf}{r r':Qs}{d:D}(h:e sd r=.ok d)(hl:r.length<=900)(hr:A1 n d r=r'):Nk n e sd r=some (sd,r'):=by
 unfold Nk;rw[h]
 show(if r.length<=900 then some (sd,A1 n d r) else none)=_
 rw[AC hl,hr]
def Hz {i:Nat}{e:Zf->Qs->M D}{sd:Zf}{r:Qs}{d:D}(h:e sd r=.ok d):O3 i e sd r=some (sd.set i (Io d),r):=by
 unfold O3;rw[h];rfl
def uW {c:Zf->Qs->M Bool}{f g:Zf->Qs->Option (Zf×Qs)}{sd:Zf}{r:Qs}{x:Option (Zf×Qs)}(h:c sd r=.ok true)(k:f sd r=x):VZ c f g sd r=x:=by
 unfold VZ;rw[h];exact k
def uV {c:Zf->Qs->M Bool}{f g:Zf->Qs->Option (Zf×Qs)}{sd:Zf}{r:Qs}{x:Option (Zf×Qs)}(h:c sd r=.ok false)(k:g sd r=x):VZ c f g sd r=x:=by
 unfold VZ;rw[h];exact k
def sg (a:Int):Int:=if a > 0 then 1 else -1
def Uq (a b T:Int):Int:=b*(T/(a.natAbs:Int))
def Qe (n m a:Int):Int:=if a > 0 then m-n%m else n%m
def Jk (n m a b T:Int):Tk:=if a=0 then⟨n,m,n/m,0,T+1,0⟩ else⟨n,m,n/m,sg a,Qe n m a*(Uq a b T/m),Uq a b T⟩
def mn {n m a b T:Int}(hm:Fr 20 n m)(ha:Fr 12 a b)(hT:T.natAbs<=10 ^ 54):X7 [] [nD n m,nD a b,.int T]=some (Jk n m a b T).r:=by
 have jc:=Ye hm.bot (show 20<=900 by decide)
 have kZ:Z1 Yv (Zb (Zd 1) Zk) [none,Io (nD n m),Io (nD a b),Jo T,none,none]=.ok (.int (n/m)):=
  Z5 (Law.a1 rfl) ((cH _ _ _).trans (Qh (Z9 (Zn (Zy rfl rfl (Y3 _ _)) (Zy rfl rfl (Xx _ _ _)) (By hm.pos jc))))) rfl
 have c0:DL.tB (Zp Rr 2[0]! ↑0) [none,Io (nD n m),Io (nD a b),Jo T,none,none]=.ok (!(a==0)):=by
  refine Qv (Zn (Zy rfl rfl (Y3 _ _)) rfl ?_)
  rw[Gh (by simp[D.dep])]
  rfl
 have fin:∀{g:Zf->Qs->Option (Zf×Qs)}{sd':Zf}{r':Qs},g [none,Io (nD n m),Io (nD a b),Jo T,none,none] []=some (sd',r')->VY 3 2 g [] [nD n m,nD a b,.int T]=some r':=λ{g sd' r'} h=>by
  unfold VY
  rw[AC (show [nD n m,nD a b,D.int T].length=3 from rfl)]
  show Option.map _ (g [none,Io (nD n m),Io (nD a b),Jo T,none,none] [])=_
  rw[h]
  rfl
 unfold Jk
 by_cases h0:a=0
 .rw[AC h0]
  rw[show(!(a==0))=false by simp[h0]] at c0
  exact fin (K6 (Xg rfl (BO rfl) rfl) (K6 (Xg kZ (BO rfl) rfl) (K6 (Xg rfl (BO rfl) rfl) (K6 (Xg (d:=.int (T+1)) rfl (BO rfl) rfl) (K6 (Xg rfl (BO rfl) rfl) (uV c0 rfl))))))
 .rw[AD h0]
  rw[show(!(a==0))=true by simp[h0]] at c0
  have hn:0<(a.natAbs:Int):=by lia
  have sa:sm (a.natAbs:Int)=true:=Ye (x:=(a.natAbs:Int)) (k:=12) (by rw[ER];exact ha.top) (by decide)
  have hh:C6 (DL.tB (Zp S5 2[0]! ↑0)) ↑1 (YK Dz ↑1) [none,Io (nD n m),Io (nD a b),Jo T,none,none]=.ok (.int (sg a)):=by
   unfold sg
   by_cases hp:a > 0
   .rw[AC hp];exact Pg (Qv (Zn (Zy rfl rfl (Y3 _ _)) rfl (lr hp))) rfl
   .rw[AD hp];exact Sn (Qv (Zn (Zy rfl rfl (Y3 _ _)) rfl (mW hp))) rfl
  have dT:(T/(a.natAbs:Int)).natAbs<=10 ^ 54:=AV (ID _ _) hT
  have el:Zp Zx 2[1]! (Zp Q4 (Zd 3) (Kr Kg (Zb 2[0]! Zk))) [none,Io (nD n m),Io (nD a b),Jo T,none,none]=.ok (.int (Uq a b T)):=
   Zn (Zy rfl rfl (Xx _ _ _)) (Zn rfl (Jy (Law.a1 (Zy rfl rfl (Y3 _ _))) (Um a)) (By hn sa)) (gT (Ye ha.bot (by decide)) (Ye dT (by decide)))
  have lb:(Uq a b T).natAbs<=10 ^ 66:=Qt (j:=12) (k:=54) ha.bot dT
  have em:Zp Yk 1[0]! 1[1]! [none,Io (nD n m),Io (nD a b),Jo T,none,none]=.ok (.int (n%m)):=Zn (Zy rfl rfl (Y3 _ _)) (Zy rfl rfl (Xx _ _ _)) (gM hm.pos)
  have dm:(Uq a b T/m).natAbs<=10 ^ 66:=AV (ID _ _) lb
  have e5:∀r:Qs,r.lookup ("heading":Str)=some (D.int (sg a))->eU (gB (C7 S5 (V1 "heading") (J2 ↑0))) (J2 (Zp DL.Ko 1[1]! (Zd 4))) (J2 (Zd 4)) [none,Io (nD n m),Io (nD a b),Jo T,Jo (n%m),none] r=.ok (.int (Qe n m a)):=λr hr=>by
   have hg:V1 "heading" [none,Io (nD n m),Io (nD a b),Jo T,Jo (n%m),none] r=.ok (.int (sg a)):=by unfold V1;rw[hr]
   have hc:gB (C7 S5 (V1 "heading") (J2 ↑0)) [none,Io (nD n m),Io (nD a b),Jo T,Jo (n%m),none] r=.ok (decide (0<sg a)):=by
    unfold gB C7
    rw[hg]
    rfl
   unfold eU Qe
   rw[hc]
   unfold sg
   by_cases hp:a > 0
   .rw[AC hp,AC hp]
    show Zp DL.Ko 1[1]! (Zd 4) [none,Io (nD n m),Io (nD a b),Jo T,Jo (n%m),none]=_
    exact Zn (Zy rfl rfl (Xx _ _ _)) rfl rfl
   .rw[AD hp,AD hp]
    rfl
  have lo:(Qe n m a).natAbs<=10 ^ 21:=by
   have h1:=BS n (show m≠0 by have:=hm.pos;lia)
   have h2:=BG n hm.pos
   have h3:=hm.bot
   have h4:(10:Nat) ^ 21=10*10 ^ 20:=rfl
   unfold Qe
   split<;>lia
  have e6:∀r:Qs,r.lookup ("lap":Str)=some (D.int (Uq a b T))->C7 Zx (J2 (Zd 5)) (C7 Q4 (V1 "lap") (J2 1[1]!)) [none,Io (nD n m),Io (nD a b),Jo T,Jo (n%m),Jo (Qe n m a)] r=.ok (.int (Qe n m a*(Uq a b T/m))):=λr hr=>by
   have hg:V1 "lap" [none,Io (nD n m),Io (nD a b),Jo T,Jo (n%m),Jo (Qe n m a)] r=.ok (.int (Uq a b T)):=by unfold V1;rw[hr]
   have h2:J2 1[1]! [none,Io (nD n m),Io (nD a b),Jo T,Jo (n%m),Jo (Qe n m a)] r=.ok (.int m):=Zy rfl rfl (Xx _ _ _)
   have h3:C7 Q4 (V1 "lap") (J2 1[1]!) [none,Io (nD n m),Io (nD a b),Jo T,Jo (n%m),Jo (Qe n m a)] r=.ok (.int (Uq a b T/m)):=by
    unfold C7
    rw[hg,M.bind_ok,h2,M.bind_ok]
    exact By hm.pos jc
   unfold C7 at h3 ⊢
   rw[h3]
   exact gT (Ye lo (by decide)) (Ye dm (by decide))
  exact fin (K6 (Xg rfl (BO rfl) rfl) (K6 (Xg kZ (BO rfl) rfl) (K6 (Xg rfl (BO rfl) rfl) (K6 (Xg (d:=.int (T+1)) rfl (BO rfl) rfl) (K6 (Xg rfl (BO rfl) rfl) (uW c0 (K6 (Xg hh (BO rfl) rfl) (K6 (Xg el (BO rfl) rfl) (K6 (Hz em) (K6 (Hz (e5 _ rfl)) (Xg (e6 _ rfl) (BO rfl) rfl)))))))))))
section
variable {z:Nat}{n m a b T:Int}
def Br (h:a=0):Jk n m a b T=⟨n,m,n/m,0,T+1,0⟩:=AC h
def Sw {k:Int}(h:a≠0)(hm:0<m)(hT:T=m*a.natAbs*k):Jk n m a b T=⟨n,m,n/m,sg a,Qe n m a*(b*k),b*(m*k)⟩:=by
 have e1:T/(a.natAbs:Int)=m*k:=by
  rw[hT,show m*(a.natAbs:Int)*k=m*k*a.natAbs by grind]
  exact JT _ (by lia)
 have e2:Uq a b T=b*(m*k):=by unfold Uq;rw[e1]
 have e3:b*(m*k)/m=b*k:=by
  rw[show b*(m*k)=b*k*m by grind]
  exact JT _ (by lia)
 unfold Jk
 rw[AD h,e2,e3]
def Gj (hp:PB z n m):0<Qe n m a/\Qe n m a<m:=by
 have hm:=hp.fr.pos
 have h1:=BS n (show m≠0 by lia)
 have h2:=BG n hm
 have h3:=FA n m
 have h4:=hp.nw (n/m)
 rw[EV] at h4
 unfold Qe
 split<;>lia
def Sx (h:a≠0):(sg a=1/\0<a)\/(sg a = -1/\a<0):=by
 unfold sg
 split<;>lia
def Ia (hp:PB z n m)(z8:z<=8)(hT:0<T)(hb:0<b)(hd:a≠0->∃k,0<k/\T=m*a.natAbs*k):TI z T 0 (Jk n m a b T):=by
 have hm:=hp.fr.pos
 have q0:0<=n/m:=Int.ediv_nonneg (BW hp.p0) (BW hm)
 have q1:n/m<z:=(Int.ediv_lt_iff_lt_mul hm).mpr hp.p1
 by_cases h:a=0
 .rw[Br h]
  exact⟨hp,z8,q0,q1,GL _,.inl ⟨rfl,rfl,rfl⟩⟩
 .obtain⟨k,k0,e⟩:=hd h
  rw[Sw h hm e]
  obtain⟨l0,l1⟩:=Gj (a:=a) hp
  have bk:0<b*k:=AU hb k0
  have lp:0<b*(m*k):=AU hb (AU hm k0)
  refine⟨hp,z8,q0,q1,BW lp,.inr ⟨?_,lp,AU l0 bk,?_⟩⟩
  .show sg a=1\/sg a = -1
   rcases Sx h with⟨q,_⟩|⟨q,_⟩
   .exact .inl q
   .exact .inr q
  .show Qe n m a*(b*k)<=0+b*(m*k)
   have:=AN (BW l1) (BW bk)
   rw[show b*(m*k)=m*(b*k) by grind]
   lia
def kj (a:Int):Int:=if a=0 then 1 else a.natAbs
def Zkt:(Jk n m a b T).h*kj a=a:=by
 unfold kj
 by_cases h:a=0
 .rw[Br h,AC h,h];rfl
 .rw[AD h]
  unfold Jk
  rw[AD h]
  show sg a*_=_
  rcases Sx h with⟨q,r⟩|⟨q,r⟩<;>rw[q]<;>lia
def zq (hp:PB z n m)(hb:0<b)(hd:a≠0->∃k,0<k/\T=m*a.natAbs*k):place (Jk n m a b T) 0=nD n m:=by
 have hm:=hp.fr.pos
 by_cases h:a=0
 .rw[Br h];rfl
 .obtain⟨k,k0,e⟩:=hd h
  rw[Sw h hm e]
  have lp:0<b*(m*k):=AU hb (AU hm k0)
  have h3:=FA n m
  unfold place
  have hs:sg a≠0:=by rcases Sx h with⟨q,_⟩|⟨q,_⟩<;>lia
  dsimp only
  rw[AD hs,<-Uo hm hp.g]
  refine Jh lp hm ?_
  unfold Tk.line Yj Qe
  dsimp only
  rcases Sx h with⟨q,r⟩|⟨q,r⟩
  .rw[q,AC (by decide),AC (show a > 0 from r)]
   have:(n/m+1)*m-(m-n%m)=n:=by grind
   grind
  .rw[q,AD (by decide),AD (show ¬a > 0 by lia)]
   have:n/m*m+n%m=n:=by grind
   grind
def nI (hp:PB z n m)(hb:0<b)(hl:(a.natAbs:Int)<=300*b)(hd:a≠0->∃k,0<k/\T=m*a.natAbs*k):T<(Jk n m a b T).due+(300:Nat)*(Jk n m a b T).lap:=by
 have hm:=hp.fr.pos
 by_cases h:a=0
 .rw[Br h]
  show T<T+1+(300:Nat)*0
  lia
 .obtain⟨k,k0,e⟩:=hd h
  rw[Sw h hm e]
  obtain⟨l0,l1⟩:=Gj (a:=a) hp
  show T<Qe n m a*(b*k)+(300:Nat)*(b*(m*k))
  have h1:=AU l0 (AU hb k0)
  have mk:0<m*k:=AU hm k0
  have h2:=AN hl (BW mk)
  have e1:T=a.natAbs*(m*k):=by rw[e];grind
  have e2:((300:Nat):Int)*(b*(m*k))=300*b*(m*k):=by grind
  rw[e2]
  lia
end
def look:Mw->List Q9->List D
 |[],_=>[]
 |(k,l)::r,ks=>if k=ks then l else look r ks
def Zan (q:Mw)(ks:List Q9):Yu (qD q) ks=some (.lst (look q ks))\/(Yu (qD q) ks=none/\look q ks=[]):=by
 induction q with
 |nil=>exact .inr ⟨rfl,rfl⟩
 |cons kl r ih=>
  obtain⟨k,l⟩:=kl
  have e:look ((k,l)::r) ks=if k=ks then l else look r ks:=rfl
  rw[e]
  unfold Yu qD at *
  rw[BA,BX]
  by_cases h:k=ks
  .rw[AS h,AC h]
   exact .inl rfl
  .rw[AR h,AD h]
   exact ih
theorem C1 (ks WJ:List Q9)(p:D):∀q:Mw,look (V2 ks p q) WJ=if ks=WJ then look q WJ++[p] else look q WJ
 |[]=>by
  unfold V2 look
  split
  .rfl
  .rfl
 |(k,l)::r=>by
  unfold V2
  by_cases h:k=ks
  .rw[AC h]
   subst h
   unfold look
   by_cases h':k=WJ
   .rw[AC h',AC h',AC h']
   .rw[AD h',AD h',AD h']
  .rw[AD h]
   unfold look
   rw[C1 ks WJ p r]
   by_cases h':k=WJ
   .rw[AC h',AC h',AD (λz=>h (h'.trans z.symm))]
   .rw[AD h',AD h']
def ve {p:Po4}(hp:PoOk 4 p):He p.D=some [.inl (p.a/p.b),.inl (p.c/p.d)]:=by
 have e:∀{x y:Int},Fr 4 x y->Yv [nD x y]=.ok (.im (.int (x/y))):=λh=>
  (cH _ _ _).trans (Qh (Z9 (Zn (Zy rfl rfl (Y3 _ _)) (Zy rfl rfl (Xx _ _ _)) (By h.pos (Ye h.bot (by decide))))))
 have h:dU [none,none,none,Io p.D,none]=.ok (.tup [.int (p.a/p.b),.int (p.c/p.d)]):=Js (Z5 (Law.a1 (Zy rfl rfl (Y3 _ _))) (e hp.x) rfl) (Z5 (Law.a1 (Zy rfl rfl (Xx _ _ _))) (e hp.y) rfl)
 unfold He
 rw[h]
 rfl
theorem lE:∀(ps:List Po4) (acc:Mw),(∀p∈ps,PoOk 4 p)->∃q,VI acc (ps.map Po4.D)=some q/\∀x y:Int,look q [.inl x,.inl y]=look acc [.inl x,.inl y]++(ps.filter (N4 x y)).map Po4.D
 |[],acc,_=>⟨acc,rfl,λ_ _=>by simp⟩
 |p::ps,acc,h=>by
  obtain⟨q,e1,e2⟩:=lE ps (V2 [.inl (p.a/p.b),.inl (p.c/p.d)] p.D acc) (λr hr=>h r (AQ _ hr))
  refine⟨q,?_,λx y=>?_⟩
  .rw[BA]
   unfold VI
   rw[ve (h p (AX ..))]
   exact e1
  .rw[e2,C1]
   by_cases hs:N4 x y p=true
   .have hs':=BK hs
    rw[AC (by rw[hs'.1,hs'.2]),List.filter_cons_of_pos hs,BA,HF]
    rfl
   .have hs':¬(p.a/p.b=x/\p.c/p.d=y):=JX (HI.mpr hs)
    rw[AD (λz=>hs' (by injection z with z1 z2;injection z1 with z1;injection z2 with z2 _;injection z2 with z2;exact⟨z1,z2⟩)),List.filter_cons_of_neg hs]
def vd {ps:List Po4}{q:Mw}(h:∀x y:Int,look q [.inl x,.inl y]=look [] [.inl x,.inl y]++(ps.filter (N4 x y)).map Po4.D)(x y:Int):ix (qD q) x y (ps.filter (N4 x y)):=by
 have e:=h x y
 rcases Zan q [.inl x,.inl y] with k|⟨k1,k2⟩
 .rw[e] at k
  exact .inl k
 .refine .inr ⟨k1,?_⟩
  rw[k2] at e
  have:=e.symm
  exact List.map_eq_nil_iff.mp this
section
variable {n m a b a' b' TA TB k k' N:Int}
def yD (h:sg a'=sg a)(ha:a≠0)(rE:a'≠0):Qe n m a'=Qe n m a:=by
 unfold Qe
 rcases Sx ha with⟨q,r⟩|⟨q,r⟩<;>rcases Sx rE with⟨q',r'⟩|⟨q',r'⟩
 .rw[AC r,AC r']
 .lia
 .lia
 .rw[AD (by lia),AD (by lia)]
end
section
variable {z:Nat}{TA TB TC N now a b a3 b3 n3 m3 k3:Int}{t t':Tk}
def nH {a b c d:Int}(h:nD a b=nD c d):a=c/\b=d:=by
 unfold nD at h
 injection h with h
 injection h with h1 h
 injection h1 with h1
 injection h with h2 h
 injection h2 with h2
 exact⟨h1,h2⟩
end
def tq {gt:D->Zf->M Zf}{fe:Zf->M D}{SN s0 s1:Zf}{d0 d1 r0 r1:D}(h1:gt d0 SN=.ok s0)(h2:fe s0=.ok r0)(h3:gt d1 SN=.ok s1)(h4:fe s1=.ok r1):U4 gt fe SN [d0,d1]=.ok [r0,r1]:=by
 simp only[U4,h1,h2,h3,h4]
def Gk (d:D):Prop:=∃a b c e,d=.tup [nD a b,nD c e]/\Fr 93 a b/\Int.gcd a b=1/\Fr 93 c e/\Int.gcd c e=1
def Zd2 {d:D}(h:Gk d):d.dep<=10:=by
 obtain⟨a,b,c,e,rfl,_⟩:=h
 simp[nD,D.dep,D.deps]
section
variable {W H z:Nat}{T now:Int}{t u:Tk}{ss:List Sd}{ps:List Po4}{most:Nat}
def C2 (h:TI z T now t)(l1:t.lap<=Jv)(n0:0<=now)(n1:now<T)(t1:T<=Jv){w:Int}(w0:0<=w)(w1:w<=T):∃a b,place t w=nD a b/\Fr 93 a b/\Int.gcd a b=1:=by
 unfold place
 by_cases hh:t.h=0
 .rw[AC hh]
  exact⟨_,_,rfl,h.pn.fr.mono (by decide),h.pn.g⟩
 .rw[AD hh]
  have tb:=h.tb l1 n0 n1 t1
  have hl:0<t.lap:=by rcases h.mv with q|q;exact absurd q.1 hh;exact q.2.1
  have bg:=Bo
  have b1:(t.line*t.lap).natAbs<=10 ^ (56+56):=Qt tb.li tb.lap
  have bd:(t.due-w).natAbs<=10 ^ 56:=by
   rw[Su]
   rcases h.mv with q|⟨_,_,q1,q2⟩
   .exact absurd q.1 hh
   .lia
  obtain⟨p,q,e,q0,_,g,_,_⟩:=X8 (t:=t.line*t.lap-t.h*(t.due-w)) (b:=t.lap) hl
  have hline:=h.line
  have z8:=h.z8
  have f:Fr 93 (t.line*t.lap-t.h*(t.due-w)) t.lap:=by
   have eb:(10:Nat) ^ 93=10 ^ 39*Jv:=rfl
   have sE:(1000:Nat)<=10 ^ 39:=by decide
   have k1:1000*Jv<=10 ^ 93:=by rw[eb];exact Nat.mul_le_mul_right _ sE
   have k2:t.line*t.lap<=8*t.lap:=AN (by lia) (BW hl)
   have k3:0<=t.line*t.lap:=GK hline.1 (BW hl)
   rw[Su] at bd
   refine⟨hl,?_,by lia⟩
   rcases h.mv with q|⟨q1,_⟩
   .exact absurd q.1 hh
   .rcases q1 with q1|q1<;>rw[q1]<;>lia
  obtain⟨p',q',e1,f1,_,g1⟩:=E1 f
  exact⟨p',q',e1,f1,g1⟩
def Lw (wi:WS W H T now t u)(lx:t.lap<=Jv)(ly:u.lap<=Jv)(t1:T<=Jv):Gk (Yh t u (Zh t u T)):=by
 obtain⟨w0,w1,w2,w3⟩:=wi.nxt
 have n0:=wi.n0
 obtain⟨p,q,e1,f1,g1⟩:=C2 wi.x lx n0 wi.n1 t1 (show 0<=Zh t u T by lia) w1
 obtain⟨p',q',e2,f2,g2⟩:=C2 wi.y ly n0 wi.n1 t1 (show 0<=Zh t u T by lia) w1
 refine⟨p,q,p',q',?_,f1,g1,f2,g2⟩
 unfold Yh
 rw[e1,e2]
theorem C3 {c:Po4->Option (Int×Int)}:∀(ps:List Po4) (s:C8),(∀p xy,s=some (p,xy)->p∈ps\/∃q,s=some q)->∀p xy,ps.foldl (Yq c) s=some (p,xy)->p∈ps\/∃YR,s=some (p,YR)
 |[],s,_,p,xy,h=>.inr ⟨xy,h⟩
 |q::ps,s,_,p,xy,h=>by
  rw[List.foldl_cons] at h
  rcases C3 ps (Yq c s q) (λ_ _ z=>.inr ⟨_,z⟩) p xy h with k|⟨YR,k⟩
  .exact .inl (AQ _ k)
  .unfold Yq at k
   split at k
   .exact .inr ⟨_,k⟩
   .split at k
    .cases k;exact .inl (AX ..)
    .split at k
     .cases k;exact .inl (AX ..)
     .exact .inr ⟨_,k⟩
def PtOk.is {p:Po4}(h:PtOk W H p):Gk p.D:=⟨_,_,_,_,rfl,h.x.fr.mono (by decide),h.x.g,h.y.fr.mono (by decide),h.y.g⟩
theorem mS (hp:∀p∈ps,PtOk W H p)(t1:T<=Jv):∀(n:Nat) (t u:Tk) (tn:List D) (now:Int) (d:D),WS W H T now t u->t.lap<=Jv->u.lap<=Jv->(∀x∈tn,Gk x)->tn.length<=most->wk W H ss ps T most n t u tn=some d->∃wd pt tn',d=.tup [.str wd,pt,.lst tn']/\Gk pt/\(∀x∈tn',Gk x)/\tn'.length<=most
 |0,_,_,_,_,_,_,_,_,_,_,h=>by cases h
 |n+1,t,u,tn,now,d,wi,lx,ly,ht,hl,h=>by
  unfold wk at h
  cases ha:Xj ps T t u with
  |some x=>
   obtain⟨p,xy⟩:=x
   rw[ha] at h
   cases h
   refine⟨_,_,_,rfl,?_,ht,hl⟩
   unfold Xj at ha
   rcases C3 _ none (λ_ _ z=>by cases z) p xy ha with k|⟨_,k⟩
   .exact(hp p (EN.mp k).1).is
   .cases k
  |none=>
   rw[ha] at h
   dsimp only at h
   cases hw:Yr (thing W H ss t u (Zh t u T)) (decide (Zh t u T=T)) (decide (tn.length<most)) with
   |some w=>
    rw[hw] at h
    cases h
    exact⟨_,_,_,rfl,Lw wi lx ly t1,ht,hl⟩
   |none=>
    rw[hw] at h
    dsimp only at h
    refine mS hp t1 n _ _ _ _ d (wi.step hw) (by rw[X9];exact lx) (by rw[X9];exact ly) ?_ ?_ h
    .split
     .intro x hx
      rcases DA.mp hx with k|k
      .exact ht x k
      .rw[DG.mp k];exact Lw wi lx ly t1
     .exact ht
    .split
     .rename_i bU
      obtain⟨_,w2⟩:=U2 hw
      rcases w2 with w2|⟨_,w2⟩
      .rw[w2] at bU;cases bU
      .have:=BK w2
       rw[BE,DD]
       lia
     .exact hl
end
structure St (W H:Nat) (p:Po4):Prop where
 x:PB W p.a p.b
 y:PB H p.c p.d
 bx:p.b.natAbs<=10 ^ 15
 by':p.d.natAbs<=10 ^ 15
def PtOk.st {W H:Nat}{p:Po4}(h:PtOk W H p):St W H p:=⟨h.x.pb,h.y.pb,AV h.x.fr.bot (K9 (by decide)),AV h.y.fr.bot (K9 (by decide))⟩
def Sy {W H:Nat}(hW:W<=8)(hH:H<=8){ss:List Sd}(hl:ss.length<=400){ps:List Po4}(hp:∀p∈ps,PtOk W H p)(hps:ps.length<=1000){p s:Po4}(ho:St W H p)(hs:VN s){most:Nat}(hm:most<=1000):
  ∃d,F_walk [Qo W H ss,.lst (ps.map Po4.D),p.D,s.D,.int most]=.ok (.im d)/\wk W H ss ps (wT p s) most 601 (Jk p.a p.b s.a s.b (wT p s)) (Jk p.c p.d s.c s.d (wT p s)) []=some d/\WS W H (wT p s) 0 (Jk p.a p.b s.a s.b (wT p s)) (Jk p.c p.d s.c s.d (wT p s)) /\
   (s.a≠0->wT p s=p.b*s.a.natAbs*(p.d*m1 s.c))/\(s.c≠0->wT p s=p.d*s.c.natAbs*(p.b*m1 s.a))/\0<wT p s/\∃wd pt tn,d=.tup [.str wd,pt,.lst tn]/\Gk pt/\(∀x∈tn,Gk x)/\tn.length<=most:=by
 have px:=ho.x.fr.pos
 have py:=ho.y.fr.pos
 obtain⟨m0,fV⟩:=Ph s.a
 obtain⟨m2,m3⟩:=Ph s.c
 have ew:wT p s=1*p.b*m1 s.a*p.d*m1 s.c:=rfl
 have tp:0<wT p s:=by rw[ew,CT];exact AU (AU (AU px m0) py) m2
 have tb:(wT p s).natAbs<=10 ^ 54:=by
  rw[ew,CT]
  exact Qt (j:=42) (k:=12) (Qt (j:=27) (k:=15) (Qt (j:=15) (k:=12) ho.bx (Lu hs.x.top)) ho.by') (Lu hs.y.top)
 have eX:s.a≠0->wT p s=p.b*s.a.natAbs*(p.d*m1 s.c):=λh=>by rw[ew,fV h];grind
 have eY:s.c≠0->wT p s=p.d*s.c.natAbs*(p.b*m1 s.a):=λh=>by rw[ew,m3 h];grind
 have dx:s.a≠0->∃k,0<k/\wT p s=p.b*s.a.natAbs*k:=λh=>⟨p.d*m1 s.c,AU py m2,eX h⟩
 have dy:s.c≠0->∃k,0<k/\wT p s=p.d*s.c.natAbs*k:=λh=>⟨p.b*m1 s.a,AU px m0,eY h⟩
 have t54:wT p s<=Jv:=by have:(10:Nat) ^ 54=Jv:=rfl;lia
 have lx:(Jk p.a p.b s.a s.b (wT p s)).lap<=Jv:=by
  by_cases h:s.a=0
  .rw[Br h];show(0:Int)<=_;exact KD _
  .rw[Sw h px (eX h)]
   show s.b*(p.b*(p.d*m1 s.c))<=_
   have:(s.b*(p.b*(p.d*m1 s.c))).natAbs<=10 ^ (12+(15+(15+12))):=Qt hs.x.bot (Qt ho.bx (Qt ho.by' (Lu hs.y.top)))
   have e:(10:Nat) ^ (12+(15+(15+12)))=Jv:=rfl
   lia
 have ly:(Jk p.c p.d s.c s.d (wT p s)).lap<=Jv:=by
  by_cases h:s.c=0
  .rw[Br h];show(0:Int)<=_;exact KD _
  .rw[Sw h py (eY h)]
   show s.d*(p.d*(p.b*m1 s.a))<=_
   have:(s.d*(p.d*(p.b*m1 s.a))).natAbs<=10 ^ (12+(15+(15+12))):=Qt hs.y.bot (Qt ho.by' (Qt ho.bx (Lu hs.x.top)))
   have e:(10:Nat) ^ (12+(15+(15+12)))=Jv:=rfl
   lia
 have ef:=@Zgv p s ⟨ho.x.fr.mono (by decide),ho.y.fr.mono (by decide)⟩ hs
 generalize hT:wT p s=T at *
 have tx:=Ia (T:=T) ho.x hW tp hs.x.pos dx
 have ty:=Ia (T:=T) ho.y hH tp hs.y.pos dy
 have h1:(Jk p.a p.b s.a s.b T).h≠0\/(Jk p.c p.d s.c s.d T).h≠0:=by
  have e1:=@Zkt p.a p.b s.a s.b T
  have e2:=@Zkt p.c p.d s.c s.d T
  rcases hs.n0 with q|q
  .exact .inl λz=>q (by rw[<-e1,z,FJ])
  .exact .inr λz=>q (by rw[<-e2,z,FJ])
 have wi:WS W H T 0 (Jk p.a p.b s.a s.b T) (Jk p.c p.d s.c s.d T):=⟨tx,ty,h1,GL _,tp,.inl rfl⟩
 obtain⟨d,hd⟩:=Hw (ss:=ss) (ps:=ps) (most:=most) 601 300 300 _ _ [] 0 wi (nI ho.x hs.x.pos hs.lx dx) (nI ho.y hs.y.pos hs.ly dy) (by decide)
 refine⟨d,?_,hd,wi,eX,eY,tp,mS hp t54 601 _ _ [] 0 d wi lx ly (λ_ z=>by cases z) (CI _) hd⟩
 obtain⟨q,e1,e2⟩:=lE ps [] λr hr=>(hp r hr).ok
 refine O8 e1 (by rw[BM];lia) λa a1 a2=>?_
 unfold fW
 have e0:Z1 Y1 (Zb (Zd 0) (Zb (Zd 1) Zk)) [Io p.D,Io s.D]=.ok (.int T):=Z5 (aC rfl (Law.a1 rfl)) ef rfl
 have l1:Zb 0[0]! (Zb 1[0]! (Zb (Zd 2) Zk)) [Io p.D,Io s.D,Jo T]=.ok [nD p.a p.b,nD s.a s.b,.int T]:=aC (Zy rfl rfl (Y3 _ _)) (aC (Zy rfl rfl (Y3 _ _)) (Law.a1 rfl))
 have l2:Zb 0[1]! (Zb 1[1]! (Zb (Zd 2) Zk)) [Io p.D,Io s.D,Jo T]=.ok [nD p.c p.d,nD s.c s.d,.int T]:=aC (Zy rfl rfl (Xx _ _ _)) (aC (Zy rfl rfl (Xx _ _ _)) (Law.a1 rfl))
 rw[e0,M.bind_ok,l1,M.bind_ok,l2,M.bind_ok,mn (ho.x.fr.mono (by decide)) hs.x tb,mn (ho.y.fr.mono (by decide)) hs.y tb]
 exact lw a a1 a2 q p.D s.D (by lia) hp (vd e2) (by lia) t54 3000 _ _ [] 0 _ wi lx ly (CI _) (Hv 601 3000 _ _ _ _ (by decide) hd)
def Ib (p:Int){m:Nat}(h:1<=m):∃k:Nat,p%(m:Int)=(k:Int)/\k<m:=by
 have q1:0<=p%(m:Int):=BS _ (by lia)
 have q2:p%(m:Int)<m:=BG _ (by lia)
 exact⟨(p%(m:Int)).toNat,by lia,by lia⟩
def mk_hz {n m a b T:Int}:(Jk n m a b T).h=0↔a=0:=by
 constructor
 .intro h
  have:=@Zkt n m a b T
  rw[h,FJ] at this
  exact this.symm
 .intro h;rw[Br h]
def Zd3 {t:Tk}{a b w:Int}(hh:t.h=1\/t.h = -1)(hl:0<t.lap)(hb:0<b)(g:Int.gcd a b=1)(e:t.tm a b=w*b):place t w=nD a b:=by
 have h0:t.h≠0:=by lia
 unfold place
 rw[AD h0,<-Uo hb g]
 refine Jh hl hb ?_
 unfold Tk.tm at e
 rcases hh with q|q<;>rw[q] at e ⊢<;>grind
def iU (W H:Nat)(ss:List Sd):Prop:=∀(u:Bool) (x y:Int) (fg:Bool×Bool),Yl W H ss u x y=some fg->(if u=true then x else y)=0\/(if u=true then x else y)=(if u=true then(W:Int) else(H:Int))
section
variable {W H:Nat}{ss:List Sd}{t u:Tk}
def Zd4 (hr:iU W H ss){w:Int}(hm:(thing W H ss t u w).mir=true):(t.due=w->t.line=0\/t.line=W)/\(u.due=w->u.line=0\/u.line=H):=by
 have fa:∀{h:Int}{f:Option (Bool×Bool)},(Ss h f).mir=true->∃fg,f=some fg:=λ{h f} e=>by
  cases f with
  |none=>cases e
  |some p=>exact⟨p,rfl⟩
 unfold thing at hm
 by_cases hb:t.due=w/\u.due=w
 .rw[AC hb] at hm
  split at hm<;>cases hm
 .rw[AD hb] at hm
  by_cases q:t.due=w
  .rw[AC q] at hm
   obtain⟨fg,e⟩:=fa hm
   exact⟨λ_=>hr true _ _ _ e,λr=>absurd ⟨q,r⟩ hb⟩
  .rw[AD q] at hm
   refine⟨λr=>absurd r q,λr=>?_⟩
   rw[AC r] at hm
   obtain⟨fg,e⟩:=fa hm
   exact hr false _ _ _ e
end
def Xy (W H:Nat):List Sd:=((List.range W).flatMap fun(x:Nat)=>[Sd.mk false (x:Int) 0 false true,Sd.mk false (x:Int) (H:Int) true false])++(((List.range H).map fun(y:Nat)=>Sd.mk true 0 (y:Int) false true)++((List.range H).map fun(y:Nat)=>Sd.mk true (W:Int) (y:Int) true false))
def yC (W H:Nat):iU W H (Xy W H):=by
 intro u x y fg h
 unfold Yl at h
 cases hf:(Xy W H).find? (λs=>s.at u x y) with
 |none=>
  rw[hf] at h
  dsimp only at h
  by_cases q:(if u=true then x else y)=0\/(if u=true then x else y)=(if u=true then(W:Int) else(H:Int))
  .exact q
  .rw[AD q] at h;cases h
 |some s=>
  have hm:=IC hf
  have ha:=List.find?_some hf
  have ha:=BK (show decide (s.up=u/\s.x=x/\s.y=y)=true from ha)
  unfold Xy at hm
  rcases DA.mp hm with hm|hm
  .obtain⟨k,_,hm⟩:=LD.mp hm
   simp only[AZ,HJ,LP] at hm
   rcases hm with rfl|rfl
   .obtain⟨rfl,_,e⟩:=ha
    exact .inl e.symm
   .obtain⟨rfl,_,e⟩:=ha
    exact .inr e.symm
  .rcases DA.mp hm with hm|hm
   .obtain⟨k,_,rfl⟩:=EU.mp hm
    obtain⟨rfl,e,_⟩:=ha
    exact .inl e.symm
   .obtain⟨k,_,rfl⟩:=EU.mp hm
    obtain⟨rfl,e,_⟩:=ha
    exact .inr e.symm
def Bs {W H:Nat}(hW:W<=4)(hH:H<=4):(Xy W H).length<=400:=by
 have hw:W=0\/W=1\/W=2\/W=3\/W=4:=by lia
 have hh:H=0\/H=1\/H=2\/H=3\/H=4:=by lia
 rcases hw with rfl|rfl|rfl|rfl|rfl<;>rcases hh with rfl|rfl|rfl|rfl|rfl<;>decide
def vc:Xh [.int 1,.int 1]=.ok (.im (Qo 1 1 (Xy 1 1))):=by rfl
def vZ:Xh [.int 1,.int 2]=.ok (.im (Qo 1 2 (Xy 1 2))):=by rfl
def vY:Xh [.int 1,.int 3]=.ok (.im (Qo 1 3 (Xy 1 3))):=by rfl
def vX:Xh [.int 1,.int 4]=.ok (.im (Qo 1 4 (Xy 1 4))):=by rfl
def wM:Xh [.int 2,.int 1]=.ok (.im (Qo 2 1 (Xy 2 1))):=by rfl
def wL:Xh [.int 2,.int 2]=.ok (.im (Qo 2 2 (Xy 2 2))):=by rfl
def wK:Xh [.int 2,.int 3]=.ok (.im (Qo 2 3 (Xy 2 3))):=by rfl
def wJ:Xh [.int 2,.int 4]=.ok (.im (Qo 2 4 (Xy 2 4))):=by rfl
def wI:Xh [.int 3,.int 1]=.ok (.im (Qo 3 1 (Xy 3 1))):=by rfl
def wH:Xh [.int 3,.int 2]=.ok (.im (Qo 3 2 (Xy 3 2))):=by rfl
def wG:Xh [.int 3,.int 3]=.ok (.im (Qo 3 3 (Xy 3 3))):=by rfl
def wF:Xh [.int 3,.int 4]=.ok (.im (Qo 3 4 (Xy 3 4))):=by rfl
def wD:Xh [.int 4,.int 1]=.ok (.im (Qo 4 1 (Xy 4 1))):=by rfl
def wC:Xh [.int 4,.int 2]=.ok (.im (Qo 4 2 (Xy 4 2))):=by rfl
def vQ:Xh [.int 4,.int 3]=.ok (.im (Qo 4 3 (Xy 4 3))):=by rfl
def vP:Xh [.int 4,.int 4]=.ok (.im (Qo 4 4 (Xy 4 4))):=by rfl
def mR {W H:Nat}(w0:1<=W)(hW:W<=4)(h0:1<=H)(hH:H<=4):Xh [.int (W:Int),.int (H:Int)]=.ok (.im (Qo W H (Xy W H))):=by
 have hw:W=1\/W=2\/W=3\/W=4:=by lia
 have hh:H=1\/H=2\/H=3\/H=4:=by lia
 rcases hw with rfl|rfl|rfl|rfl<;>rcases hh with rfl|rfl|rfl|rfl
 .exact vc
 .exact vZ
 .exact vY
 .exact vX
 .exact wM
 .exact wL
 .exact wK
 .exact wJ
 .exact wI
 .exact wH
 .exact wG
 .exact wF
 .exact wD
 .exact wC
 .exact vQ
 .exact vP
structure Bx (W H:Nat) (ss:List Sd):Prop where
 u0:∀y:Int,0<=y->y<H->Yl W H ss true 0 y=some (false,true)
 u1:∀y:Int,0<=y->y<H->Yl W H ss true W y=some (true,false)
 f0:∀x:Int,0<=x->x<W->Yl W H ss false x 0=some (false,true)
 f1:∀x:Int,0<=x->x<W->Yl W H ss false x H=some (true,false)
 rim:iU W H ss
def P4 (z:Nat)(t:Tk):Int:=if t.h=1 then t.sq else z-1-t.sq
structure RI (z:Nat) (t0 t:Tk) (a k:Nat):Prop where
 lap:t.lap=t0.lap
 hz:t.h=0↔t0.h=0
 st:t.h=0->t=t0/\a=0
 nm:t.n=t0.n/\t.m=t0.m
 due:t.h≠0->t.due=t0.due+k*t0.lap
 pos:t.h≠0->(z:Int)*a+P4 z t=P4 z t0+k
 par:(a%2=0/\t.h=t0.h)\/(a%2=1/\t.h = -t0.h)
def lD (z:Nat)(t:Tk):RI z t t 0 0:=⟨rfl,GM,λ_=>⟨rfl,rfl⟩,⟨rfl,rfl⟩,λ_=>by simp,λ_=>by simp,.inl ⟨rfl,rfl⟩⟩
def P5 {z a k:Nat}{T now w:Int}{t0 t:Tk}{th:Th}(ti:TI z T now t)(r:RI z t0 t a k)(hw:w<=T)(hm:t.due=w->th.mir=true->t.line=0\/t.line=z)(hn:t.due=w->th.mir=false->t.line≠0/\t.line≠z):
  RI z t0 (Qf t w th) (a+if t.due=w/\th.mir=true then 1 else 0) (k+if t.due=w then 1 else 0):=by
 have s0:=ti.s0
 have s1:=ti.s1
 unfold Qf
 by_cases hd:t.due=w
 .have mv:(t.h=1\/t.h = -1)/\0<t.lap:=by
   rcases ti.mv with⟨_,q,_⟩|⟨q,q2,_⟩
   .lia
   .exact⟨q,q2⟩
  have h0:t.h≠0:=by lia
  have du:=r.due h0
  have po:=r.pos h0
  have la:=r.lap
  have l2:((k+1:Nat):Int)*t0.lap=(k:Int)*t0.lap+t0.lap:=by push_cast;rw[DM,CT]
  rw[AC hd,AC hd]
  cases hq:th.mir with
  |true=>
   have hl:=hm hd hq
   rw[AC rfl,AC ⟨hd,rfl⟩]
   unfold Tk.line Yj at hl
   refine⟨la,?_,λq=>?_,r.nm,λ_=>?_,λ_=>?_,?_⟩
   .show -t.h=0↔_
    rw[<-r.hz]
    lia
   .exact absurd (show -t.h=0 from q) (by lia)
   .show t.due+t.lap=_
    rw[l2]
    lia
   .unfold P4 at po ⊢
    dsimp only
    have z2:(z:Int)*((a+1:Nat):Int)=z*a+z:=by push_cast;rw[FD,CL]
    rw[z2]
    push_cast
    rcases mv.1 with q|q
    .rw[q] at po hl ⊢
     simp at po hl ⊢
     lia
    .rw[q] at po hl ⊢
     simp at po hl ⊢
     lia
   .show((a+1)%2=0/\-t.h=t0.h)\/((a+1)%2=1/\-t.h = -t0.h)
    rcases r.par with⟨p,q⟩|⟨p,q⟩
    .exact .inr ⟨by lia,by lia⟩
    .exact .inl ⟨by lia,by lia⟩
  |false=>
   have hl:=hn hd hq
   rw[AD (by decide),AD (λz=>by cases z.2)]
   unfold Tk.line Yj at hl
   refine⟨la,r.hz,λq=>absurd (show t.h=0 from q) h0,r.nm,λ_=>?_,λ_=>?_,r.par⟩
   .show t.due+t.lap=_
    rw[l2]
    lia
   .unfold P4 at po ⊢
    dsimp only
    push_cast
    rcases mv.1 with q|q
    .rw[q] at po ⊢
     simp at po ⊢
     lia
    .rw[q] at po ⊢
     simp at po ⊢
     lia
 .rw[AD hd,AD (λz=>hd z.1),AD hd]
  exact r
def Zao {W H:Nat}{ss:List Sd}(bx:Bx W H ss){T now:Int}{t u:Tk}(wi:WS W H T now t u):thing W H ss t u (Zh t u T)≠.fa false:=by
 have le:=wi.nxt.2.1
 have key:∀{z:Nat}{t:Tk},TI z T now t->t.due<=T->(t.h=1\/t.h = -1):=λ{z t} ti h=>by
  rcases ti.mv with⟨_,q,_⟩|⟨q,_⟩
  .lia
  .exact q
 unfold thing
 split
 .split<;>(intro z;cases z)
 .split
  .rename_i h1
   have hh:=key wi.x (by lia)
   have s0:=wi.x.s0
   have s1:=wi.x.s1
   cases fo:Yl W H ss true t.line u.sq with
   |none=>intro z;cases z
   |some fg=>
    have r:=bx.rim true _ _ _ fo
    simp only[EB] at r
    unfold Tk.line Yj at fo r
    rcases hh with q|q
    .rw[q] at fo r ⊢
     simp at fo r
     have:t.sq+1=W:=by lia
     rw[this,bx.u1 _ wi.y.s0 wi.y.s1] at fo
     cases fo
     intro z;cases z
    .rw[q] at fo r ⊢
     simp at fo r
     have:t.sq=0:=by lia
     rw[this,bx.u0 _ wi.y.s0 wi.y.s1] at fo
     cases fo
     intro z;cases z
  .split
   .rename_i h1
    have hh:=key wi.y (by lia)
    have s0:=wi.y.s0
    have s1:=wi.y.s1
    cases fo:Yl W H ss false t.sq u.line with
    |none=>intro z;cases z
    |some fg=>
     have r:=bx.rim false _ _ _ fo
     simp only[CS,DQ] at r
     unfold Tk.line Yj at fo r
     rcases hh with q|q
     .rw[q] at fo r ⊢
      simp at fo r
      have:u.sq+1=H:=by lia
      rw[this,bx.f1 _ wi.x.s0 wi.x.s1] at fo
      cases fo
      intro z;cases z
     .rw[q] at fo r ⊢
      simp at fo r
      have:u.sq=0:=by lia
      rw[this,bx.f0 _ wi.x.s0 wi.x.s1] at fo
      cases fo
      intro z;cases z
   .intro z;cases z
structure cb (z:Nat) (T:Int) (t0:Tk) (D N:Nat):Prop where
 T:t0.h≠0->T=D*t0.lap/\0<t0.due/\t0.due<t0.lap
 n:∀a:Nat,(z:Int)*a<=P4 z t0+D->a<=N
def lC {z a k D N:Nat}{T now:Int}{t0 t:Tk}(fa:cb z T t0 D N)(ti:TI z T now t)(hn:now<T)(r:RI z t0 t a k)(h:t.h≠0):k<=D:=by
 have h0:t0.h≠0:=λz=>h (r.hz.mpr z)
 obtain⟨e1,e2,e3⟩:=fa.T h0
 have d:=r.due h
 have la:=r.lap
 have:t.due<=now+t.lap:=by
  rcases ti.mv with⟨q,_⟩|⟨_,_,_,q⟩
  .exact absurd q h
  .exact q
 have l0:0<t0.lap:=by lia
 have:(k:Int)*t0.lap<(D+1:Int)*t0.lap:=by rw[DM,CT];lia
 have:=BB this (by lia)
 lia
def Sz {z:Nat}{T now:Int}{t:Tk}(ti:TI z T now t):0<=P4 z t/\P4 z t<z:=by
 have:=ti.s0
 have:=ti.s1
 unfold P4
 split<;>lia
def lP {z a k D N:Nat}{T now:Int}{t0 t:Tk}(fa:cb z T t0 D N)(ti:TI z T now t)(hn:now<T)(r:RI z t0 t a k):a<=N:=by
 by_cases h:t.h=0
 .rw[(r.st h).2];exact CI _
 .have p:=r.pos h
  have k1:=lC fa ti hn r h
  have:=(Sz ti).1
  exact fa.n a (by lia)
def aZ (W H:Nat):D->Prop
 |.tup [x,y]=>(x=nD 0 1\/x=nD W 1)\/(y=nD 0 1\/y=nD H 1)
 |_=>False
def Ic {z:Nat}{T now w:Int}{t:Tk}(ti:TI z T now t)(hd:t.due=w)(hw:w<=T):place t w=nD t.line 1:=by
 rcases ti.mv with⟨_,q,_⟩|⟨q1,q2,_,_⟩
 .lia
 .exact Zd3 (a:=t.line) (b:=1) (w:=w) q1 q2 (by decide) (by simp) (by unfold Tk.tm;rw[<-hd];simp)
def tj {x:Int}{z:Nat}(h0:0<=x)(h1:x<z)(hz:z<=4):x=0\/x=1\/x=2\/x=3:=by lia
def mQ {z:Nat}(h0:1<=z)(hz:z<=4):z=1\/z=2\/z=3\/z=4:=by lia
def vO {W H:Nat}(w0:1<=W)(hW:W<=4)(h0:1<=H)(hH:H<=4):Bx W H (Xy W H):=by
 refine⟨λy a b=>?_,λy a b=>?_,λx a b=>?_,λx a b=>?_,yC W H⟩
 all_goals
  rcases mQ w0 hW with rfl|rfl|rfl|rfl<;>rcases mQ h0 hH with rfl|rfl|rfl|rfl
 all_goals
  first
  |(rcases tj a b (by decide) with rfl|rfl|rfl|rfl<;>first|rfl|(exfalso;revert b;decide))
def Zd5 {z a D:Nat}{T:Int}{t0 t:Tk}(r:RI z t0 t a D)(hT:t0.h≠0->T=D*t0.lap)(he:t.h=t0.h)(hs:t.h≠0->P4 z t=P4 z t0)(h1:t.h≠0->t.h=1\/t.h = -1):place t T=place t0 0:=by
 unfold place
 by_cases h:t.h=0
 .rw[AC h,AC (by rw[<-he];exact h),r.nm.1,r.nm.2]
 .have h0:t0.h≠0:=by rw[<-he];exact h
  rw[AD h,AD h0]
  have sq:t.sq=t0.sq:=by
   have s:=hs h
   unfold P4 at s
   rw[he] at s
   split at s<;>lia
  have li:t.line=t0.line:=by unfold Tk.line;rw[sq,he]
  rw[li,r.lap,he,r.due h,hT h0]
  congr 2
  rw[show t0.due+(D:Int)*t0.lap-D*t0.lap=t0.due-0 by lia]
def Bt (t0 u0:Tk)(i j:Nat):Prop:=t0.h≠0/\u0.h≠0/\t0.due+i*t0.lap=u0.due+j*u0.lap
def VW (W H:Nat)(t0 u0:Tk)(i j:Nat):Prop:=(∃c:Int,P4 W t0+i+1=W*c)\/(∃c:Int,P4 H u0+j+1=H*c)
def Co (W H:Nat)(ss:List Sd):Prop:=∀x y:Int,Kc W H ss x y=true↔((x=0\/x=W)\/(y=0\/y=H))
def vN (W H:Nat):Co W H (Xy W H):=λx y=>by
 unfold Kc
 rw[DU,DU,DW,DW]
 constructor
 .rintro(h|h)
  .exact h
  .obtain⟨s,hs,h⟩:=HL.mp h
   have e:(s.up=true/\(s.x=0\/s.x=W))\/(s.up=false/\(s.y=0\/s.y=H)):=by
    unfold Xy at hs
    rcases DA.mp hs with hs|hs
    .obtain⟨a,_,hs⟩:=LD.mp hs
     rcases AZ.mp hs with rfl|hs
     .exact .inr ⟨rfl,.inl rfl⟩
     .rw[DG.mp hs];exact .inr ⟨rfl,.inr rfl⟩
    .rcases DA.mp hs with hs|hs
     .obtain⟨a,_,rfl⟩:=EU.mp hs;exact .inl ⟨rfl,.inl rfl⟩
     .obtain⟨a,_,rfl⟩:=EU.mp hs;exact .inl ⟨rfl,.inr rfl⟩
   unfold Sd.tch Sd.at at h
   simp only[DU,DW] at h
   rcases h with⟨a,b,c⟩|⟨a,b,c⟩|⟨a,b,c⟩|⟨a,b,c⟩<;>rcases e with⟨q,r⟩|⟨q,r⟩<;>first|(rw[a] at q;exact absurd q (by decide))|(rw[b] at r;exact .inl r)|(rw[c] at r;exact .inr r)
 .exact .inl
def nG {z a k:Nat}{T now:Int}{t0 t:Tk}(ti:TI z T now t)(r:RI z t0 t a k)(h:t.h=1\/t.h = -1):(t.line=0\/t.line=z)↔∃c:Int,P4 z t0+k+1=z*c:=by
 have p:=r.pos (by lia)
 obtain⟨b0,b1⟩:=Sz ti
 have s0:=ti.s0
 have s1:=ti.s1
 have e:(t.line=0\/t.line=z)↔P4 z t+1=z:=by
  unfold Tk.line Yj P4
  rcases h with q|q<;>rw[q]<;>simp<;>lia
 rw[e]
 constructor
 .intro q
  exact⟨a+1,by rw[FD,CL];lia⟩
 .rintro⟨c,q⟩
  have q2:(z:Int)*(c-a)=P4 z t+1:=by rw[JN];lia
  have z0:(0:Int)<z:=by lia
  have c1:0<c-a:=FQ (show 0<(z:Int)*(c-a) by lia) z0
  have c2:c-a<2:=by
   refine EI (a:=(z:Int)) ?_ (by lia)
   lia
  have:c-a=1:=by lia
  rw[this] at q2
  lia
theorem Bu {W H:Nat}{ss:List Sd}(bx:Bx W H ss)(co:Co W H ss){T:Int}{t0 u0:Tk}{Dx Dy Nx Ny most:Nat}(fx:cb W T t0 Dx Nx)(fy:cb H T u0 Dy Ny)(hm:Nx+Ny<=most):
  ∀(n:Nat) (t u:Tk) (tn:List D) (now:Int) (ax kx ay ky:Nat),WS W H T now t u->RI W t0 t ax kx->RI H u0 u ay ky->tn.length=ax+ay->(∀x∈tn,aZ W H x)->(∀i j:Nat,i<kx->j<ky->Bt t0 u0 i j->¬VW W H t0 u0 i j)->∀d,wk W H ss [] T most n t u tn=some d ->
   (∃pt l,d=.tup [.str (Str.ofString "corner"),pt,.lst l]/\∃i j:Nat,i<Dx/\j<Dy/\Bt t0 u0 i j/\VW W H t0 u0 i j)\/∃(t1 u1:Tk) (l:List D) (ax kx ay ky:Nat),d=.tup [.str (Str.ofString "end"),Yh t1 u1 T,.lst l]/\RI W t0 t1 ax kx/\RI H u0 u1 ay ky/\(∃WE,WS W H T WE t1 u1/\Zh t1 u1 T=T)/\l.length=ax+ay/\(∀x∈l,aZ W H x)/\∀i j:Nat,i<kx->j<ky->Bt t0 u0 i j->¬VW W H t0 u0 i j
 |0,_,_,_,_,_,_,_,_,_,_,_,_,_,_,_,h=>by cases h
 |n+1,t,u,tn,now,ax,kx,ay,ky,wi,rx,ry,hl,ho,hb,d,h=>by
  unfold wk at h
  have ea:Xj [] T t u=none:=rfl
  rw[ea] at h
  dsimp only at h
  obtain⟨a1,a2,a3,a4⟩:=wi.nxt
  have nf:=Zao bx wi
  have both:∀q:t.due=Zh t u T/\u.due=Zh t u T,Bt t0 u0 kx ky/\kx<Dx/\ky<Dy/\(VW W H t0 u0 kx ky↔Kc W H ss t.line u.line=true):=λq=>by
   have hx:t.h=1\/t.h = -1:=by exact wi.x.mv.elim (λz=>by have:=z.2.1;lia) (λz=>z.1)
   have hy:u.h=1\/u.h = -1:=by exact wi.y.mv.elim (λz=>by have:=z.2.1;lia) (λz=>z.1)
   have nx:t.h≠0:=by lia
   have ny:u.h≠0:=by lia
   have dx:=rx.due nx
   have dy:=ry.due ny
   obtain⟨e1,e2,e3⟩:=fx.T (λz=>nx (rx.hz.mpr z))
   obtain⟨e4,e5,e6⟩:=fy.T (λz=>ny (ry.hz.mpr z))
   refine⟨⟨λz=>nx (rx.hz.mpr z),λz=>ny (ry.hz.mpr z),by lia⟩,?_,?_,?_⟩
   .have:(kx:Int)*t0.lap<Dx*t0.lap:=by lia
    have:=BB this (by lia)
    lia
   .have:(ky:Int)*u0.lap<Dy*u0.lap:=by lia
    have:=BB this (by lia)
    lia
   .rw[co,nG wi.x rx hx,nG wi.y ry hy]
    exact GM
  have bK:thing W H ss t u (Zh t u T)=.co->∃i j:Nat,i<Dx/\j<Dy/\Bt t0 u0 i j/\VW W H t0 u0 i j:=λe=>by
   unfold thing at e
   split at e
   .rename_i q
    split at e
    .rename_i c
     obtain⟨b1,b2,b3,b4⟩:=both q
     exact⟨kx,ky,b2,b3,b1,b4.mpr c⟩
    .cases e
   .split at e
    .exact absurd e Gi
    .split at e
     .exact absurd e Gi
     .cases e
  have more:thing W H ss t u (Zh t u T)≠.co->∀i j:Nat,i<kx+(if t.due=Zh t u T then 1 else 0)->j<ky+(if u.due=Zh t u T then 1 else 0)->Bt t0 u0 i j->¬VW W H t0 u0 i j:=λnc i j hi hj me=>by
   by_cases h1:t.due=Zh t u T<;>by_cases h2:u.due=Zh t u T
   .rw[AC h1] at hi
    rw[AC h2] at hj
    obtain⟨b1,b2,b3,b4⟩:=both ⟨h1,h2⟩
    have nb:¬VW W H t0 u0 kx ky:=λz=>nc (by unfold thing;rw[AC ⟨h1,h2⟩,AC (b4.mp z)])
    have l1:=(fx.T b1.1).2
    have l2:=(fy.T b1.2.1).2
    by_cases q1:i=kx
    .subst q1
     have:(j:Int)*u0.lap=ky*u0.lap:=JV (me.2.2.symm.trans b1.2.2)
     have:=CZ (by lia) this
     rw[show j=ky by lia]
     exact nb
    .by_cases q2:j=ky
     .subst q2
      have:(i:Int)*t0.lap=kx*t0.lap:=JV (me.2.2.trans b1.2.2.symm)
      have:=CZ (by lia) this
      exact absurd (show i=kx by lia) q1
     .exact hb i j (by lia) (by lia) me
   .rw[AC h1] at hi
    rw[AD h2] at hj
    by_cases q1:i=kx
    .exfalso
     have ny:u.h≠0:=λz=>me.2.1 (ry.hz.mp z)
     have nx:t.h≠0:=λz=>me.1 (rx.hz.mp z)
     have d1:=rx.due nx
     have d2:=ry.due ny
     have l2:=(fy.T me.2.1).2
     have la:=ry.lap
     have le:u.due<=now+u.lap:=wi.y.mv.elim (λz=>absurd z.1 ny) (λz=>z.2.2.2)
     have m:=me.2.2
     rw[q1] at m
     have:((j:Int)+1)*u0.lap<=ky*u0.lap:=AN (by lia) (by lia)
     rw[DM,CT] at this
     lia
    .exact hb i j (by lia) (by lia) me
   .rw[AD h1] at hi
    rw[AC h2] at hj
    by_cases q1:j=ky
    .exfalso
     have ny:u.h≠0:=λz=>me.2.1 (ry.hz.mp z)
     have nx:t.h≠0:=λz=>me.1 (rx.hz.mp z)
     have d1:=rx.due nx
     have d2:=ry.due ny
     have l2:=(fx.T me.1).2
     have la:=rx.lap
     have le:t.due<=now+t.lap:=wi.x.mv.elim (λz=>absurd z.1 nx) (λz=>z.2.2.2)
     have m:=me.2.2
     rw[q1] at m
     have:((i:Int)+1)*t0.lap<=kx*t0.lap:=AN (by lia) (by lia)
     rw[DM,CT] at this
     lia
    .exact hb i j (by lia) (by lia) me
   .rw[AD h1] at hi
    rw[AD h2] at hj
    exact hb i j hi hj me
  by_cases ov:Zh t u T=T
  ·
   rw[AS ov] at h
   cases et:thing W H ss t u (Zh t u T) with
   |co=>rw[et] at h;cases h;exact .inl ⟨_,_,rfl,bK et⟩
   |no=>rw[et] at h;cases h;exact .inr ⟨t,u,tn,ax,kx,ay,ky,by rw[ov],rx,ry,⟨now,wi,ov⟩,hl,ho,hb⟩
   |fa b=>
    rw[et] at h
    cases b with
    |true=>cases h;exact .inr ⟨t,u,tn,ax,kx,ay,ky,by rw[ov],rx,ry,⟨now,wi,ov⟩,hl,ho,hb⟩
    |false=>exact absurd et nf
  .rw[AR ov] at h
   have step:=fun(q:Yr (thing W H ss t u (Zh t u T)) (decide (Zh t u T=T)) true=none)=>wi.step q
   rw[AR ov] at step
   have rl:=fun(q:(thing W H ss t u (Zh t u T)).mir=true)=>Zd4 bx.rim q
   have hn:=fun(q:thing W H ss t u (Zh t u T)=.no)=>Lp (ss:=ss) (W:=W) (H:=H) (t:=t) (u:=u) rfl q
   cases et:thing W H ss t u (Zh t u T) with
   |co=>rw[et] at h;cases h;exact .inl ⟨_,_,rfl,bK et⟩
   |no=>
    rw[et] at h step
    have ws:=step rfl
    have hn:=hn et
    have px:=P5 (th:=Th.no) wi.x rx a2 (λ_ z=>by cases z) (λz _=>hn.1 z)
    have py:=P5 (th:=Th.no) wi.y ry a2 (λ_ z=>by cases z) (λz _=>hn.2 z)
    rw[AD (λz=>by cases z.2)] at px py
    exact Bu bx co fx fy hm n _ _ _ _ _ _ _ _ ws px py hl ho (more (by rw[et];intro z;cases z)) d h
   |fa b=>
    cases b with
    |false=>exact absurd et nf
    |true=>
     have rl:=rl (by rw[et];rfl)
     rw[et] at h step
     have ws:=step rfl
     have px:=P5 (th:=Th.fa true) wi.x rx a2 (λz _=>rl.1 z) (λ_ z=>by cases z)
     have py:=P5 (th:=Th.fa true) wi.y ry a2 (λz _=>rl.2 z) (λ_ z=>by cases z)
     have one:(t.due=Zh t u T/\¬u.due=Zh t u T)\/(¬t.due=Zh t u T/\u.due=Zh t u T):=by
      unfold thing at et
      by_cases h1:t.due=Zh t u T<;>by_cases h2:u.due=Zh t u T
      .rw[AC ⟨h1,h2⟩] at et
       split at et<;>cases et
      .exact .inl ⟨h1,h2⟩
      .exact .inr ⟨h1,h2⟩
      .rw[AD (λz=>h1 z.1),AD h1,AD h2] at et
       cases et
     have lx:=lP fx ws.x ws.n1 px
     have ly:=lP fy ws.y ws.n1 py
     have sp:aZ W H (Yh t u (Zh t u T)):=by
      unfold Yh
      rcases one with⟨h1,_⟩|⟨_,h2⟩
      .refine .inl ?_
       rw[Ic wi.x h1 a2]
       rcases rl.1 h1 with q|q<;>rw[q]
       .exact .inl rfl
       .exact .inr rfl
      .refine .inr ?_
       rw[Ic wi.y h2 a2]
       rcases rl.2 h2 with q|q<;>rw[q]
       .exact .inl rfl
       .exact .inr rfl
     have sum:tn.length+1=(ax+if t.due=Zh t u T/\(Th.fa true).mir=true then 1 else 0)+(ay+if u.due=Zh t u T/\(Th.fa true).mir=true then 1 else 0):=by
      rcases one with⟨h1,h2⟩|⟨h1,h2⟩
      .rw[AC ⟨h1,rfl⟩,AD (λz=>h2 z.1)];lia
      .rw[AD (λz=>h1 z.1),AC ⟨h2,rfl⟩];lia
     have may:tn.length<most:=by lia
     rw[AS may] at h
     refine Bu bx co fx fy hm n _ _ _ _ _ _ _ _ ws px py ?_ ?_ (more (by rw[et];intro z;cases z)) d h
     .rw[AC (show(Th.fa true).mir=true from rfl),BE,DD]
      exact sum
     .intro x hx
      rw[AC (show(Th.fa true).mir=true from rfl)] at hx
      rcases DA.mp hx with hx|hx
      .exact ho x hx
      .rw[DG.mp hx];exact sp
def mt (z:Int)(t:Tk):Tk:=⟨z*t.m-t.n,t.m,z-1-t.sq,-t.h,t.due,t.lap⟩
def vM {z a q:Int}(g:Int.gcd a q=1):Int.gcd (z*q-a) q=1:=by
 rw[show z*q-a = -a+z*q by lia,Int.gcd_add_mul_right_left,Int.neg_gcd]
 exact g
def Ie {z:Int}{t:Tk}(h:t.h=1\/t.h = -1):(mt z t).line=z-t.line:=by
 unfold Tk.line Yj mt
 rcases h with h|h<;>rw[h]<;>simp<;>lia
def Zd7 {z:Int}{t:Tk}(w:Int)(mv:t.h≠0->(t.h=1\/t.h = -1)/\0<t.lap)(hm:0<t.m)(g:Int.gcd t.n t.m=1):∃a q,place t w=nD a q/\place (mt z t) w=Kn (z*q-a) q:=by
 unfold place
 by_cases h:t.h=0
 .rw[AC h,AC (show(mt z t).h=0 by show -t.h=0;lia)]
  exact⟨_,_,rfl,(Uo hm (vM g)).symm⟩
 .obtain⟨h1,l⟩:=mv h
  rw[AD h,AD (show(mt z t).h≠0 by show -t.h≠0;lia),Ie h1]
  show ∃a q,_/\Kn ((z-t.line)*t.lap - -t.h*(t.due-w)) t.lap=_
  obtain⟨p,q,e,q0,m,_⟩:=X8 (t:=t.line*t.lap-t.h*(t.due-w)) l
  exact⟨p,q,e,Jh l q0 (by rw[show((z-t.line)*t.lap - -t.h*(t.due-w))*q=z*t.lap*q-(t.line*t.lap-t.h*(t.due-w))*q by grind,<-m];grind)⟩
def E6 {z N:Nat}{n m a T k:Int}(hp:PB z n m)(z8:z<=8)(dH:0<T)(hk:a≠0->0<k/\T=m*a.natAbs*k)(hN:a.natAbs=z*N):cb z T (Jk n m a 1 T) a.natAbs N:=by
 have m0:=hp.fr.pos
 have ti:TI z T 0 (Jk n m a 1 T):=Ia hp z8 dH (by decide) (λh=>⟨k,hk h⟩)
 refine⟨λh=>?_,λb hb=>?_⟩
 .have a0:a≠0:=λz=>h (mk_hz.mpr z)
  obtain⟨k0,e⟩:=hk a0
  obtain⟨l0,l1⟩:=Gj (a:=a) hp
  rw[Sw (b:=1) a0 m0 e]
  show T=(a.natAbs:Int)*(1*(m*k))/\0<Qe n m a*(1*k)/\Qe n m a*(1*k)<1*(m*k)
  refine⟨by rw[e];grind,AU l0 (by lia),?_⟩
  rw[CT,CT]
  exact BQ l1 k0
 .obtain⟨_,b1⟩:=Sz ti
  rw[hN] at hb
  push_cast at hb
  have:(z:Int)*b<z*(N+1):=by rw[FD,CL];lia
  have:=EI this (by lia)
  lia
def Kp (z:Nat)(n m:Int)(N:Nat):D:=if N%2=0 then nD n m else Kn (z*m-n) m
def N5 {z N a k:Nat}{n m s T kk now:Int}{t:Tk}(hp:PB z n m)(z8:z<=8)(dH:0<T)(hk:s≠0->0<kk/\T=m*s.natAbs*kk)(hN:s.natAbs=z*N)(ti:TI z T now t)(hn:now<T)(hd:T<=t.due)(r:RI z (Jk n m s 1 T) t a k):place t T=Kp z n m N/\a=N/\(s≠0->k=s.natAbs):=by
 have m0:=hp.fr.pos
 have fa:=E6 hp z8 dH hk hN
 have t0i:TI z T 0 (Jk n m s 1 T):=Ia hp z8 dH (by decide) (λh=>⟨kk,hk h⟩)
 have fR:place (Jk n m s 1 T) 0=nD n m:=zq hp (by decide) (λh=>⟨kk,hk h⟩)
 by_cases h:t.h=0
 .obtain⟨e1,e2⟩:=r.st h
  have s0:s=0:=mk_hz.mp (r.hz.mp h)
  have z0:0<z:=by have:=ti.s0;have:=ti.s1;lia
  have N0:N=0:=by
   rw[s0] at hN
   exact(Nat.mul_eq_zero.mp hN.symm).resolve_left (by lia)
  refine⟨?_,by lia,λq=>absurd s0 q⟩
  rw[N0]
  unfold Kp
  rw[AC rfl,<-fR,e1]
  unfold place
  rw[e1] at h
  rw[AC h,AC h]
 .have h0:(Jk n m s 1 T).h≠0:=λz=>h (r.hz.mpr z)
  have s0:s≠0:=λz=>h0 (mk_hz.mpr z)
  obtain⟨f1,f2,f3⟩:=fa.T h0
  have d:=r.due h
  have kd:k=s.natAbs:=by
   have k1:=lC fa ti hn r h
   have:((s.natAbs:Int))*(Jk n m s 1 T).lap<(k+1:Int)*(Jk n m s 1 T).lap:=by rw[DM,CT];lia
   have:=BB this (by lia)
   lia
  have p:=r.pos h
  obtain⟨b0,b1⟩:=Sz ti
  obtain⟨c0,c1⟩:=Sz t0i
  rw[kd,hN] at p
  push_cast at p
  have aN:a=N:=by
   have l1:(z:Int)*a<z*(N+1):=by rw[FD,CL];lia
   have l2:(z:Int)*N<z*(a+1):=by rw[FD,CL];lia
   have:=EI l1 (by lia)
   have:=EI l2 (by lia)
   lia
  have sg:P4 z t=P4 z (Jk n m s 1 T):=by rw[aN] at p;lia
  refine⟨?_,aN,λ_=>kd⟩
  rw[kd] at r
  unfold Kp
  rcases r.par with⟨q1,q2⟩|⟨q1,q2⟩
  .rw[AC (by rw[<-aN];exact q1),<-fR]
   exact Zd5 r (λ_=>f1) q2 (λ_=>sg) (λ_=>(ti.mv.elim (λz=>absurd z.1 h) (λz=>z.1)))
  .rw[AD (by rw[<-aN];lia)]
   have th:=ti.mv.elim (λz=>absurd z.1 h) (λz=>z.1)
   have cu:(Jk n m s 1 T).h=1\/(Jk n m s 1 T).h = -1:=by lia
   obtain⟨a',q',e1,e2⟩:=Zd7 (z:=z) (t:=Jk n m s 1 T) 0 (λ_=>⟨cu,by lia⟩) t0i.pn.fr.pos t0i.pn.g
   rw[fR] at e1
   obtain⟨e3,e4⟩:=nH e1
   rw[<-e3,<-e4] at e2
   rw[<-e2]
   unfold place
   have hm:(mt z (Jk n m s 1 T)).h = -(Jk n m s 1 T).h:=rfl
   rw[AD h,AD (by rw[hm];lia),Ie cu]
   have sq:t.sq=z-1-(Jk n m s 1 T).sq:=by
    unfold P4 at sg
    rw[q2] at sg
    rcases cu with q|q<;>rw[q] at sg<;>simp at sg<;>lia
   have li:t.line=z-(Jk n m s 1 T).line:=by
    unfold Tk.line Yj
    rw[q2,sq]
    rcases cu with q|q<;>rw[q]<;>simp<;>lia
   show Kn (t.line*t.lap-t.h*(t.due-T)) t.lap=Kn ((z-(Jk n m s 1 T).line)*(Jk n m s 1 T).lap - -(Jk n m s 1 T).h*((Jk n m s 1 T).due-0)) (Jk n m s 1 T).lap
   rw[li,r.lap,q2,r.due h]
   congr 3
   lia
structure Go (W H:Nat) (p s:Po4) (Nx Ny:Nat):Prop where
 ok:PtOk W H p
 st:VN s
 b:s.b=1
 d:s.d=1
 x:s.a.natAbs=W*Nx
 y:s.c.natAbs=H*Ny
def Ig (p s:Po4):Tk:=Jk p.a p.b s.a s.b (wT p s)
def Ih (p s:Po4):Tk:=Jk p.c p.d s.c s.d (wT p s)
def Cr (W H:Nat)(p s:Po4):Prop:=∃i j:Nat,i<s.a.natAbs/\j<s.c.natAbs/\Bt (Ig p s) (Ih p s) i j/\VW W H (Ig p s) (Ih p s) i j
def S0 {W H:Nat}(w0:1<=W)(w4:W<=4)(h0:1<=H)(h4:H<=4){p s:Po4}{Nx Ny:Nat}(g:Go W H p s Nx Ny){most:Nat}(hm:Nx+Ny<=most)(hM:most<=1000):
  ∃d,F_walk [Qo W H (Xy W H),.lst [],p.D,s.D,.int (most:Int)]=.ok (.im d)/\wk W H (Xy W H) [] (wT p s) most 601 (Ig p s) (Ih p s) []=some d /\
   ((∃pt l,d=.tup [.str (Str.ofString "corner"),pt,.lst l]/\Gk pt/\Cr W H p s)\/(∃l,d=.tup [.str (Str.ofString "end"),.tup [Kp W p.a p.b Nx,Kp H p.c p.d Ny],.lst l]/\l.length=Nx+Ny/\(∀x∈l,aZ W H x)/\(∀x∈l,Gk x)/\¬Cr W H p s)):=by
 obtain⟨ok,st,sb,sd,sx,sy⟩:=g
 obtain⟨d,e1,k1,wi,eX,eY,tp,wd,pt,tn,ed,aK,pO,ltn⟩:=Sy (W:=W) (H:=H) (by lia) (by lia) (Bs w4 h4) (ps:=[]) (λ_ z=>by cases z) (by simp) ok.st st (most:=most) hM
 refine⟨d,e1,k1,?_⟩
 obtain⟨m0,_⟩:=Ph s.a
 obtain⟨m2,_⟩:=Ph s.c
 have pb:=ok.x.fr.pos
 have pd:=ok.y.fr.pos
 have dC:s.a≠0->0<p.d*m1 s.c/\wT p s=p.b*s.a.natAbs*(p.d*m1 s.c):=λq=>⟨AU pd m2,eX q⟩
 have dB:s.c≠0->0<p.b*m1 s.a/\wT p s=p.d*s.c.natAbs*(p.b*m1 s.a):=λq=>⟨AU pb m0,eY q⟩
 rw[sb,sd] at wi k1
 have fx:=E6 ok.st.x (by lia) tp dC sx
 have fy:=E6 ok.st.y (by lia) tp dB sy
 have ex:Ig p s=Jk p.a p.b s.a 1 (wT p s):=by unfold Ig;rw[sb]
 have ey:Ih p s=Jk p.c p.d s.c 1 (wT p s):=by unfold Ih;rw[sd]
 unfold Cr
 rw[ex,ey]
 rcases Bu (vO w0 w4 h0 h4) (vN W H) fx fy hm 601 _ _ [] 0 0 0 0 0 wi (lD _ _) (lD _ _) rfl (λ_ z=>by cases z) (λ_ _ z=>by cases z) d k1 with⟨SS,l,e,i,j,hi,hj,me,ba⟩|⟨t1,u1,l,ax,kx,ay,ky,e,rx,ry,⟨WE,ws,en⟩,ll,on,nb⟩
 .refine .inl ⟨SS,l,e,?_,i,j,hi,hj,me,ba⟩
  rw[ed] at e
  injection e with e
  injection e with _ e
  injection e with e _
  rw[<-e]
  exact aK
 .refine .inr ⟨l,?_,?_,on,?_,?_⟩
  .obtain⟨_,_,a3,a4⟩:=ws.nxt
   rw[en] at a3 a4
   have px:=N5 ok.st.x (by lia) tp dC sx ws.x ws.n1 a3 rx
   have py:=N5 ok.st.y (by lia) tp dB sy ws.y ws.n1 a4 ry
   rw[e]
   unfold Yh
   rw[px.1,py.1]
  .obtain⟨_,_,a3,a4⟩:=ws.nxt
   rw[en] at a3 a4
   have px:=N5 ok.st.x (by lia) tp dC sx ws.x ws.n1 a3 rx
   have py:=N5 ok.st.y (by lia) tp dB sy ws.y ws.n1 a4 ry
   rw[ll,px.2.1,py.2.1]
  .rw[ed] at e
   injection e with e
   injection e with _ e
   injection e with _ e
   injection e with e _
   injection e with e
   rw[<-e]
   exact pO
  .rintro⟨i,j,hi,hj,me,ba⟩
   obtain⟨_,_,a3,a4⟩:=ws.nxt
   rw[en] at a3 a4
   have px:=N5 ok.st.x (by lia) tp dC sx ws.x ws.n1 a3 rx
   have py:=N5 ok.st.y (by lia) tp dB sy ws.y ws.n1 a4 ry
   have k1:=px.2.2 (λz=>me.1 (mk_hz.mpr z))
   have k2:=py.2.2 (λz=>me.2.1 (mk_hz.mpr z))
   exact nb i j (by lia) (by lia) me ba
theorem S1 {W H:Int}{ss:List Sd}{ps:List Po4}{T:Int}{most m':Nat}{pt:D}{l:List D}(hl:m'<l.length)(hm:m'<=most):∀(n:Nat) (t u:Tk) (tn:List D),tn.length<=m'->wk W H ss ps T most n t u tn=some (.tup [.str (Str.ofString "end"),pt,.lst l])->∃oi l',wk W H ss ps T m' n t u tn=some (.tup [.str (Str.ofString "many"),oi,.lst l'])
 |0,_,_,_,_,h=>by cases h
 |n+1,t,u,tn,ht,h=>by
  unfold wk at h ⊢
  cases ea:Xj ps T t u with
  |some x=>rw[ea] at h;cases h
  |none=>
   rw[ea] at h
   dsimp only at h ⊢
   cases et:thing W H ss t u (Zh t u T) with
   |co=>rw[et] at h;cases h
   |no=>
    rw[et] at h
    by_cases ov:Zh t u T=T
    .rw[AS ov] at h
     cases h
     lia
    .rw[AR ov] at h ⊢
     exact S1 hl hm n _ _ tn ht h
   |fa b=>
    rw[et] at h
    by_cases ov:Zh t u T=T
    .rw[AS ov] at h
     cases b<;>cases h<;>lia
    .rw[AR ov] at h ⊢
     cases b with
     |false=>cases h
     |true=>
      by_cases q:tn.length<m'
      .rw[AS (show tn.length<most by lia)] at h
       rw[AS q]
       exact S1 hl hm n _ _ _ (by rw[AC (show(Th.fa true).mir=true from rfl),BE,DD];lia) h
      .rw[AR q]
       exact⟨_,_,rfl⟩
theorem C4 {W H:Int}{ss:List Sd}{ps:List Po4}{T:Int}{most m':Nat}{w:Str}{pt:D}{l:List D} (hw:w≠Str.ofString "many") (hm:most<=m'):∀(n:Nat) (t u:Tk) (tn:List D),wk W H ss ps T most n t u tn=some (.tup [.str w,pt,.lst l])->wk W H ss ps T m' n t u tn=some (.tup [.str w,pt,.lst l])
 |0,_,_,_,h=>by cases h
 |n+1,t,u,tn,h=>by
  unfold wk at h ⊢
  cases ea:Xj ps T t u with
  |some x=>rw[ea] at h;exact h
  |none=>
   rw[ea] at h
   dsimp only at h ⊢
   have key:∀th:Th,Yr th (decide (Zh t u T=T)) (decide (tn.length<most))=Yr th (decide (Zh t u T=T)) (decide (tn.length<m'))\/Yr th (decide (Zh t u T=T)) (decide (tn.length<most))=some (Str.ofString "many"):=λth=>by
    by_cases q:tn.length<most
    .rw[AS q,AS (show tn.length<m' by lia)]
     exact .inl rfl
    .rw[AR q]
     cases th with
     |no=>exact .inl rfl
     |co=>exact .inl rfl
     |fa b=>
      cases b with
      |false=>exact .inl rfl
      |true=>
       cases decide (Zh t u T=T) with
       |true=>exact .inl rfl
       |false=>exact .inr rfl
   rcases key (thing W H ss t u (Zh t u T)) with e|e
   .rw[<-e]
    cases ew:Yr (thing W H ss t u (Zh t u T)) (decide (Zh t u T=T)) (decide (tn.length<most)) with
    |some x=>rw[ew] at h;exact h
    |none=>
     rw[ew] at h
     exact C4 hw hm n _ _ _ h
   .rw[e] at h
    injection h with h
    injection h with h
    injection h with h _
    injection h with h
    exact absurd h.symm hw
def sc (c X Y:Int):Po4:=⟨c*X,1,c*Y,1⟩
def EE (p:Po4)(X Y:Int)(i j:Nat):Prop:=(Qe p.a p.b X+i*p.b)*(p.d*Y.natAbs)=(Qe p.c p.d Y+j*p.d)*(p.b*X.natAbs)
def XI (z:Nat)(q X:Int):Int:=if X > 0 then q else z-1-q
def Bd (W H:Nat)(p:Po4)(X Y:Int)(i j:Nat):Prop:=(∃c:Int,XI W (p.a/p.b) X+i+1=W*c)\/(∃c:Int,XI H (p.c/p.d) Y+j+1=H*c)
def nF {z:Nat}{n m a T k:Int}(hm:0<m)(h:a≠0)(e:T=m*a.natAbs*k):P4 z (Jk n m a 1 T)=XI z (n/m) a:=by
 rw[Sw h hm e]
 unfold P4 XI sg
 dsimp only
 by_cases q:a > 0
 .rw[AC q,AC q,AC rfl]
 .rw[AD q,AD q,AD (by decide)]
def mP {z:Nat}{q c X:Int}(hc:0<c)(hX:X≠0):XI z q (c*X)=XI z q X:=by
 unfold XI
 by_cases h:X > 0
 .rw[AC h,AC (AU hc h)]
 .rw[AD h,AD (by have:=FM hc (show X<0 by lia);lia)]
def nE {n m c X:Int}(hc:0<c)(hX:X≠0):Qe n m (c*X)=Qe n m X:=by
 unfold Qe
 by_cases h:X > 0
 .rw[AC h,AC (AU hc h)]
 .rw[AD h,AD (by have:=FM hc (show X<0 by lia);lia)]
def Ii {c:Nat}{X:Int}:((c:Int)*X).natAbs=c*X.natAbs:=by rw[BI];rfl
def Bv {W H:Nat}{p:Po4}(ok:PtOk W H p){c:Nat}(hc:0<c){X Y:Int}:Cr W H p (sc c X Y)↔X≠0/\Y≠0/\∃i j:Nat,i<c*X.natAbs/\j<c*Y.natAbs/\EE p X Y i j/\Bd W H p X Y i j:=by
 have pb:=ok.x.fr.pos
 have pd:=ok.y.fr.pos
 have c0:(0:Int)<c:=by lia
 have zx:(c:Int)*X=0↔X=0:=by rw[DJ];lia
 have zy:(c:Int)*Y=0↔Y=0:=by rw[DJ];lia
 have main:X≠0->Y≠0->∀i j:Nat,(Bt (Ig p (sc c X Y)) (Ih p (sc c X Y)) i j↔EE p X Y i j)/\(VW W H (Ig p (sc c X Y)) (Ih p (sc c X Y)) i j↔Bd W H p X Y i j):=λhX hY i j=>by
  have aX:(c:Int)*X≠0:=λz=>hX (zx.mp z)
  have aY:(c:Int)*Y≠0:=λz=>hY (zy.mp z)
  have mX:=(Ph ((c:Int)*X)).2 aX
  have mY:=(Ph ((c:Int)*Y)).2 aY
  have eT:wT p (sc c X Y)=1*p.b*m1 ((c:Int)*X)*p.d*m1 ((c:Int)*Y):=rfl
  rw[mX,mY] at eT
  have e1:wT p (sc c X Y)=p.b*((c:Int)*X).natAbs*(p.d*((c:Int)*Y).natAbs):=by rw[eT];grind
  have e2:wT p (sc c X Y)=p.d*((c:Int)*Y).natAbs*(p.b*((c:Int)*X).natAbs):=by rw[eT];grind
  have t1:Ig p (sc c X Y)=⟨p.a,p.b,p.a/p.b,sg ((c:Int)*X),Qe p.a p.b ((c:Int)*X)*(1*(p.d*((c:Int)*Y).natAbs)),1*(p.b*(p.d*((c:Int)*Y).natAbs))⟩:=Sw aX pb e1
  have t2:Ih p (sc c X Y)=⟨p.c,p.d,p.c/p.d,sg ((c:Int)*Y),Qe p.c p.d ((c:Int)*Y)*(1*(p.b*((c:Int)*X).natAbs)),1*(p.d*(p.b*((c:Int)*X).natAbs))⟩:=Sw aY pd e2
  have s1:P4 W (Ig p (sc c X Y))=XI W (p.a/p.b) X:=by rw[show Ig p (sc c X Y)=Jk p.a p.b ((c:Int)*X) 1 (wT p (sc c X Y)) from rfl,nF pb aX e1,mP c0 hX]
  have s2:P4 H (Ih p (sc c X Y))=XI H (p.c/p.d) Y:=by rw[show Ih p (sc c X Y)=Jk p.c p.d ((c:Int)*Y) 1 (wT p (sc c X Y)) from rfl,nF pd aY e2,mP c0 hY]
  refine⟨?_,by unfold VW Bd;rw[s1,s2]⟩
  unfold Bt EE
  rw[t1,t2,nE c0 hX,nE c0 hY,Ii,Ii]
  dsimp only
  have jt:∀a:Int,sg a≠0:=λa=>by unfold sg;split<;>decide
  have L:Qe p.a p.b X*(1*(p.d*((c*Y.natAbs:Nat):Int)))+i*(1*(p.b*(p.d*((c*Y.natAbs:Nat):Int))))=c*((Qe p.a p.b X+i*p.b)*(p.d*Y.natAbs)):=by push_cast;grind
  have R:Qe p.c p.d Y*(1*(p.b*((c*X.natAbs:Nat):Int)))+j*(1*(p.d*(p.b*((c*X.natAbs:Nat):Int))))=c*((Qe p.c p.d Y+j*p.d)*(p.b*X.natAbs)):=by push_cast;grind
  rw[L,R]
  constructor
  .rintro⟨_,_,q⟩
   exact EJ (by lia) q
  .intro q
   exact⟨jt _,jt _,by rw[q]⟩
 unfold Cr
 rw[show(sc c X Y).a.natAbs=c*X.natAbs from Ii,show(sc c X Y).c.natAbs=c*Y.natAbs from Ii]
 constructor
 .rintro⟨i,j,hi,hj,me,ba⟩
  have hX:X≠0:=λz=>by rw[z] at hi;simp at hi
  have hY:Y≠0:=λz=>by rw[z] at hj;simp at hj
  exact⟨hX,hY,i,j,hi,hj,(main hX hY i j).1.mp me,(main hX hY i j).2.mp ba⟩
 .rintro⟨hX,hY,i,j,hi,hj,me,ba⟩
  exact⟨i,j,hi,hj,(main hX hY i j).1.mpr me,(main hX hY i j).2.mpr ba⟩
def uj {W H:Nat}{p:Po4}(ok:PtOk W H p){X Y:Int}(h:Cr W H p (sc (1:Nat) X Y)):Cr W H p (sc (2:Nat) X Y):=by
 obtain⟨hX,hY,i,j,hi,hj,e,b⟩:=(Bv ok (by decide)).mp h
 exact(Bv ok (by decide)).mpr ⟨hX,hY,i,j,by lia,by lia,e,b⟩
def ui {W H:Nat}{p:Po4}(ok:PtOk W H p){X Y A B:Int}(eX:X=W*A)(eY:Y=H*B)(h:Cr W H p (sc (3:Nat) X Y)):Cr W H p (sc (2:Nat) X Y):=by
 obtain⟨hX,hY,i,j,hi,hj,e,b⟩:=(Bv ok (by decide)).mp h
 have pb:=ok.x.fr.pos
 have pd:=ok.y.fr.pos
 obtain⟨lx0,lx1⟩:=Gj (a:=X) ok.x.pb
 obtain⟨ly0,ly1⟩:=Gj (a:=Y) ok.y.pb
 have x0:(0:Int)<X.natAbs:=by lia
 have y0:(0:Int)<Y.natAbs:=by lia
 have both:i<2*X.natAbs↔j<2*Y.natAbs:=by
  unfold EE at e
  constructor
  .intro q
   have l1:Qe p.a p.b X+i*p.b<2*X.natAbs*p.b:=by
    have:((i:Int)+1)*p.b<=(2*X.natAbs)*p.b:=AN (by lia) (by lia)
    rw[DM,CT] at this
    lia
   have l2:=BQ l1 (AU pd y0)
   rw[e] at l2
   have l3:(Qe p.c p.d Y+j*p.d)*(p.b*X.natAbs)<(2*Y.natAbs*p.d)*(p.b*X.natAbs):=by grind
   have l4:=BB l3 (by have:=AU pb x0;lia)
   have l5:(j:Int)*p.d<(2*Y.natAbs)*p.d:=by lia
   have:=BB l5 (by lia)
   lia
  .intro q
   have l1:Qe p.c p.d Y+j*p.d<2*Y.natAbs*p.d:=by
    have:((j:Int)+1)*p.d<=(2*Y.natAbs)*p.d:=AN (by lia) (by lia)
    rw[DM,CT] at this
    lia
   have l2:=BQ l1 (AU pb x0)
   rw[<-e] at l2
   have l3:(Qe p.a p.b X+i*p.b)*(p.d*Y.natAbs)<(2*X.natAbs*p.b)*(p.d*Y.natAbs):=by grind
   have l4:=BB l3 (by have:=AU pd y0;lia)
   have l5:(i:Int)*p.b<(2*X.natAbs)*p.b:=by lia
   have:=BB l5 (by lia)
   lia
 refine(Bv ok (by decide)).mpr ⟨hX,hY,?_⟩
 by_cases q:i<2*X.natAbs
 .exact⟨i,j,q,both.mp q,e,b⟩
 .have q2:¬j<2*Y.natAbs:=λz=>q (both.mpr z)
  refine⟨i-2*X.natAbs,j-2*Y.natAbs,by lia,by lia,?_,?_⟩
  .unfold EE at e ⊢
   rw[show((i-2*X.natAbs:Nat):Int)=i-2*X.natAbs by lia,show((j-2*Y.natAbs:Nat):Int)=j-2*Y.natAbs by lia]
   grind
  .unfold Bd at b ⊢
   rw[show((i-2*X.natAbs:Nat):Int)=i-2*X.natAbs by lia,show((j-2*Y.natAbs:Nat):Int)=j-2*Y.natAbs by lia]
   have nX:(X.natAbs:Int)=W*A.natAbs:=by rw[eX,BI];push_cast;rfl
   have nY:(Y.natAbs:Int)=H*B.natAbs:=by rw[eY,BI];push_cast;rfl
   rw[nX,nY]
   rcases b with⟨c,k⟩|⟨c,k⟩
   .exact .inl ⟨c-2*A.natAbs,by rw[JN,<-k];grind⟩
   .exact .inr ⟨c-2*B.natAbs,by rw[JN,<-k];grind⟩
def ml {n m a a' TA TB k k' G:Int}(hm:0<m)(hG:0<G)(ha:a=G*a')(eA:a≠0->TA=m*a.natAbs*k)(eB:a≠0->TB=m*a'.natAbs*k'):Rt (G*TB) TA 0 TA TB (Jk n m a 1 TA) (Jk n m a' 1 TB):=by
 have h0:a=0↔a'=0:=by rw[ha,DJ];lia
 by_cases h:a=0
 .rw[Br h,Br (h0.mp h)]
  exact⟨rfl,rfl,by show TA*0=G*TB*0;rw[DS,DS],.inr ⟨rfl,rfl,rfl,rfl,rfl⟩⟩
 .have h':a'≠0:=λz=>h (h0.mpr z)
  have eA:=eA h
  have eB:=eB h
  have hs:sg a'=sg a:=by
   unfold sg
   by_cases q:a' > 0
   .rw[AC q,AC (by rw[ha];exact AU hG q)]
   .rw[AD q,AD (by rw[ha];have:=FM hG (show a'<0 by lia);lia)]
  have na:(a.natAbs:Int)=G*a'.natAbs:=by rw[ha,BI];push_cast;lia
  rw[Sw h hm eA,Sw h' hm eB]
  rw[na] at eA
  have key:TA*k'=G*TB*k:=by rw[eA,eB];grind
  refine⟨rfl,hs,?_,.inl ⟨?_,?_⟩⟩
  .show TA*(1*(m*k'))=G*TB*(1*(m*k))
   grind
  .show sg a≠0
   rcases Sx h with⟨q,_⟩|⟨q,_⟩<;>lia
  .show TA*(Qe n m a'*(1*k'))=G*TB*(Qe n m a*(1*k))-0
   rw[yD hs h h']
   grind
def E7 {W H:Nat}{p:Po4}(ok:PtOk W H p){ss:List Sd}{X Y G:Int}(hG:0<G)(nz:X≠0\/Y≠0){most n:Nat}{pt:D}{l:List D}(wi:WS W H (wT p ⟨G*X,1,G*Y,1⟩) 0 (Ig p ⟨G*X,1,G*Y,1⟩) (Ih p ⟨G*X,1,G*Y,1⟩))
  (h:wk W H ss [] (wT p ⟨X,1,Y,1⟩) most n (Ig p ⟨X,1,Y,1⟩) (Ih p ⟨X,1,Y,1⟩) []=some (.tup [.str (Str.ofString "corner"),pt,.lst l])):
  wk W H ss [] (wT p ⟨G*X,1,G*Y,1⟩) most n (Ig p ⟨G*X,1,G*Y,1⟩) (Ih p ⟨G*X,1,G*Y,1⟩) []=some (.tup [.str (Str.ofString "corner"),pt,.lst l]):=by
 have pb:=ok.x.fr.pos
 have pd:=ok.y.fr.pos
 have wp:∀X Y:Int,0<wT p ⟨X,1,Y,1⟩/\(X≠0->wT p ⟨X,1,Y,1⟩=p.b*X.natAbs*(p.d*m1 Y))/\(Y≠0->wT p ⟨X,1,Y,1⟩=p.d*Y.natAbs*(p.b*m1 X)):=λX Y=>by
  obtain⟨m0,fV⟩:=Ph X
  obtain⟨m2,m3⟩:=Ph Y
  have ew:wT p ⟨X,1,Y,1⟩=1*p.b*m1 X*p.d*m1 Y:=rfl
  refine⟨by rw[ew,CT];exact AU (AU (AU pb m0) pd) m2,λq=>by rw[ew,fV q];grind,λq=>by rw[ew,m3 q];grind⟩
 obtain⟨a1,a2,a3⟩:=wp X Y
 obtain⟨b1,b2,b3⟩:=wp (G*X) (G*Y)
 have gx:G*X≠0->X≠0:=λz q=>z (by rw[q,DS])
 have gy:G*Y≠0->Y≠0:=λz q=>z (by rw[q,DS])
 have rx:=ml (n:=p.a) (a:=G*X) (a':=X) pb hG rfl b2 (λz=>a2 (gx z))
 have ry:=ml (n:=p.c) (a:=G*Y) (a':=Y) pd hG rfl b3 (λz=>a3 (gy z))
 have nx:=wi.nxt.1
 rcases lim (ss:=ss) (ps:=[]) (most:=most) (g1:=1) (g2:=1) (AU hG a1) b1 (GL 0) (T':=wT p ⟨X,1,Y,1⟩) (by
   have:1*wT p ⟨X,1,Y,1⟩<=G*wT p ⟨X,1,Y,1⟩:=AN (by lia) (by lia)
   have:=AN this (BW b1)
   rw[CT,EV] at this
   lia) (λ_ z=>by cases z) (λ_ z=>by cases z) n _ _ _ _ [] 0 wi rx ry (AU (AU hG a1) nx) (by have:=AU b1 a1;lia) (λ_ z=>by cases z) (λ_=>⟨HN _,HN _⟩) (λ_=>⟨HN _,HN _⟩) with⟨e,_⟩|⟨⟨m,t,u,t',u',jW,now,_,_,i3,_⟩⟩
 .exact e.trans h
 .rw[show wk W H ss [] (wT p ⟨X,1,Y,1⟩) most n (Jk p.a p.b X 1 (wT p ⟨X,1,Y,1⟩)) (Jk p.c p.d Y 1 (wT p ⟨X,1,Y,1⟩)) []=_ from h] at i3
  injection i3 with i3
  injection i3 with i3
  injection i3 with i3 _
  injection i3 with i3
  exact absurd i3 (by decide)
def lO (a b c d e f:Int):Fq (nD a b) (.lst [nD c d,nD e f])=.ok (.bl (decide (c=a/\d=b)||decide (e=a/\f=b))):=by
 show(if D.deps [nD c d,nD e f]<=60 then M.ok (D.bl (UB (nD a b) [nD c d,nD e f])) else M.bad)=_
 rw[AC (by simp[nD,D.dep,D.deps])]
 unfold UB
 simp only[CP,JE,Cj,GU]
def tf {W H:Nat}{x:D}(h:aZ W H x)(ip:Gk x):K4 [x,.int (W:Int),.int (H:Int)]=.ok (.im (.bl true)):=by
 obtain⟨a,b,c,e,rfl,_⟩:=ip
 have l1:Zp Fq 0[0]! (X1 (Zb (Qi (Zb ↑0 (Zb ↑1 Zk))) (Zb (Qi (Zb (Zd 1) (Zb ↑1 Zk))) Zk))) [Io (.tup [nD a b,nD c e]),Jo (W:Int),Jo (H:Int)]=.ok (.bl (decide ((0:Int)=a/\(1:Int)=b)||decide ((W:Int)=a/\(1:Int)=b))):=Zn (x:=nD a b) (y:=.lst [nD 0 1,nD W 1]) (Zy rfl rfl (Y3 _ _)) (K8 (aC (Js rfl rfl) (Law.a1 (Js rfl rfl))) (Xu (by show(2:Nat)<=1000000;decide))) (lO _ _ _ _ _ _)
 have l2:Zp Fq 0[1]! (X1 (Zb (Qi (Zb ↑0 (Zb ↑1 Zk))) (Zb (Qi (Zb (Zd 2) (Zb ↑1 Zk))) Zk))) [Io (.tup [nD a b,nD c e]),Jo (W:Int),Jo (H:Int)]=.ok (.bl (decide ((0:Int)=c/\(1:Int)=e)||decide ((H:Int)=c/\(1:Int)=e))):=Zn (x:=nD c e) (y:=.lst [nD 0 1,nD H 1]) (Zy rfl rfl (Xx _ _ _)) (K8 (aC (Js rfl rfl) (Law.a1 (Js rfl rfl))) (Xu (by show(2:Nat)<=1000000;decide))) (lO _ _ _ _ _ _)
 refine(aa _ _ _ _ _).trans (Qh (Z9 ((ua l1 l2).trans ?_)))
 have:((decide ((0:Int)=a/\(1:Int)=b)||decide ((W:Int)=a/\(1:Int)=b))||(decide ((0:Int)=c/\(1:Int)=e)||decide ((H:Int)=c/\(1:Int)=e)))=true:=by
  simp only[DU,DW]
  rcases h with(h|h)|(h|h)<;>obtain⟨q1,q2⟩:=nH h
  .exact .inl (.inl ⟨q1.symm,q2.symm⟩)
  .exact .inl (.inr ⟨q1.symm,q2.symm⟩)
  .exact .inr (.inl ⟨q1.symm,q2.symm⟩)
  .exact .inr (.inr ⟨q1.symm,q2.symm⟩)
 rw[this]
def zh (x t:Int):Kn (2*x*t) (1*2)=nD (t*x) 1:=by
 rw[<-Uo (p:=t*x) (q:=1) (by decide) (by simp)]
 exact Jh (by decide) (by decide) (by grind)
def Ij {x y t:Int}(hx:x.natAbs<=1000)(hy:y.natAbs<=1000)(t0:0<=t)(t3:t<=3):Ul [.tup [nD (2*x) 1,nD (2*y) 1],.int t,.int 2]=.ok (.im (.tup [nD (t*x) 1,nD (t*y) 1])):=by
 have e5:(10:Nat) ^ 5=100000:=rfl
 have one:∀{z:Int},z.natAbs<=1000->Z1 Yy (Zb (Zp Zx 0[0]! (Zd 1)) (Zb (Zp Zx 0[1]! (Zd 2)) Zk)) [Io (nD (2*z) 1),Jo t,Jo (2:Int)]=.ok (nD (t*z) 1):=λ{z} hz=>by
  have b:(2*z*t).natAbs<=2000*3:=by rw[BI];exact BU (by lia) (by lia)
  have fr:Fr 5 (2*z*t) (1*2):=⟨by decide,by rw[e5];lia,by decide⟩
  have ef:=l9 fr (by decide)
  rw[zh] at ef
  exact Z5 (aC (Zn (x:=.int (2*z)) (Zy rfl rfl (Y3 _ _)) rfl (gT (V0 (by lia) (by lia)) (V0 (by lia) (by lia)))) (Law.a1 (Zn (x:=.int 1) (Zy rfl rfl (Xx _ _ _)) rfl (gT (V0 (by decide) (by decide)) (V0 (by decide) (by decide)))))) ef rfl
 refine(aa _ _ _ _ _).trans (Qh (Z9 (Jy (Law.a1 (d:=.lst [nD (t*x) 1,nD (t*y) 1]) (Ez (Bk (ds:=[nD (2*x) 1,nD (2*y) 1]) rfl (by simp) ?_))) rfl)))
 exact tq rfl (one hx) rfl (one hy)
def Ik {x y:Int}(h:x≠0\/y≠0):∃P Q:Int,x/(Int.gcd x y:Nat)=P/\y/(Int.gcd x y:Nat)=Q/\(0:Int)<(Int.gcd x y:Nat)/\x=(Int.gcd x y:Nat)*P/\y=(Int.gcd x y:Nat)*Q/\P.natAbs<=x.natAbs/\Q.natAbs<=y.natAbs/\(P≠0\/Q≠0):=by
 have gp:(0:Int)<(Int.gcd x y:Nat):=by
  have:0<Int.gcd x y:=JZ λz=>by
   have:=JU.mp z
   lia
  lia
 have ex:=JO (FZ x y)
 have ey:=JO (EW x y)
 generalize hP:x/(Int.gcd x y:Nat)=P at ex
 generalize hQ:y/(Int.gcd x y:Nat)=Q at ey
 generalize (Int.gcd x y:Nat)=g at *
 refine⟨P,Q,rfl,rfl,gp,ex.symm,ey.symm,?_,?_,?_⟩
 .rw[<-ex,BI]
  exact GD _ (by lia)
 .rw[<-ey,BI]
  exact GD _ (by lia)
 .rcases h with h|h
  .exact .inl λz=>h (by rw[<-ex,z,DS])
  .exact .inr λz=>h (by rw[<-ey,z,DS])
def uh (a b:Int):∃P Q:Int,P.natAbs<=6/\Q.natAbs<=6/\(P≠0\/Q≠0)/\Pz [.lst [.int a,.int b]]=.ok (.im (.tup [.int P,.int Q])):=by
 have r0:=BS a (show(13:Int)≠0 by decide)
 have r1:=BG a (show(0:Int)<13 by decide)
 have r2:=BS b (show(13:Int)≠0 by decide)
 have r3:=BG b (show(0:Int)<13 by decide)
 have i0:∀r:List (Option S),Zp DL.Ko (Zp Yk 0[0]! ↑13) ↑6 (Io (.lst [.int a,.int b])::r)=.ok (.int (a%13-6)):=λr=>Zn (Zn (Jd rfl rfl (Y3 _ _)) rfl (gM (by decide))) rfl rfl
 have i1:∀r:List (Option S),Zp DL.Ko (Zp Yk 0[1]! ↑13) ↑6 (Io (.lst [.int a,.int b])::r)=.ok (.int (b%13-6)):=λr=>Zn (Zn (Jd rfl rfl (Xx _ _ _)) rfl (gM (by decide))) rfl rfl
 obtain⟨x,hx⟩:∃x,a%13-6=x:=⟨_,rfl⟩
 obtain⟨y,hy⟩:∃y,b%13-6=y:=⟨_,rfl⟩
 rw[hx] at i0
 rw[hy] at i1
 have cc:∀r:List (Option S),DL.tA (DL.tB (Zp Jx (Zd 1) ↑0)) (DL.tB (Zp Jx (Zd 2) ↑0)) (Io (.lst [.int a,.int b])::Jo x::Jo y::r)=.ok ((x==0)&&(y==0)):=λr=>tH (Qv (Zn rfl rfl (Jg _ _))) (Qv (Zn rfl rfl (Jg _ _)))
 have fin:∀y:Int,y.natAbs<=6->(x≠0\/y≠0)->∃P Q:Int,P.natAbs<=6/\Q.natAbs<=6/\(P≠0\/Q≠0)/\(Zw (Z7 3 (Z1 K3 (Zb (Zd 1) (Zb (Zd 2) Zk)))) (Qq (Qi (Zb (Zp Q4 (Zd 1) (Zd 3)) (Zb (Zp Q4 (Zd 2) (Zd 3)) Zk))))) [Io (.lst [.int a,.int b]),Jo x,Jo y,none]=.ok (.rt (.im (.tup [.int P,.int Q]))):=λy hy h=>by
  obtain⟨P,Q,e1,e2,g0,_,_,l1,l2,nz⟩:=Ik h
  have gl:((Int.gcd x y:Nat):Int)<=12:=by
   rcases h with h|h
   .have:=FP (by lia) (DF.mpr (FZ x y));lia
   .have:=FP (by lia) (DF.mpr (EW x y));lia
  have gs:sm ((Int.gcd x y:Nat):Int)=true:=V0 (by lia) (by lia)
  refine⟨P,Q,by lia,by lia,nz,go (Z3 (Z5 (aC rfl (Law.a1 rfl)) (lG x y) rfl)) (Z9 (Js ?_ ?_))⟩
  .exact Zn (x:=.int x) rfl rfl (by rw[By g0 gs,e1])
  .exact Zn (x:=.int y) rfl rfl (by rw[By g0 gs,e2])
 by_cases q:x=0/\y=0
 .obtain⟨P,Q,h1,h2,h3,e⟩:=fin 1 (by decide) (.inr (by decide))
  have cc:=cc [none]
  rw[q.1,q.2] at cc
  rw[q.1] at e i0
  rw[q.2] at i1
  exact⟨P,Q,h1,h2,h3,(cH _ _ _).trans (Qh (go (Z3 (i0 _)) (go (Z3 (i1 _)) (go (Q3 cc (Z3 (d:=.int 1) rfl)) e))))⟩
 .obtain⟨P,Q,h1,h2,h3,e⟩:=fin y (by lia) (by lia)
  have cc:=cc [none]
  rw[show((x==0)&&(y==0))=false by rw[HI];intro z;simp at z;exact q z] at cc
  exact⟨P,Q,h1,h2,h3,(cH _ _ _).trans (Qh (go (Z3 (i0 _)) (go (Z3 (i1 _)) (go (Z8 cc) e))))⟩
noncomputable def iT:Zf->M O:=(Zw (Z7 7 (Zp Q0 ↑2 (Zp Yk (Zd 4) (Zp Tz (X1 (Zb ↑11 (Zb ↑999 Zk))) (Zp Q4 (Zp Yk (Zd 5) ↑8) ↑7)))))
   (Zw (Z7 8 (Zp Q0 (Zp Yk (Zp Q4 (Zd 5) ↑8) (Zp DL.Ko (Zp Zx (Zd 6) (Zd 7)) ↑1)) ↑1))
   (Zw (Jt (DL.tB (Zp Jx (Zp Yk (Zd 8) (Zd 7)) ↑0)) (Z7 8 (Zp DL.Ko (Zd 8) ↑1)) Ys)
   (Ua 3 (Z1 Yy (Zb (Zd 8) (Zb (Zd 7) Zk)))))))
def Il (o0 o1 o2:Option S){z:Nat}(z0:1<=z)(z8:z<=8)(x y:Int)(l:List D)(hl:l.length<=10)(v7 v8:Option S):∃(p q:Int) (w7 w8:Option S),PIn z p q/\iT [o0,o1,o2,some (.ow l),Jo x,Jo y,Jo (z:Int),v7,v8]=.ok (.nx [o0,o1,o2,some (.ow (l++[nD p q])),Jo x,Jo y,Jo (z:Int),w7,w8]):=by
 have k0:=BS y (show(8:Int)≠0 by decide)
 have k1:=BG y (show(0:Int)<8 by decide)
 obtain⟨m,hm,gP,em⟩:∃m:Int,11<=m/\m<=999/\Tz (.lst [.int 11,.int 999]) (.int (y%8/7))=.ok (.int m):=by
  have:y%8/7=0\/y%8/7=1:=by lia
  rcases this with e|e<;>rw[e]
  .exact⟨11,by decide,by decide,rfl⟩
  .exact⟨999,by decide,by decide,rfl⟩
 have r1:0<=x%m:=BS _ (by lia)
 have r2:x%m<m:=BG _ (by lia)
 generalize hB:2+x%m=B
 have kK:2<=B:=by lia
 have g9:B<=1000:=by lia
 have wb1:1*B<=(z:Int)*B:=AN (by lia) (by lia)
 have wb2:(z:Int)*B<=8*1000:=LX (by lia) g9 (by lia) (by lia)
 have r3:0<=y/8%(z*B-1):=BS _ (by lia)
 have r4:y/8%(z*B-1)<z*B-1:=BG _ (by lia)
 generalize hT:y/8%(z*B-1)+1=T
 have s7:sm 7=true:=V0 (by decide) (by decide)
 have s8:sm 8=true:=V0 (by decide) (by decide)
 have sW:sm (z:Int)=true:=V0 (by lia) (by lia)
 have sB:sm B=true:=V0 (by lia) (by lia)
 have g1:Zp Q0 ↑2 (Zp Yk (Zd 4) (Zp Tz (X1 (Zb ↑11 (Zb ↑999 Zk))) (Zp Q4 (Zp Yk (Zd 5) ↑8) ↑7))) [o0,o1,o2,some (.ow l),Jo x,Jo y,Jo (z:Int),v7,v8]=.ok (.int B):=by
  refine(Zn rfl (Zn rfl (Zn (K8 (ds:=[.int 11,.int 999]) (aC rfl (Law.a1 rfl)) (Xu (by show(2:Nat)<=1000000;decide))) (Zn (Zn rfl rfl (gM (by decide))) rfl (By (by decide) s7)) em) (gM (by lia))) rfl).trans ?_
  show M.ok (D.int (2+x%m))=_
  rw[hB]
 have g2:Zp Q0 (Zp Yk (Zp Q4 (Zd 5) ↑8) (Zp DL.Ko (Zp Zx (Zd 6) (Zd 7)) ↑1)) ↑1 [o0,o1,o2,some (.ow l),Jo x,Jo y,Jo (z:Int),Jo B,v8]=.ok (.int T):=by
  refine(Zn (Zn (Zn rfl rfl (By (by decide) s8)) (Zn (Zn rfl rfl (gT sW sB)) rfl rfl) (gM (by lia))) rfl rfl).trans ?_
  show M.ok (D.int (y/8%(z*B-1)+1))=_
  rw[hT]
 have tt:DL.tB (Zp Jx (Zp Yk (Zd 8) (Zd 7)) ↑0) [o0,o1,o2,some (.ow l),Jo x,Jo y,Jo (z:Int),Jo B,Jo T]=.ok (T%B==0):=Qv (Zn (Zn rfl rfl (gM (by lia))) rfl (Jg _ _))
 by_cases q:T%B=0
 .have q':(T%B==0)=true:=by simp[q]
  rw[q'] at tt
  have tb:B<=T:=by
   have:=Int.emod_add_mul_ediv T B
   rw[q] at this
   have h0:0<T/B:=FQ (show 0<B*(T/B) by lia) (by lia)
   have:=HP (show 1<=T/B by lia) (show 0<=B by lia)
   lia
  have nm:(T-1)%B≠0:=λz=>by
   have h1:=Int.sub_emod T 1 B
   rw[z,q,KN (show(0:Int)<=1 by decide) (show 1<B by lia)] at h1
   have:(0-1)%B=B-1:=by
    rw[show(0-1:Int)=(B-1)+B*(-1) by lia,Int.add_mul_emod_self_left,KN (by lia) (by lia)]
   lia
  obtain⟨p,c,n,e⟩:=l8 (z:=z) kK g9 (show 0<T-1 by lia) (by lia) z8 nm
  exact⟨p,c,Jo B,Jo (T-1),n,go (Z3 g1) (go (Z3 g2) (go (Q3 tt (Z3 (Zn rfl rfl rfl))) (Ey (ds:=l) (d:=nD p c) rfl (Z5 (aC rfl (Law.a1 rfl)) e rfl) (by lia))))⟩
 .have q':(T%B==0)=false:=by simp[q]
  rw[q'] at tt
  obtain⟨p,c,n,e⟩:=l8 (z:=z) kK g9 (show 0<T by lia) (by lia) z8 q
  exact⟨p,c,Jo B,Jo T,n,go (Z3 g1) (go (Z3 g2) (go (Z8 tt) (Ey (ds:=l) (d:=nD p c) rfl (Z5 (aC rfl (Law.a1 rfl)) e rfl) (by lia))))⟩
def zg {W H:Nat}(w0:1<=W)(w8:W<=8)(h0:1<=H)(h8:H<=8)(a b c d:Int):∃p:Po4,PtOk W H p/\U0 [.lst [.int a,.int b,.int c,.int d],.int (W:Int),.int (H:Int)]=.ok (.im p.D):=by
 obtain⟨p,q,u7,u8,n1,t1⟩:=Il (Io (.lst [.int a,.int b,.int c,.int d])) (Jo (W:Int)) (Jo (H:Int)) w0 w8 a b [] (by simp) none none
 obtain⟨p',q',y7,y8,n2,t2⟩:=Il (Io (.lst [.int a,.int b,.int c,.int d])) (Jo (W:Int)) (Jo (H:Int)) h0 h8 c d [nD p q] (by simp) u7 u8
 have es:W0 (X1 (Zb (Qi (Zb 0[0]! (Zb 0[1]! (Zb (Zd 1) Zk)))) (Zb (Qi (Zb 0[2]! (Zb 0[3]! (Zb (Zd 2) Zk)))) Zk))) [Io (.lst [.int a,.int b,.int c,.int d]),Jo (W:Int),Jo (H:Int),some (.ow []),none,none,none,none,none]=.ok [.tup [.int a,.int b,.int (W:Int)],.tup [.int c,.int d,.int (H:Int)]]:=
  iz (K8 (aC (Tl (Jd rfl rfl (Y3 _ _)) (Jd rfl rfl (Xx _ _ _)) rfl) (Law.a1 (Tl (Jd rfl rfl (aw _ _ _ _)) (Jd rfl rfl (lJ _ _ _ _ _)) rfl))) (Xu (by show(2:Nat)<=1000000;decide)))
 have lo:Jc (U6 3 (Yn (Ut 4) (Yn (Ut 5) (Yn (Ut 6) Wv)))) iT [.tup [.int a,.int b,.int (W:Int)],.tup [.int c,.int d,.int (H:Int)]] [Io (.lst [.int a,.int b,.int c,.int d]),Jo (W:Int),Jo (H:Int),some (.ow []),none,none,none,none,none]=.ok (.nx [Io (.lst [.int a,.int b,.int c,.int d]),Jo (W:Int),Jo (H:Int),some (.ow [nD p q,nD p' q']),Jo c,Jo d,Jo (H:Int),y7,y8]):=(Vv rfl t1).trans ((Vv rfl t2).trans rfl)
 exact⟨⟨p,q,p',q'⟩,⟨n1,n2⟩,(aa _ _ _ _ _).trans (Qh (go (sd':=[Io (.lst [.int a,.int b,.int c,.int d]),Jo (W:Int),Jo (H:Int),some (.ow []),none,none,none,none,none]) rfl (go (f:=Pm _ _ iT) ((Vu es).trans lo) (P0 (Z9 (Jy (Law.a1 rfl) rfl))))))⟩
def vL {f g:Zf->M O}{sd:Zf}{x:XV}(h:f sd=.ex x):Zw f g sd=.ex x:=by
 unfold Zw
 rw[h]
 rfl
def Im {c:Nat}{Z:Nat}{A:Int}:((c:Int)*((Z:Int)*A)).natAbs=Z*(c*A.natAbs):=by
 rw[BI,BI]
 show c*(Z*A.natAbs)=_
 rw[<-Nat.mul_assoc,Nat.mul_comm c,Nat.mul_assoc]
def lN {x y:Int}(hx:x.natAbs<=300)(hy:y.natAbs<=300)(h:x≠0\/y≠0):VN ⟨x,1,y,1⟩:=by
 have e:(10:Nat) ^ 12=1000000000000:=rfl
 exact⟨⟨(by decide:(0:Int)<1),by show x.natAbs<=_;rw[e];lia,(by decide:(1:Int).natAbs<=10 ^ 12)⟩,⟨(by decide:(0:Int)<1),by show y.natAbs<=_;rw[e];lia,(by decide:(1:Int).natAbs<=10 ^ 12)⟩,by simp,by simp,h,by show(x.natAbs:Int)<=300*1;lia,by show(y.natAbs:Int)<=300*1;lia⟩
def d7 {W H:Nat}{p:Po4}(w0:1<=W)(w4:W<=4)(h0:1<=H)(h4:H<=4)(ok:PtOk W H p){A B:Int}(hA:A.natAbs<=24)(hB:B.natAbs<=24)(nz:A≠0\/B≠0){c:Nat}(c0:0<c)(c3:c<=3):Go W H p (sc c (W*A) (H*B)) (c*A.natAbs) (c*B.natAbs):=by
 have k1:W*(c*A.natAbs)<=4*(3*24):=BU w4 (BU c3 hA)
 have k2:H*(c*B.natAbs)<=4*(3*24):=BU h4 (BU c3 hB)
 have z1:∀{Z:Nat}{A:Int},1<=Z->A≠0->(c:Int)*((Z:Int)*A)≠0:=λ{Z A} hz ha e=>by
  rcases DJ.mp e with q|q
  .lia
  .rcases DJ.mp q with q|q
   .lia
   .exact ha q
 exact⟨ok,lN (by rw[Im];lia) (by rw[Im];lia) (nz.imp (z1 w0) (z1 h0)),rfl,rfl,Im,Im⟩
structure Rg (W H:Nat) (p:Po4) (P Q A B g:Int):Prop where
 w0:1<=W
 w4:W<=4
 h0:1<=H
 h4:H<=4
 ok:PtOk W H p
 P6:P.natAbs<=6
 Q6:Q.natAbs<=6
 cj:A.natAbs<=24
 cg:B.natAbs<=24
 nz:A≠0\/B≠0
 g0:0<g
 eP:P*H=g*A
 eQ:Q*W=g*B
def vK {W H:Nat}{p:Po4}{P Q:Int}(w0:1<=W)(w4:W<=4)(h0:1<=H)(h4:H<=4)(ok:PtOk W H p)(hP:P.natAbs<=6)(hQ:Q.natAbs<=6)(nz:P≠0\/Q≠0):∃A B g:Int,Rg W H p P Q A B g/\∃d,F_walk [Qo W H (Xy W H),.lst [],p.D,(sc (2:Nat) (W*A) (H*B)).D,.int ((2*A.natAbs+2*B.natAbs:Nat):Int)]=.ok (.im d)/\wk W H (Xy W H) [] (wT p (sc (2:Nat) (W*A) (H*B))) (2*A.natAbs+2*B.natAbs) 601 (Ig p (sc (2:Nat) (W*A) (H*B))) (Ih p (sc (2:Nat) (W*A) (H*B))) []=some d /\
  ((∃pt l,d=.tup [.str (Str.ofString "corner"),pt,.lst l]/\Gk pt/\Wn [.int (W:Int),.int (H:Int),p.D,.tup [.int P,.int Q]]=.ex ⟨"NoRing", ["point"],[pt]⟩) \/
   (∃l,d=.tup [.str (Str.ofString "end"),p.D,.lst l]/\l.length=2*A.natAbs+2*B.natAbs/\(∀x∈l,aZ W H x)/\(∀x∈l,Gk x)/\¬Cr W H p (sc (2:Nat) (W*A) (H*B))/\Wn [.int (W:Int),.int (H:Int),p.D,.tup [.int P,.int Q]]=.ok (.im (.tup [nD (2*(W*A)) 1,nD (2*(H*B)) 1,.int ((2*A.natAbs+2*B.natAbs:Nat):Int)])))):=by
 have jl:P*H≠0\/Q*W≠0:=nz.imp (λz e=>by rcases DJ.mp e with q|q;exact z q;lia) (λz e=>by rcases DJ.mp e with q|q;exact z q;lia)
 obtain⟨A,B,e1,e2,g0,e3,e4,l1,l2,aJ⟩:=Ik jl
 have b1:(P*H).natAbs<=6*4:=by rw[BI];exact BU hP h4
 have b2:(Q*W).natAbs<=6*4:=by rw[BI];exact BU hQ w4
 have gl:((Int.gcd (P*H) (Q*W):Nat):Int)<=24:=by
  rcases jl with h|h
  .have:=FP (by lia) (DF.mpr (FZ (P*H) (Q*W)));lia
  .have:=FP (by lia) (DF.mpr (EW (P*H) (Q*W)));lia
 have rg:Rg W H p P Q A B (Int.gcd (P*H) (Q*W):Nat):=⟨w0,w4,h0,h4,ok,hP,hQ,by lia,by lia,aJ,g0,e3,e4⟩
 obtain⟨d,ef,ew,res⟩:=S0 w0 w4 h0 h4 (d7 w0 w4 h0 h4 ok (by lia) (by lia) aJ (c:=2) (by decide) (by decide)) (most:=2*A.natAbs+2*B.natAbs) (AO _) (by lia)
 refine⟨A,B,_,rg,d,ef,ew,?_⟩
 have cd:=lH (P*H) (Q*W)
 have cnt:Zp Zx ↑2 (Zp Q0 (Kr Kg (Zb (Zd 4) Zk)) (Kr Kg (Zb (Zd 5) Zk))) [Jo (W:Int),Jo (H:Int),Io p.D,Io (.tup [.int P,.int Q]),Jo A,Jo B,Jo ((Int.gcd (P*H) (Q*W):Nat):Int),Io (.tup [nD (2*(W*A)) 1,nD (2*(H*B)) 1]),none,none]=.ok (.int ((2*A.natAbs+2*B.natAbs:Nat):Int)):=by
  refine(Zn (x:=.int 2) rfl (Zn (x:=.int (A.natAbs:Int)) (y:=.int (B.natAbs:Int)) (Jy (Law.a1 rfl) (Um A)) (Jy (Law.a1 rfl) (Um B)) rfl) (gT (V0 (by decide) (by decide)) (V0 (by lia) (by lia)))).trans ?_
  congr 2
  push_cast
  lia
 have oK:Qi (Zb (Qi (Zb (Zp Zx (Zp Zx ↑2 (Zd 0)) (Zd 4)) (Zb ↑1 Zk))) (Zb (Qi (Zb (Zp Zx (Zp Zx ↑2 (Zd 1)) (Zd 5)) (Zb ↑1 Zk))) Zk)) [Jo (W:Int),Jo (H:Int),Io p.D,Io (.tup [.int P,.int Q]),Jo A,Jo B,Jo ((Int.gcd (P*H) (Q*W):Nat):Int),none,none,none]=.ok (.tup [nD (2*(W*A)) 1,nD (2*(H*B)) 1]):=by
  refine Js (Js ?_ rfl) (Js ?_ rfl)
  .refine(Zn (x:=.int (2*(W:Int))) (y:=.int A) (Zn rfl rfl (gT (V0 (by decide) (by decide)) (V0 (by lia) (by lia)))) rfl (gT (V0 (by lia) (by lia)) (V0 (by lia) (by lia)))).trans ?_
   rw[CV]
  .refine(Zn (x:=.int (2*(H:Int))) (y:=.int B) (Zn rfl rfl (gT (V0 (by decide) (by decide)) (V0 (by lia) (by lia)))) rfl (gT (V0 (by lia) (by lia)) (V0 (by lia) (by lia)))).trans ?_
   rw[CV]
 have gs:sm ((Int.gcd (P*H) (Q*W):Nat):Int)=true:=V0 (by lia) (by lia)
 have body:∀{r:M O},(Zw (Jt (DL.tB (Zp Jx 9[0]! ↑"corner")) (Ni "NoRing" "point" (Zb 9[1]! Zk)) Ys)
   (Qq (Qi (Zb 7[0]! (Zb 7[1]! (Zb (Zd 8) Zk)))))) [Jo (W:Int),Jo (H:Int),Io p.D,Io (.tup [.int P,.int Q]),Jo A,Jo B,Jo ((Int.gcd (P*H) (Q*W):Nat):Int),Io (.tup [nD (2*(W*A)) 1,nD (2*(H*B)) 1]),Jo ((2*A.natAbs+2*B.natAbs:Nat):Int),Io d]=r->Wn [.int (W:Int),.int (H:Int),p.D,.tup [.int P,.int Q]]=Wc r:=λ{r} h=>by
  refine(show Wn [.int (W:Int),.int (H:Int),p.D,.tup [.int P,.int Q]]=Wc _ from rfl).trans (congrArg Wc ?_)
  refine go (Z3 (d:=.int (P*H)) (Zn (x:=.int P) (Zy rfl rfl (Y3 _ _)) rfl (gT (V0 (by lia) (by lia)) (V0 (by lia) (by lia))))) (go (Z3 (d:=.int (Q*W)) (Zn (x:=.int Q) (Zy rfl rfl (Xx _ _ _)) rfl (gT (V0 (by lia) (by lia)) (V0 (by lia) (by lia))))) (go (Z3 (Z5 (aC rfl (Law.a1 rfl)) cd rfl)) (go (Z3 (d:=.int A) (Zn rfl rfl (by rw[By g0 gs,e1]))) (go (Z3 (d:=.int B) (Zn rfl rfl (by rw[By g0 gs,e2]))) (go (Z3 oK) (go (Z3 cnt) (go (Z3 (d:=d) (Z5 (aC (Z5 (aC rfl (Law.a1 rfl)) (mR w0 w4 h0 h4) rfl) (aC (d:=.lst []) (K8 rfl (Xu (by show(0:Nat)<=1000000;decide))) (aC rfl (aC rfl (Law.a1 rfl))))) ef rfl)) h)))))))
 rcases res with⟨pt,l,ed,aK,_⟩|⟨l,ed,ll,on,ip,nc⟩
 .refine .inl ⟨pt,l,ed,aK,?_⟩
  refine(body (vL (Q3 (Qv (Zn (x:=.str (Str.ofString "corner")) (by rw[ed];exact Zy rfl rfl (Y3 _ _)) rfl rfl)) ?_))).trans rfl
  exact(show Ni "NoRing" "point" (Zb 9[1]! Zk) _=.ex ⟨"NoRing", ["point"],[pt]⟩ by
   unfold Ni
   rw[Law.a1 (d:=pt) (by rw[ed];exact Zy rfl rfl (Xx _ _ _))]
   rfl)
 .have ep:D.tup [Kp W p.a p.b (2*A.natAbs),Kp H p.c p.d (2*B.natAbs)]=p.D:=by
   unfold Kp
   rw[AC (by lia),AC (by lia)]
   rfl
  rw[ep] at ed
  refine .inr ⟨l,ed,ll,on,ip,nc,?_⟩
  exact(body (go (Z8 (Qv (Zn (x:=.str (Str.ofString "end")) (by rw[ed];exact Zy rfl rfl (Y3 _ _)) rfl rfl))) (Z9 (Tl (Zy rfl rfl (Y3 _ _)) (Zy rfl rfl (Xx _ _ _)) rfl)))).trans rfl
def vJ {F:List D->M S}{fs:Zf->M (List D)}{gt:D->Zf->M Zf}{i:Nat}{cs:List Str}{g:Zf->M O}{sd sd':Zf}{ds:List D}{d:D}(h1:fs sd=.ok ds)(h2:F ds=.ok (.im d))(h3:gt d sd=.ok sd'):Gb F fs gt i cs g sd=.ok (.nx sd'):=by
 unfold Gb
 rw[h1]
 dsimp only
 rw[h2]
 dsimp only
 rw[h3]
def vI {F:List D->M S}{fs:Zf->M (List D)}{gt:D->Zf->M Zf}{i:Nat}{cs:List Str}{g:Zf->M O}{sd sd':Zf}{ds:List D}{x:XV}(h1:fs sd=.ok ds)(h2:F ds=.ex x)(hc:cs.contains x.cls=true)(h3:g (sd.set i (some (.xc x)))=.ok (.nx sd')):Gb F fs gt i cs g sd=.ok (.nx (sd'.set i none)):=by
 unfold Gb
 rw[h1]
 dsimp only
 rw[h2]
 dsimp only
 rw[AC hc,h3]
def lM {w:Str}{pt:D}(h:Gk pt):(D.tup [.str w,pt]).dep<=60:=by
 have:=Zd2 h
 simp only[D.dep,D.deps]
 lia
def XJ {f:Zf->M D}{sd:Zf}{a b c:D}(h:f sd=.ok (.tup [a,b,c])):Ag f Ku (Jb ↑2) sd=.ok (.tup [a,b]):=by
 unfold Ag
 rw[h]
 rfl
def yY (a b:Int):Rr (.int a) (.int b)=.ok (.bl (!(a==b))):=by rw[Gh (by simp[D.dep])];simp only[D.eq]
def C5 {z:Nat}{n m:Int}{N M:Nat}(h:N%2=M%2):Kp z n m N=Kp z n m M:=by unfold Kp;rw[h]
def zf (w:Str)(W H:Nat)(a b c d:Int)(N M:Nat):(D.tup [.str w,.tup [Kp W a b N,Kp H c d M]]).dep<=60:=by
 unfold Kp
 split<;>split<;>simp[nD,Kn,D.dep,D.deps]
def law_true (ns:List Int)(SY:ns.length<=63):Li [.lst (ns.map D.int)]=.ok (.im (.bl true)):=by
 obtain⟨k1,kh,gV⟩:=Ib (cz ns 0) (m:=4) (by decide)
 obtain⟨k2,ai,qZ⟩:=Ib (cz ns 0/4) (m:=4) (by decide)
 obtain⟨W,hW⟩:∃W:Nat,W=1+k1:=⟨_,rfl⟩
 obtain⟨H,hH⟩:∃H:Nat,H=1+k2:=⟨_,rfl⟩
 have m1:(1:Int)+cz ns 0%4=(W:Int):=by rw[show cz ns 0%4=(k1:Int) from kh];lia
 have m2:(1:Int)+cz ns 0/4%4=(H:Int):=by rw[show cz ns 0/4%4=(k2:Int) from ai];lia
 have w0:1<=W:=by lia
 have w4:W<=4:=by lia
 have h0:1<=H:=by lia
 have h4:H<=4:=by lia
 clear hW hH kh ai gV qZ
 obtain⟨es,le,nb,en⟩:=Lk (cz ns 1) 4 (by decide)
 obtain⟨x0,x1,x2,x3,rfl⟩:∃a b c d:Int,es=[a,b,c,d]:=by
  match es,le with
  |[a,b,c,d],_=>exact⟨a,b,c,d,rfl⟩
 obtain⟨ka,pK,nb2,rY⟩:=Lk (cz ns 2) 2 (by decide)
 obtain⟨y0,y1,rfl⟩:∃a b:Int,ka=[a,b]:=by
  match ka,pK with
  |[a,b],_=>exact⟨a,b,rfl⟩
 obtain⟨p,ok,rS⟩:=zg w0 (by lia:W<=8) h0 (by lia:H<=8) x0 (x1/8*8) x2 (x3/8*8)
 obtain⟨P,Q,hP,hQ,nz,iB⟩:=uh y0 y1
 obtain⟨A,B,g,rg,d,ef,ew,res⟩:=vK w0 w4 h0 h4 ok hP hQ nz
 obtain⟨_,_,_,_,_,_,_,cj,cg,aJ,g0,eP,eQ⟩:=rg
 obtain⟨cs,ec⟩:∃c:Nat,c=2*A.natAbs+2*B.natAbs:=⟨_,rfl⟩
 rw[<-ec] at ef ew res
 have c2:2<=cs:=by lia
 have c96:cs<=96:=by lia
 have f0:=E2 ns 0 SY
 have f1:=E2 ns 1 SY
 have f2:=E2 ns 2 SY
 generalize hN:ns.map D.int=N at *
 have cl:∀(k:Nat) (r:List (Option S)),Xd [.lst N,.int (k:Int)]=.ok (.im (.int (cz ns k)))->Z1 Xd (Zb (Zd 0) (Zb (eC (.int (k:Int))) Zk)) (Io (.lst N)::r)=.ok (.int (cz ns k)):=λk r h=>Z5 (aC rfl (Law.a1 rfl)) h rfl
 have s4:sm 4=true:=V0 (by decide) (by decide)
 have s8:sm 8=true:=V0 (by decide) (by decide)
 have v1:∀r:List (Option S),Zp Q0 ↑1 (Zp Yk (Z1 Xd (Zb (Zd 0) (Zb ↑0 Zk))) ↑4) (Io (.lst N)::r)=.ok (.int (W:Int)):=λr=>by
  refine(Zn rfl (Zn (cl 0 r f0) rfl (gM (by decide))) rfl).trans ?_
  show M.ok (D.int (1+cz ns 0%4))=_
  rw[m1]
 have v2:∀r:List (Option S),Zp Q0 ↑1 (Zp Yk (Zp Q4 (Z1 Xd (Zb (Zd 0) (Zb ↑0 Zk))) ↑4) ↑4) (Io (.lst N)::r)=.ok (.int (H:Int)):=λr=>by
  refine(Zn rfl (Zn (Zn (cl 0 r f0) rfl (By (by decide) s4)) rfl (gM (by decide))) rfl).trans ?_
  show M.ok (D.int (1+cz ns 0/4%4))=_
  rw[m2]
 have n1:=nb x1 (by simp)
 have n3:=nb x3 (by simp)
 unfold cO at n1 n3
 have v4:∀r:List (Option S),X1 (Zb 3[0]! (Zb (Zp Zx (Zp Q4 3[1]! ↑8) ↑8) (Zb 3[2]! (Zb (Zp Zx (Zp Q4 3[3]! ↑8) ↑8) Zk)))) (Io (.lst N)::Jo (W:Int)::Jo (H:Int)::Io (.lst [.int x0,.int x1,.int x2,.int x3])::r)=.ok (.lst [.int x0,.int (x1/8*8),.int x2,.int (x3/8*8)]):=λr=>
  K8 (aC (Jd rfl rfl (Y3 _ _)) (aC (Zn (Zn (Jd rfl rfl (Xx _ _ _)) rfl (By (by decide) s8)) rfl (gT (V0 (by lia) (by lia)) s8)) (aC (Jd rfl rfl (aw _ _ _ _)) (Law.a1 (Zn (Zn (Jd rfl rfl (lJ _ _ _ _ _)) rfl (By (by decide) s8)) rfl (gT (V0 (by lia) (by lia)) s8)))))) (Xu (by show(4:Nat)<=1000000;decide))
 have nil:∀sd:Zf,X1 Zk sd=.ok (.lst []):=λsd=>K8 rfl (Xu (by show(0:Nat)<=1000000;decide))
 refine(cH _ _ _).trans (Qh (go (Z3 (v1 _)) (go (Z3 (v2 _)) (go (Z3 (d:=.lst [.int x0,.int x1,.int x2,.int x3]) (Z5 (aC (cl 1 _ f1) (Law.a1 rfl)) en rfl)) (go (Z3 (Z5 (aC (v4 _) (aC rfl (Law.a1 rfl))) rS rfl)) (go (Z3 (Z5 (Law.a1 (d:=.lst [.int y0,.int y1]) (Z5 (aC (cl 2 _ f2) (Law.a1 rfl)) rY rfl)) iB rfl)) (go (Z3 (Z5 (aC rfl (Law.a1 rfl)) (mR w0 w4 h0 h4) rfl)) (go (Z3 (d:=.non) rfl) ?_))))))))
 rcases res with⟨pt,l,ed,aK,er⟩|⟨l,ed,ll,on,ip,nc,er⟩
 ·
  have X2:(2*(W:Int)*H*P)=g*(2*(W*A)):=by grind
  have Y2:(2*(W:Int)*H*Q)=g*(2*(H*B)):=by grind
  have bP:(2*(W:Int)*H*P).natAbs<=192:=by
   rw[BI,BI,BI]
   have:2*W*H<=2*4*4:=BU (BU (AO 2) w4) h4
   exact AV (BU (show(2:Int).natAbs*(W:Int).natAbs*(H:Int).natAbs<=32 from this) hP) (by decide)
  have bQ:(2*(W:Int)*H*Q).natAbs<=192:=by
   rw[BI,BI,BI]
   have:2*W*H<=2*4*4:=BU (BU (AO 2) w4) h4
   exact AV (BU (show(2:Int).natAbs*(W:Int).natAbs*(H:Int).natAbs<=32 from this) hQ) (by decide)
  have wh:(0:Int)<2*W*H:=AU (AU (by decide) (by lia)) (by lia)
  have so:VN ⟨g*(2*(W*A)),1,g*(2*(H*B)),1⟩:=by
   rw[<-X2,<-Y2]
   exact lN (by lia) (by lia) (nz.imp (λz e=>by rcases DJ.mp e with q|q;lia;exact z q) (λz e=>by rcases DJ.mp e with q|q;lia;exact z q))
  obtain⟨df,rf,kf,oF,_⟩:=Sy (W:=W) (H:=H) (by lia) (by lia) (Bs w4 h4) (ps:=[]) (λ_ z=>by cases z) (by simp) ok.st so (most:=1000) (by decide)
  have fc:=E7 ok (ss:=Xy W H) (X:=2*(W*A)) (Y:=2*(H*B)) g0 (by rcases so.n0 with q|q;exact .inl (λz=>q (by show g*(2*(W*A))=0;rw[z,DS]));exact .inr (λz=>q (by show g*(2*(H*B))=0;rw[z,DS]))) (most:=cs) (n:=601) (pt:=pt) (l:=l) oF (by rw[<-ed];exact ew)
  have fa:=C4 (w:=Str.ofString "corner") (by decide) (show cs<=1000 by lia) _ _ _ _ fc
  have r9:df=.tup [.str (Str.ofString "corner"),pt,.lst l]:=BD (kf.symm.trans fa)
  obtain⟨a,b,c,e,rfl,_⟩:=id aK
  refine go (vI (aC rfl (aC rfl (aC rfl (Law.a1 rfl)))) er rfl (Z3 (d:=.tup [nD a b,nD c e]) rfl)) (Yz (Q3 (Qv (Zn (x:=.tup [nD a b,nD c e]) rfl rfl rfl)) (go (Z3 (d:=.tup [nD (2*(W:Int)*H*P) 1,nD (2*(W:Int)*H*Q) 1]) ?_) (Z9 (Zn (x:=.tup [.str (Str.ofString "corner"),.tup [nD a b,nD c e]]) (y:=.tup [.str (Str.ofString "corner"),.tup [nD a b,nD c e]]) (XJ (c:=.lst l) ?_) (Js rfl rfl) (by rw[K5 (lM aK),D.eq_refl]))))))
  .have t1:∀(sd:Zf),Zd 1 sd=.ok (.int (W:Int))->Zd 2 sd=.ok (.int (H:Int))->Zp Zx (Zp Zx ↑2 (Zd 1)) (Zd 2) sd=.ok (.int (2*(W:Int)*H)):=λsd a b=>Zn (Zn rfl a (gT (V0 (by decide) (by decide)) (V0 (by lia) (by lia)))) b (gT (V0 (by lia) (by lia)) (V0 (by lia) (by lia)))
   have b32:(2:Int)*W*H<=32:=by
    have:2*W*H<=2*4*4:=BU (BU (AO 2) w4) h4
    have:((2*W*H:Nat):Int)<=32:=by lia
    push_cast at this
    exact this
   exact Js (Js (Zn (t1 _ rfl rfl) (Zy rfl rfl (Y3 _ _)) (gT (V0 (by lia) (by lia)) (V0 (by lia) (by lia)))) rfl) (Js (Zn (t1 _ rfl rfl) (Zy rfl rfl (Xx _ _ _)) (gT (V0 (by lia) (by lia)) (V0 (by lia) (by lia)))) rfl)
  .rw[<-r9]
   exact Z5 (aC rfl (aC (nil _) (aC rfl (aC rfl (Law.a1 rfl))))) (show F_walk [Qo W H (Xy W H),.lst [],p.D,.tup [nD (2*(W:Int)*H*P) 1,nD (2*(W:Int)*H*Q) 1],.int (1000:Int)]=.ok (.im df) by rw[X2,Y2];exact rf) rfl
 ·
  have iw:(W*A).natAbs<=1000:=by rw[BI];exact AV (BU (show(W:Int).natAbs<=4 from w4) cj) (by decide)
  have ih:(H*B).natAbs<=1000:=by rw[BI];exact AV (BU (show(H:Int).natAbs<=4 from h4) cg) (by decide)
  obtain⟨d3,rj,ew3,fO⟩:=S0 w0 w4 h0 h4 (d7 w0 w4 h0 h4 ok cj cg aJ (c:=3) (by decide) (by decide)) (most:=3*cs) (by lia) (by lia)
  obtain⟨d1,rq,ew1,fP⟩:=S0 w0 w4 h0 h4 (d7 w0 w4 h0 h4 ok cj cg aJ (c:=1) (by decide) (by decide)) (most:=cs) (by lia) (by lia)
  obtain⟨l3,sA⟩:∃l3,d3=.tup [.str (Str.ofString "end"),.tup [Kp W p.a p.b (1*A.natAbs),Kp H p.c p.d (1*B.natAbs)],.lst l3]:=by
   rcases fO with⟨_,_,_,_,cr⟩|⟨l3,e,_⟩
   .exact absurd (ui ok rfl rfl cr) nc
   .exact⟨l3,by rw[e,C5 (show 3*A.natAbs%2=1*A.natAbs%2 by lia),C5 (show 3*B.natAbs%2=1*B.natAbs%2 by lia)]⟩
  obtain⟨l1,sC⟩:∃l1,d1=.tup [.str (Str.ofString "end"),.tup [Kp W p.a p.b (1*A.natAbs),Kp H p.c p.d (1*B.natAbs)],.lst l1]:=by
   rcases fP with⟨_,_,_,_,cr⟩|⟨l1,e,_⟩
   .exact absurd (uj ok cr) nc
   .exact⟨l1,e⟩
  obtain⟨c1,ec1⟩:∃c1:Nat,c1+1=cs:=⟨cs-1,by lia⟩
  obtain⟨dm,rb,km,_⟩:=Sy (W:=W) (H:=H) (by lia) (by lia) (Bs w4 h4) (ps:=[]) (λ_ z=>by cases z) (by simp) ok.st (d7 w0 w4 h0 h4 ok cj cg aJ (c:=2) (by decide) (by decide)).st (most:=c1) (by lia)
  obtain⟨jh,lm,fm⟩:=S1 (m':=c1) (most:=cs) (l:=l) (pt:=p.D) (by lia) (by lia) 601 _ _ [] (by simp) (by rw[<-ed];exact ew)
  have r8:dm=.tup [.str (Str.ofString "many"),jh,.lst lm]:=BD (km.symm.trans fm)
  refine go (vJ (aC rfl (aC rfl (aC rfl (Law.a1 rfl)))) er rfl) (go (Z8 (Qv (Zn (x:=.non) rfl rfl rfl))) (go (Z3 (d:=d) (Z5 (aC rfl (aC (nil _) (aC rfl (aC (Js rfl rfl) (Law.a1 rfl))))) ef rfl)) (go (Z8 (mB (Qv ?_) (Qv ?_))) (go (Z8 (d8 (Qv ?_))) (go (Z8 (Qv ?_)) (go (Z3 (d:=d3) ?_) (Z9 ?_)))))))
  .refine(Zn (x:=.tup [.str (Str.ofString "end"),p.D]) (y:=.tup [.str (Str.ofString "end"),p.D]) (XJ (c:=.lst l) (by rw[<-ed];rfl)) (Js rfl rfl) (Gh (lM ok.is))).trans ?_
   rw[D.eq_refl]
   rfl
  .refine(Zn (x:=.int (l.length:Int)) (y:=.int (cs:Int)) (Jy (Law.a1 (d:=.lst l) (by rw[ed];exact Zy rfl rfl (aw _ _ _ _))) nA) rfl (yY _ _)).trans ?_
   rw[ll]
   simp
  .refine Jy (Law.a1 (d:=.lst (l.map λ_=>.bl true)) (Ez (Bk (ds:=l) (by rw[ed];exact iz (Zy rfl rfl (aw _ _ _ _))) (by lia) (Hg (λ_=>.bl true) λx hx=>⟨_,rfl,Z5 (aC rfl (aC rfl (Law.a1 rfl))) (tf (on x hx) (ip x hx)) rfl⟩)))) (z9 l)
  .refine(Zn (x:=.str (Str.ofString "many")) (y:=.str (Str.ofString "many")) (Zy (ds:=[.str (Str.ofString "many"),jh,.lst lm]) (i:=0) ?_ rfl (Y3 _ _)) rfl (Gh (by simp[D.dep]))).trans ?_
   .rw[<-r8]
    refine Z5 (aC rfl (aC (nil _) (aC rfl (aC (Js rfl rfl) (Law.a1 (d:=.int (c1:Int)) ?_))))) rb rfl
    refine(Zn (x:=.int (cs:Int)) rfl rfl rfl).trans ?_
    show M.ok (D.int ((cs:Int)-1))=_
    congr 2
    lia
   .rw[D.eq_refl]
    rfl
  .refine Z5 (aC rfl (aC (nil _) (aC rfl (aC (Z5 (aC (Js rfl rfl) (aC rfl (Law.a1 rfl))) (Ij iw ih (t:=3) (by decide) (by decide)) rfl) (Law.a1 (d:=.int ((3*cs:Nat):Int)) ?_))))) rj rfl
   refine(Zn (x:=.int 3) (y:=.int (cs:Int)) rfl rfl (gT (V0 (by decide) (by decide)) (V0 (by lia) (by lia)))).trans ?_
   congr 2
  .refine(Zn (x:=.tup [.str (Str.ofString "end"),.tup [Kp W p.a p.b (1*A.natAbs),Kp H p.c p.d (1*B.natAbs)]]) (y:=.tup [.str (Str.ofString "end"),.tup [Kp W p.a p.b (1*A.natAbs),Kp H p.c p.d (1*B.natAbs)]]) (XJ (c:=.lst l3) (by rw[<-sA];rfl)) (XJ (c:=.lst l1) ?_) (K5 (zf _ _ _ _ _ _ _ _ _))).trans ?_
   .rw[<-sC]
    exact Z5 (aC rfl (aC (nil _) (aC rfl (aC (Z5 (aC (Js rfl rfl) (aC rfl (Law.a1 rfl))) (Ij iw ih (t:=1) (by decide) (by decide)) rfl) (Law.a1 rfl))))) rq rfl
   .rw[D.eq_refl]
end Law
namespace PySem.W.Fast
def tw7220597567519475717:=0
def tw11203268685042354931:=0
def tw3638459775940133647:=0
def tw14412326823440530190:=0
def tw5032650405472704438:=0
def tw3854333987207397291:=0
def tw13150246525953821073:=0
def tw5234713616661780898:=0
def tw7606265776905772897:=0
def tw10668629065458006577:=0
def tw15830394734538789629:=0
def tw16770109572408236517:=0
def tw15684048614513273758:=0
def tw14693071539955283699:=0
def tw11341512948885882529:=0
def tw7730160681068329454:=0
def tw807226935958532468:=0
def tw16153149728723183101:=0
def tw6240663204930005151:=0
def tw14054111884781000303:=0
def tw11741967080864505086:=0
def tw12010160414960274081:=0
def tw1374014443278150624:=0
def tw12210474443722191907:=0
def tw10646371523530927432:=0
def tw17193837829983153865:=0
def tw4885174036432422715:=0
def tw5459977647990134986:=0
def tw465061026043926286:=0
def tw10193224839770900952:=0
def tw16305805203519490551:=0
def tw15686570804401081525:=0
def tw12862352637524188909:=0
def tw7496605703145438295:=0
def tw8785532223976531898:=0
def tw14891443646013754764:=0
def tw7674884105038343776:=0
def tw4700347208637990452:=0
def tw5239987918473435740:=0
def tw3190192368261462017:=0
def tw14892210345465138186:=0
def tw681535964382526616:=0
def tw14628197205427154995:=0
def tw13003576461704428663:=0
def tw4810861990940200418:=0
def tw13504463926541570:=0
def tw7030737435860985694:=0
def tw6880582964923526465:=0
def tw3262134737113556520:=0
def tw17045433237016772550:=0
def tw2434576465925039438:=0
def tw9311230016225957758:=0
def tw15046266092746569309:=0
def tw2087388434151043826:=0
def tw13408934892068689047:=0
def tw18428815390278346337:=0
def tw13659197726173083990:=0
def tw2190257628047160797:=0
def tw825871957698524618:=0
def tw15933479838614482961:=0
def tw8206899742091008758:=0
def tw14623147818377362010:=0
def tw8322505483849092275:=0
def tw13847551047668411320:=0
def tw2922944654397885685:=0
def tw15692339234062419675:=0
def tw17211431053702570351:=0
def tw10617593936744221145:=0
def tw9889887440646454425:=0
def tw2213046216732235626:=0
def tw8357798852327222180:=0
def tw11265642509904704690:=0
def tw2323810539686883196:=0
def tw1807460286241489197:=0
def tw7727960151558315942:=0
def tw12727318084222911638:=0
def tw9838987056333672519:=0
def tw16578759456126961634:=0
def tw14973592701477389334:=0
def tw13798753438738537290:=0
end PySem.W.Fast
open PySem PySem.W PyProof.Rows
-- LAST
set_option maxRecDepth 100000 in
set_option maxHeartbeats 0 in
theorem PySem.Challenge.cw_selfsight_k41_whole_rings_walked_holds : PySem.Challenge.rw_selfsight_k41_whole_rings_walked.Holds := by
  w_on; o_law; k_head; (case hw => w_witness2)
  k_fill
  refine Law.walk (l := PySem.Challenge.rw_selfsight_k41_whole_rings_walked) rfl rfl Law.law_true (fun w h Y => PySem.W.kIn_of Y) ?F
  case F =>
    intro w mg fa h KX G hmg
    refine' Law.all_mk KX G hmg ?t0 ?t1 ?t2 ?t3 ?t4 ?t5 ?t6 ?t7 ?t8 ?t9 ?t10 ?t11 ?t12 ?t13 ?t14 ?t15 ?t16 ?t17 ?t18 ?t19 ?t20 ?t21 ?t22 ?t23 ?t24 ?t25 ?t26 ?t27 ?t28 ?t29 ?t30 ?t31 ?t32 ?t33 ?t34 ?t35 ?t36 ?t37 ?t38 ?t39 ?t40 ?t41 ?t42 ?t43 ?t44 ?t45 ?t46 ?t47 ?t48 ?t49 ?t50 ?t51 ?t52 ?t53 ?t54 ?t55 ?t56 ?t57 ?t58 ?t59 ?t60 ?t61 ?t62 ?t63 ?t64 ?t65 ?t66 ?t67 ?t68 ?t69 ?t70 ?t71 ?t72 ?t73 ?t74 ?t75 ?t76 ?t77 ?t78 ?t79 ?t80
    case t0 | t1 | t2 | t3 | t4 | t5 | t6 | t7 | t8 | t9 | t10 | t11 | t12 | t13 | t14 | t15 | t16 | t17 | t18 | t19 | t20 | t21 | t22 | t23 | t24 | t25 | t26 | t27 | t28 | t29 | t30 | t31 => refine' DL.dm_mk KX G ?a ?l ?c ?k; (case a | l | c | k => k_is)
    case t32 | t33 => k_is
    case t34 | t35 | t36 | t37 | t38 | t39 | t40 | t41 | t42 => refine' DL.mm_mk ?a ?n ?l ?c ?k; (case a | n | l | c | k => k_is)
    case t43 | t44 | t45 | t46 | t47 | t48 | t49 | t50 | t51 | t52 | t53 | t54 | t55 | t56 | t57 | t58 | t59 | t60 | t61 | t62 => k_is
    case t63 => refine' DL.xm_mk KX G ?xa ?xd ?xi ?xl ?xc ?xk ?xp ?xf ?xn ?xe ?xx ?xt ?xh; (case xa | xd | xi | xl | xc | xk | xp | xf | xn => k_is); (case xe | xx | xt | xh => kernel_rfl)
    case t64 | t65 | t66 | t67 | t68 | t69 | t70 | t71 | t72 | t73 | t74 | t75 | t76 | t77 | t78 | t79 => k_is
    case t80 => kernel_rfl

