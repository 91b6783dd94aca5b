import PyProof.Rows.All
import Wide.All
import OpenK.AllK
import Wide.FinOn
import Lean
import PyProof.EqAt
import PyProof.EqKinds
import PyProof.TupleCall
import PyProof.NeKinds
import PyProof.IsiSeqPairs
import PyProof.IsiNone
import KE.KSortTup
import KE.KRevSl
import PySem.Challenge.RW_roofpost_k32_whole_tables_both_ways
set_option Elab.async false
set_option linter.all false
open Array (toList)
open Array.Perm (trans)
open Function (comp)
open List (length map map_nil sum_cons)
open List.Pairwise (filter imp_of_mem of_map)
open List.Perm (swap)
open Option (getD_none map_some)
open PUnit (unit)
open PySem.Builtin.Dict (showsAll)
open PySem.Builtin.Frozenset (newClass slot0 updateFrom)
open PySem.Builtin.List (listSameRef listTouch)
open PySem.Builtin.Range (rangeSize)
open PySem.Builtin.Slice (sliceApplied)
open PySem.Builtin.SmallTypes (stopIteration)
open PySem.Builtin.Tuple (tupleHashOf tupleItemsOf)
open PySem.Data (fields seq)
open PySem.Obj (putSet)
open PySem.Paired (snoc)
open PySem.SeqAt (ne_of_list_tuple)
open PySem.Value (type)
open PySem.W (codeIn methodObj nsIn)
set_option maxRecDepth 100000
open PySem renaming wpAny_bind→a_,Value→b_,wpAny_pure→c_,Shared→d_,starEach→g_,Addr→l_,wpAny→o_,model→s_,sizeLine→x_,Program→C_,Heap→I_,World→J_,wpAny_newObj_type→M_,wpAny_callSpecial?_slot→OM,wpAny_call_entry→ON,wpAny_holding→OT,Expr→OU,wpAny_seqItems→OV,wpAny_field→OX,eval→O1,compareOp→O7,wpAny_setField_rec→O9,backTo→Pa,Stmt→Pb,IsPair→Pd,wpAny_truthy_bool→Pe,sizeLine_eq→Pf,wpAny_setState_of→Ph,NameKind→Pi,codeAny_builtin→Pj,SetTable→Pl,plainId_quiet→Po,wpAny_mono→Pp,foldedSetIterable→Pq,mainGlobals→Pr,swapsWith→Pu,wpAny_isInstance→Pw,behindInMarks→Py,Around→PB,wpAny_of_eq→PC,cLine→PK,sysModules→PU,assignEach→PV,rawInt→PX,Builtin→P3,wpAny_updateSeq→P6,bootBuiltins→P7,wpAny_pyIter_list→P9,wpAny_attempt→Qb,binaryOp→Qe,bindArgs→Qf,wpAny_setField→Qi,wpAny_typeNameOfWhole_keyiter→Qp,wpAny_Call_Name_kw→Qr,FuncData→Qt,pyNext→QF,wpAny_updateSeq_pair→QG,wpAny_letGo→QH,codeAny_mono→QN,letOwnedTupleGo→QX,wpAny_passesOwn→QY,argBest→QZ,sliceBounds→Q6,codeAny→Ra,isSubtype_stop→Rj,ofAClassStatement→Rn,searchCouldBeSeen→Ro,wpAny_pyIter_slot→Rp,wpAny_specialOf→RQ,wpAny_setEntries_of→RT,holding→RV,wpAny_typeOf→RW,Scope→R5,assign→R8,firstArgMember→Sc,wpAny_rule→Se,wpAny_newTuple→Sf,slot_list_getitem→Sr,hashByValue→Sx,pyIter→SB,wpAny_getItem_list_slice→SE,attributeBase→SF,wpAny_comprehension_free→SH,wpAny_onRaise→SJ,lastMarks→SN,noFill_tuple_add→SO,wpAny_pyIter_zip→SS,pickOrder→SW,wpAny_askSetting→SX,Keyword→S3,wpAny_execs_nil→S',IsZip→Tc,builtinLookup_eq_fast→Te,wpAny_isOneOf_keyiter→Ti,keywordEach→Tq,wpAny_tryCatch→Tu,wpAny_fieldsOf→TC,wpAny_runValue→TF,codeAny_extend_loopS→TH,tupleKind→TL,callerA→TM,wpAny_standAt→T3,swapsWithSole→T4,swappedStores→T6,seq_tuple_add→T7,evalPart_none→T9,wpAny_handled→Ub,IsPart→Ud,wpAny_pyIter_tuple→Uf,wpAny_assign_Name→Uk,BindsTo→Ul,concat_meets→Um,ZipApart→Ut,wpAny_pyIter_enum→Uv,collect→Ux,wpAny_storeSet_of→UA,wpAny_dictEntries→UC,DictEntry→UI,updateSeq→UJ,again→UL,seqIndex_of→UN,wpAny_throw→UP,getItem→UR,builtinsNs→UV,isTrue→UW,wpAny_Name→UX,wpAny_load→UY,bindL→U0,bindC→U2,backToKw→U6,call_meets→U7,atKey→U8,raiseNew→Vb,setField→Vc,isInstance→Vj,standAt→Vp,setItem→Vr,typeOf→Vs,newList→Vv,newExc→Vw,setNext→VA
open PySem.Heap renaming get?_push_of_some→e_,get?_push_size→t_,lt_size→H_,get?_update_other→OK,get?_update_self→O0,size_push→P5
open List renaming getElem?_eq_getElem→f_,mem_cons_of_mem→h_,getD_eq_getElem?_getD→i_,mem_cons_self→j_,mem_singleton→n_,getElem?_eq_some_iff→p_,size_toArray→q_,mem_cons→r_,all_eq_true→u_,length_map→w_,length_append→y_,mem_map→z_,mem_filter→A_,getElem?_map→B_,mem_append→D_,map_cons→F_,mem_of_getElem?→K_,mem_append_right→OH,exists_cons_of_length_eq_add_one→OO,length_cons→OQ,length_replicate→OR,flatMap_cons→OS,exists_of_findSome?_eq_some→OW,mem_flatMap→OY,replicate→OZ,drop_eq_getElem_cons→O3,filter_cons_of_pos→O6,length_eq_zero_iff→O8,any_eq_true→O',mem_append_left→O_,nodup_cons→Pc,getElem_mem→Pg,range→Pk,mem_of_mem_take→Ps,getElem?_append_right→Pt,getElem?_eq_none→Pv,filter_cons_of_neg→Px,flatMap_append→PD,mem_range→PF,getElem?_set_ne→PJ,take_length→PP,filter_append→PQ,append_nil→PY,forIn_cons→PZ,getElem?_append_left→P8,append_assoc→P_,zip_cons_cons→Qc,getElem?_replicate→Qg,all_cons→Qh,take_append_drop→Qm,length_filter_le→Qo,getElem?_set_self→Qq,map_append→Qs,take_succ→Qv,length_singleton→Qx,singleton_append→QA,range_succ_eq_map→QC,not_mem_nil→QI,getElem_of_mem→QK,findSome?_eq_none_iff→QM,getElem?_zip_eq_some→QT,length_set→Q1,forIn_nil→Q7,eraseIdx_cons_succ→Q8,length_range→Rf,drop_of_length_le→Rg,drop_eq_nil_of_le→Rk,mergeSort_perm→Rl,map_map→Rr,getElem?_drop→RC,pairwise_cons→RE,length_take→RI,length_drop→RJ,any_cons→RK,getElem_toArray→RN,mem_of_mem_drop→RS,nodup_append→R0,nodup_nil→R4,filterMap_cons→R6,mem_filterMap→R9,find?_cons→Sa,drop_succ_cons→Sb,length_pos_iff→Sg,append_of_mem→Sk,filter_sublist→Sl,map_mergeSort→Sm,pairwise_iff_getElem→Sn,zipIdx_cons→Ss,getElem_map→Su,pairwise_map→Sw,foldl_append→Sy,filter_cons→SA,getElem?_take_of_lt→SC,getElem_range→SG,length_erase_of_mem→SL,find?_eq_none→SM,pairwise_mergeSort→SU,append_inj'→SY,getElem_cons_succ→S7,filter_eq_nil_iff→S9,getElem?_reverse→Th,eq_nil_or_concat→Tj,concat_eq_append→Tk,drop_eq_nil_iff→Tt,take_succ_cons→TN,length_reverse→TV,map_congr_left→TX,findSome?_cons→TY,getElem?_range→TZ,Pairwise→T_,foldl_cons→Uh,flatMap_assoc→Ui,reverse_cons→Uq,ext_getElem?→UD,map_take→UE,find?_append→UF,tail_cons→UK,filter→UQ,set_set→UT,of_mem_zip→U3,length_zip→Vd,Nodup→Vh,any_append→Vl,map_drop→Vm
open Bool renaming false_ne_true→k_,and_eq_true→OP,false_eq_true→QW,eq_iff_iff→Q0,not_true→RG,eq_false_iff→Sz,not_eq_true'→S5,false_and→Tl,and_false→Ts,not_eq_true→TJ,and_true→Ua
open Array renaming getElem?_eq_getElem→m_,getElem?_eq_some_iff→N_,length_toList→O2,getElem?_eq_none→PL,getD_eq_getD_getElem?→P4,getElem_mem→QE,perm_iff_toList_perm→QJ,mem_iff_getElem?→QQ,getElem?_toList→Ru,mem_of_getElem?→Rw,getElem_of_mem→RM,size_extract→RY,forIn_toList→RZ,getElem?_extract→S6,getElem_toList→Tv,mem_toList_iff→Tx,getElem?_push→TR,getD→VB
open Nat renaming le_refl→v_,le_trans→E_,lt_of_lt_of_le→L_,ne_of_lt→OI,zero_le→O5,le_add_right→Pz,lt_irrefl→PR,lt_trichotomy→QV,le_of_lt→Q9,ne_of_gt→Q_,lt_succ_of_lt→RD,lt_or_ge→RL,lt_succ_self→RX,le_of_not_lt→SR,not_lt_zero→Tw,le_succ→Uo,le_of_eq→Ur,le_of_lt_succ→Uy,zero_add→Ve,succ_pos→Vg,not_lt→Vx,mod_lt→Vz
open Option renaming map_eq_some_iff→G_,isSome_iff_exists→Rb
open PyProof.Rows renaming callWith_type1→OJ,slot_tuple_getitem→Qd,callWith_builtin1→Ry,seqObj→RB,AllBare→So,envOfC→S0,subscriptTail_builtinR→S2,subscriptTail→T',IntsAre→US,IsTup→UU,boot_range→UZ,Subscript_→U5,Call_→Vo
open Option.some renaming inj→OL
open Ne renaming symm→O4
open PySem.SetTable renaming insertAt→Pn,runEnd→Qz,below→Rv,bits→TQ,turns→Vi,leap→Vy
open Int renaming eq_ofNat_of_zero_le→PH,toNat_natCast→Qa,emod_lt_of_pos→Rm,emod_nonneg→Sv,le_trans→S8,le_refl→TK,not_lt→Uj,le_of_lt→Us
open PySem.F renaming slot_zip_next→PM,plain_min_loop→Ql,slot_dict_keyiterator_next→Qu,called_set→Q5,args_zip_next_1→Ri,plain_list_iadd→Rq,entry_zip_next→RA,slot_tuple_iterator_next→Sd,args_tuple_add_2→SQ,entry_tuple_add→S_,plainAttrs_list→Tb,slot_enumerate_next→Td,entry_proto_collect→Tf,plain_proto_collect→Tg,slot_tuple_add→Tn,plain_extend_loop→TU,slot_tuple_hash→Uz,entry_list_iadd→UB
open PySem.Around renaming under_plainId→PN
open PySem.W renaming mg_none_of→P0,keepIn→Qw,fnOf→S1,kas_rev→Uw,less→Va,Looks→Vf,OpenLaw→Vt,WShape→Vu
open PySem.Obj renaming data_mapFields→Qj,isFreed_of_fields→Qy,cls_mapFields→Rh,mapSeq→Rz,mapFields→Uc
open PySem.Builtin.SmallTypes renaming ownedTupleIsFree→Qk,nextOf→S4,ownedTupleHandOut→Uu
open PyProof.Rows.F renaming plain_set_update_loop→Qn,entry_set_update_loop→SV
open Nat.succ renaming inj→QP
open PySem.Str renaming ofString→Re
open PySem.PassesOwn renaming never→Rs
open List.Sublist renaming refl→Rt
open PySem.Data renaming cell→Rx
open PySem.SetTable.layClean renaming free→RF
open Prod.mk renaming injEq→RH
open Classical renaming byContradiction→RP
open Sum renaming inl→RU,inr→SZ
open PySem.Calls renaming Name_function_global→R7,spliced_cons→R_,spliced_nil→Sq
open PySem.SetTable.probe renaming go→Sh
open PySem.Builtin.List renaming listLengthHint→Si,listExtendWith→Sj,listTooLong→UO
open PySem.AutoSeq1 renaming wpAny_loadPart'→SK
open PySem.Builtin.Slice renaming slicePlaces→Tp,sliceAdjust→UM
open ForInStep renaming done→Tz,yield→U_
open List.Perm renaming refl→TB
open PySem.Builtin.Tuple renaming tupleExact→Ue
open PySem.Walks renaming list→Ug
open Iff renaming rfl→UG
open PySem.SeqAt renaming RcNeAt→UH,EqAt→Vn
open Prod renaming ext→U4
open True renaming intro→U9
open Function renaming comp_def→Vk
open False renaming elim→Vq
theorem wSaid:PySem.Challenge.rw_roofpost_k32_whole_tables_both_ways.wellSaid=true:=by decide +kernel
local macro_rules|`(tactic|omega)=>`(tactic|first|with_reducible decide|with_reducible assumption|with_reducible (refine Nat.le_trans (m:=?x) ?p ?q;(case p=>assumption);(case q=>decide))|with_reducible (refine Int.le_trans (b:=?x) ?p ?q;(case p=>assumption);(case q=>decide))|with_reducible (refine Int.lt_of_lt_of_le (b:=?x) ?p ?q;(case p=>assumption);(case q=>decide))|with_reducible (refine Nat.lt_of_le_of_lt (m:=?x) ?p ?q;(case p=>assumption);(case q=>decide))|lia|omega (config:={}))
noncomputable section
variable{us vs ae its' gz:List PySem.Value}{a b f z aI l1 l2 fa S:PySem.Addr}{u cd pm ct oc vl vu c0 cf fb:PySem.Value}{h low most:Int}{x y qual q:PySem.Str}{g':Array PySem.GenState}{t' i j k n tk m x1 ep ar kk:Nat}{d':PySem.Drawn}{ch fp:List PySem.Addr}{e tg iter ie:PySem.Expr}{fX aa:List (PySem.Addr×PySem.Obj)}{N N':Int->List Int}{A:PySem.Around}{s' s2 ay:PySem.Shared}{pos aG p1 bj aN p2 py cz tp cB p':PySem.Pos}{c hi:Option Int}{es:Array (Int×PySem.Value)}{p ps rs L aL qs:List (Int×Int)}{op bO:PySem.CmpOp}{fd:PySem.FuncData}{mg:PySem.Str->Option PySem.Value}{base h':PySem.Heap}{scope:PySem.Scope}{params:PySem.Arguments}{an od:Option PySem.Addr}{dW:Array (Option PySem.Value)}{sp neg:Bool}{ws T as:List (List (Int×Int))}{ai cells ah:Array PySem.Value}{l ns:List Int}{args:List PySem.W.WData}{cn:List PySem.Str}{iO a9 bz ak:List PySem.Expr}{env:PySem.Env}{C:Int->Int->Bool}{bt:Nat->Nat->Bool}{eqf:Nat->Bool}{pr:Int×Int}
namespace L2
open PySem PySem.Spec PyProof.Rows
abbrev Key:=Sum Int Str
noncomputable def keyIs:Key->b_->Bool
 | .inl k,v=>b_.isInt k v
 | .inr x,v=>b_.isStrOf x v
noncomputable def keyH(w:J_):Key->Int
 | .inl k=>hashInt k
 | .inr x=>hashStr w x
theorem sX:∀{k:Key}{v:b_},keyIs k v=true->(∃i t,k=RU i/\v=b_.int i t)\/(∃x t,k=SZ x/\v=b_.str x t)
 | .inl i,v,h=>by
  obtain⟨t,e⟩:=b_.isInt_shape (k:=i) (v:=v) h;exact .inl ⟨i,t,rfl,e⟩
 | .inr x,v,h=>by
  obtain⟨t,e⟩:=b_.isStrOf_shape (x:=x) (v:=v) h;exact .inr ⟨x,t,rfl,e⟩
theorem Mv(i:Int)(t:Tok):keyIs (.inl i) (.int i t)=true:=by simp[keyIs,b_.isInt]
theorem L7(x:Str)(t:Tok):keyIs (.inr x) (.str x t)=true:=by simp[keyIs,b_.isStrOf]
theorem JV(a b:Int):decide ((RU a:Key)=RU b)=(a == b):=by
 by_cases e:a=b
 ·subst e;simp
 ·have h:¬(RU a:Key)=RU b:=λq=>e (RU.inj q)
  rw[decide_eq_false h];exact(beq_eq_false_iff_ne.mpr e).symm
theorem Hk(a b:Str):decide ((SZ a:Key)=SZ b)=decide (a=b):=by
 by_cases e:a=b
 ·subst e;simp
 ·have h:¬(SZ a:Key)=SZ b:=λq=>e (SZ.inj q)
  rw[decide_eq_false h,decide_eq_false e]
theorem L0(a:Int)(b:Str):decide ((RU a:Key)=SZ b)=false:=decide_eq_false (λq=>nomatch q)
theorem Hu(a:Str)(b:Int):decide ((SZ a:Key)=RU b)=false:=decide_eq_false (λq=>nomatch q)
noncomputable def mixKind(prog:C_)(w:J_):PySem.KeyKind prog w Key where
 is:=keyIs
 hash:=keyH w
 inj:=λv a b ha hb=>by
  rcases sX ha with⟨i,t,rfl,rfl⟩ | ⟨x,t,rfl,rfl⟩
  ·rcases sX hb with⟨j,u,rfl,e⟩ | ⟨y,u,rfl,e⟩
   ·injection e with e1 _;rw[e1]
   ·exact nomatch e
  ·rcases sX hb with⟨j,u,rfl,e⟩ | ⟨y,u,rfl,e⟩
   ·exact nomatch e
   ·injection e with e1 _;rw[e1]
 byValue:=λk v h=>by
  rcases sX h with⟨i,t,rfl,rfl⟩ | ⟨x,t,rfl,rfl⟩<;>rfl
 pyHash:=λhv h=>by
  rcases sX hv with⟨i,t,rfl,rfl⟩ | ⟨x,t,rfl,rfl⟩
  ·exact wpAny_pyHash_int h
  ·exact wpAny_pyHash_str h
 eqBool:=λhu hv h=>by
  rcases sX hu with⟨i,t,rfl,rfl⟩ | ⟨x,t,rfl,rfl⟩
  ·rcases sX hv with⟨j,u,rfl,rfl⟩ | ⟨y,u,rfl,rfl⟩
   ·rw[JV] at h;exact wpAny_eqBool_int h
   ·rw[L0] at h;exact SeqAt.EqAt.int_str i t y u _ _ _ _ h
  ·rcases sX hv with⟨j,u,rfl,rfl⟩ | ⟨y,u,rfl,rfl⟩
   ·rw[Hu] at h;exact SeqAt.EqAt.str_int x t j u _ _ _ _ h
   ·rw[Hk] at h;exact wpAny_eqBool_str h
 «strs»:=λk x t v h=>by
  rcases sX h with⟨i,u,rfl,e⟩ | ⟨y,u,rfl,e⟩
  ·exact nomatch e
  ·injection e with e1 _
   subst e1;cases v<;>rfl
theorem JU(prog:C_)(w:J_)(i:Int)(t:Tok):(mixKind prog w).is (.inl i) (.int i t)=true:=Mv i t
theorem LH(prog:C_)(w:J_)(x:Str)(t:Tok):(mixKind prog w).is (.inr x) (.str x t)=true:=L7 x t
inductive V where
 | non | bl (b:Bool) | int (i:Int) | str (x:Str) | byt (b:Array UInt8) | flt (b:UInt64) | ref (a:l_) | ty (n:String)
 deriving DecidableEq
def RelV:V->b_->Prop
 | .non,u=>u=b_.none
 | .bl b,u=>u=b_.bool b
 | .int i,u=>∃t,u=b_.int i t
 | .str x,u=>∃t,u=b_.str x t
 | .byt b,u=>∃t,u=b_.bytes b t
 | .flt b,u=>∃t,u=b_.float b t
 | .ref a,u=>u=b_.ref a
 | .ty n,u=>u=type n
abbrev Vals:List V->List b_->Prop:=Paired RelV
theorem Vals.length{xs:List V}(r:Vals xs us):xs.length=us.length:=Paired.length r
theorem Vals.get:∀{xs:List V}{us:List b_}{i:Nat}{x:V},Vals xs us->xs[i]?=some x->∃u,us[i]?=some u/\RelV x u
 | _,_,_,_,.nil,e=>by simp at e
 | _,_,0,_,.cons r _,e=>by simp at e;subst e;exact⟨_,rfl,r⟩
 | _,_,i+1,x,.cons _ t,e=>by
  obtain⟨u,h1,h2⟩:=Vals.get (i:=i) (x:=x) t (by simpa using e);exact⟨u,by simpa using h1,h2⟩
theorem Vals.set{x:V}{u:b_}(r:RelV x u):∀{xs:List V}{us:List b_} (i:Nat),Vals xs us->Vals (xs.set i x) (us.set i u)
 | _,_,_,.nil=>.nil
 | _,_,0,.cons _ t=>.cons r t
 | _,_,i+1,.cons q t=>.cons q (Vals.set r i t)
theorem Vals.append:∀{xs ys:List V}{us ws:List b_},Vals xs us->Vals ys ws->Vals (xs++ys) (us++ws)
 | _,_,_,_,.nil,s=>s
 | _,_,_,_,.cons r t,s=>.cons r (Vals.append t s)
theorem Vals.take:∀{xs:List V}{us:List b_} (n:Nat),Vals xs us->Vals (xs.take n) (us.take n)
 | _,_,0,_=>.nil
 | _,_,_+1,.nil=>.nil
 | _,_,n+1,.cons r t=>.cons r (Vals.take n t)
theorem Vals.drop:∀{xs:List V}{us:List b_} (n:Nat),Vals xs us->Vals (xs.drop n) (us.drop n)
 | _,_,0,r=>r
 | _,_,_+1,.nil=>.nil
 | _,_,n+1,.cons _ t=>Vals.drop n t
def RelO:Option V->Option b_->Prop
 | some v,some u=>RelV v u
 | none,none=>True
 | _,_=>False
def KV{κ:Type}:List (κ×V)->List (κ×b_)->Prop:=Paired λ(p:κ×V) (q:κ×b_)=>p.1=q.1/\RelV p.2 q.2
noncomputable def kV:Key->V
 | .inl i=>.int i
 | .inr x=>.str x
inductive HO where
 | lst (xs:List V)
 | tup (xs:List V)
 | dK (ag:List (Key×V)) | dT (ag:List (List Key×V))
 | set (S:Int->Bool) (n:Nat)
 | ins (C dx:l_) (fs:List (Str×V))
 | own (x:l_)
 | xd (fs:List (Str×V))
 | met (f x:l_)
 | rng (lo hi:Int)
 | frz (o:Obj) (u:HO)
 | tbl (ps:Array b_)
 | ext (φ:I_->Prop)
abbrev Hp:=l_->Option HO
noncomputable def upd(H:Hp)(a:l_)(o:HO):Hp:=λb=>if b=a then some o else H b
theorem rn{H:Hp}{o:HO}:upd H a o a=some o:=by unfold upd;rw[if_pos rfl]
theorem qX{H:Hp}{o:HO}(h:b≠a):upd H a o b=H b:=by unfold upd;rw[if_neg h]
theorem Fq{H:Hp}{o u:HO}(h:H a=some o)(h':H b=some u)(d:o≠u):a≠b:=by
 intro e;subst e;rw[h] at h';exact d (OL h')
theorem sK{H:Hp}{o:HO}(h:H a=some o)(h':H b=none):a≠b:=by
 intro e;subst e;rw[h] at h';cases h'
section
variable (P:C_)(w:J_)
def ObjOk(H:Hp)(h:I_)(a:l_):HO->Prop
 | .lst xs=>xs.length<=x_/\∃(ae:List b_) (n:Nat),Vals xs ae/\h.get? a=some { cls:=.type "list", data:=.seq ae.toArray n }
 | .tup xs=>xs.length<=x_/\∃ae:List b_,Vals xs ae/\UU h a ae.toArray
 | .dK ag=>ag.length<=x_/\(a == PU)=false/\∃vs,KV ag vs/\h.DictOf (mixKind P w) a vs
 | .dT ag=>ag.length<=x_/\(a == PU)=false/\∃xs:List (List Key×l_×b_),
   Paired (λ(p:List Key×V) (q:List Key×l_×b_)=>p.1=q.1/\H q.2.1=some (.tup (p.1.map kV))/\RelV p.2 q.2.2) ag xs ∧
   ∃o es ep,h.get? a=some o/\o.ExactDict/\o.data=.dict es ep/\es.toList=xs.map (entryOfKey (TL (mixKind P w)))/\(xs.map (·.1)).Nodup
 | .set S n=>h.SetOf (intKind P w) a S n
 | .ins C dx fs=>H dx=some (.own a)/\fs.length<=1000/\dx≠a/\h.get? a=some (PySem.W.instObj C dx) ∧
   ∃mA,h.Ns1 dx mA/\(∀f,RelO (fs.lookup f) (mA f))/\PySem.Within mA (fs.map (·.1))
 | .own _=>∃o,h.get? a=some o
 | .xd fs=>∃mA,h.Ns1 a mA/\∀f,RelO (fs.lookup f) (mA f)
 | .rng lo hi=>∃t u v,h.get? a=some { cls:=.type "range", data:=.fields #[.int lo t,.int hi u,.int 1 v] }
 | .frz o u=>h.get? a=some o/\ObjOk H h a u
 | .tbl ps=>h.get? a=some { cls:=.none,data:=.fields ps }
 | .met f x=>h.get? a=some (methodObj (.ref f) (.ref x))
 | .ext φ=>φ h/\(∃o,h.get? a=some o)/\∀h1 h2:I_,φ h1->(∀o,h1.get? a=some o->h2.get? a=some o)->φ h2
def HOk(H:Hp)(h:I_):Prop:=∀a o,H a=some o->ObjOk P w H h a o
end
section
variable{P:C_}{w:J_}{H H':Hp}{h:I_}{o:HO}
theorem ObjOk.lt(x:ObjOk P w H h a o):a < h.objs.size:=by
 cases o with
 | lst xs=>obtain⟨_,_,_,_,e⟩:=x;exact H_ e
 | tup xs=>obtain⟨_,_,_,p⟩:=x;exact p.lt
 | dK ag=>obtain⟨_,_,_,_,o,_,_,e,_⟩:=x;exact H_ e
 | dT ag=>obtain⟨_,_,_,_,o,_,_,e,_⟩:=x;exact H_ e
 | set S n=>obtain⟨o,_,_,_,e,_⟩:=x;exact H_ e
 | ins C dx fs=>obtain⟨_,_,_,e,_⟩:=x;exact H_ e
 | own y=>obtain⟨_,e⟩:=x;exact H_ e
 | xd fs=>obtain⟨_,⟨_,_,_,e,_⟩,_⟩:=x;exact H_ e
 | rng lo hi=>obtain⟨_,_,_,e⟩:=x;exact H_ e
 | frz ob u=>obtain⟨e,_⟩:=x;exact H_ e
 | tbl ps=>exact H_ (show h.get? a=some _ from x)
 | met f y=>exact H_ (show h.get? a=some _ from x)
 | ext φ=>obtain⟨_,⟨_,e⟩,_⟩:=x;exact H_ e
theorem Paired.mapP{α β:Type}{F G:α->β->Prop}:∀{jz:List α}{jA:List β},Paired F jz jA->(∀a b,F a b->G a b)->Paired G jz jA
 | _,_,.nil,_=>.nil
 | _,_,.cons r t,f=>.cons (f _ _ r) (Paired.mapP t f)
theorem ObjOk.stay(x:ObjOk P w H h a o)(k:∀b u,(b=a\/H b=some (.own a))->h.get? b=some u->h'.get? b=some u)(ho:∀b,H b=some (.own a)->H' b=some (.own a))(ht:∀b xs,H b=some (.tup xs)->H' b=some (.tup xs)):ObjOk P w H' h' a o:=by
 induction o with
 | lst xs=>obtain⟨z,ae,n,r,e⟩:=x;exact⟨z,ae,n,r,k _ _ (.inl rfl) e⟩
 | tup xs=>obtain⟨z,ae,r,ob,e,c⟩:=x;exact⟨z,ae,r,ob,k _ _ (.inl rfl) e,c⟩
 | dK ag=>obtain⟨z,y,vs,r,ob,es,ep,e,c⟩:=x;exact⟨z,y,vs,r,ob,es,ep,k _ _ (.inl rfl) e,c⟩
 | dT ag =>
  obtain⟨z,y,xs,r,ob,es,ep,e,c⟩:=x;exact⟨z,y,xs,Paired.mapP r λp q z=>⟨z.1,ht _ _ z.2.1,z.2.2⟩,ob,es,ep,k _ _ (.inl rfl) e,c⟩
 | set S n=>obtain⟨ob,es,ep,t,e,c⟩:=x;exact⟨ob,es,ep,t,k _ _ (.inl rfl) e,c⟩
 | ins C dx fs =>
  obtain⟨d,z,ne,e,mA,⟨od,es,ep,e2,c⟩,r⟩:=x;exact⟨ho _ d,z,ne,k _ _ (.inl rfl) e,mA,⟨od,es,ep,k _ _ (.inr d) e2,c⟩,r⟩
 | own y=>obtain⟨ob,e⟩:=x;exact⟨ob,k _ _ (.inl rfl) e⟩
 | xd fs=>obtain⟨mA,⟨od,es,ep,e,c⟩,r⟩:=x;exact⟨mA,⟨od,es,ep,k _ _ (.inl rfl) e,c⟩,r⟩
 | rng lo hi=>obtain⟨t,u,v,e⟩:=x;exact⟨t,u,v,k _ _ (.inl rfl) e⟩
 | frz ob u ih=>obtain⟨e,q⟩:=x;exact⟨k _ _ (.inl rfl) e,ih q⟩
 | tbl ps =>
  have e:h.get? a=some { cls:=.none,data:=.fields ps }:=x;show h'.get? a=some { cls:=.none,data:=.fields ps };exact k a _ (.inl rfl) e
 | met f y =>
  have e:h.get? a=some (methodObj (.ref f) (.ref y)):=x;show h'.get? a=some (methodObj (.ref f) (.ref y));exact k a _ (.inl rfl) e
 | ext φ=>obtain⟨p,⟨o,e⟩,st⟩:=x;exact⟨st _ _ p λo q=>k _ _ (.inl rfl) q,⟨o,k _ _ (.inl rfl) e⟩,st⟩
theorem HOk.lt(x:HOk P w H h)(e:H a=some o):a < h.objs.size:=(x a o e).lt
theorem HOk.fresh(x:HOk P w H h)(e:h.objs.size<=a):H a=none:=by
 cases q:H a with
 | none=>rfl
 | some u=>exact absurd (L_ (x.lt q) e) (PR _)
theorem HOk.kept(x:HOk P w H h)(k:∀b u,h.get? b=some u->h'.get? b=some u):HOk P w H h':=λa o e =>
 (x a o e).stay (λb u _ q=>k b u q) (λ_ q=>q) λ_ _ q=>q
theorem HOk.laid(x:HOk P w H h)(k:∀b u,h.get? b=some u->h'.get? b=some u)(hp:h.objs.size<=a)(new:ObjOk P w (upd H a o) h' a o):HOk P w (upd H a o) h':=λb u e=>by
 have hn:=x.fresh hp;by_cases hb:b=a
 ·subst hb;rw[rn] at e;cases e;exact new
 ·rw[qX hb] at e;exact(x b u e).stay (λc v _ q=>k c v q) (λc q=>by rw[qX (sK q hn)];exact q) λc xs q=>by rw[qX (sK q hn)];exact q
end
def Rd(H:Hp)(a:l_)(u:HO):Prop:=H a=some u\/∃o,H a=some (.frz o u)
theorem Rd.ok{P:C_}{w:J_}{H:Hp}{h:I_}{u:HO}(r:Rd H a u)(x:HOk P w H h):ObjOk P w H h a u:=by
 rcases r with r | ⟨o,r⟩
 ·exact x a u r
 ·obtain⟨_,q⟩:=x a _ r;exact q
def Mut:Option HO->Prop
 | some (.lst _)=>True
 | some (.dK _)=>True
 | some (.dT _)=>True
 | some (.set _ _)=>True
 | some (.ins _ _ _)=>True
 | some (.ext _)=>True
 | _=>False
section
variable{P:C_}{w:J_}{H:Hp}{h:I_}{x e:l_}{o':HO}
theorem HOk.write(ok:HOk P w H h)(mu:Mut (H x))(he:e=x\/H e=some (.own x))(k:∀b u,b≠e->h.get? b=some u->h'.get? b=some u)(fI:∃u,h'.get? e=some u)(new:ObjOk P w (upd H x o') h' x o'):HOk P w (upd H x o') h':=λb u q=>by
 have jB:∀c y,H c=some (.own y)->c≠x:=λc y r z=>by subst z;rw[r] at mu;exact mu
 have k5:∀c xs,H c=some (.tup xs)->c≠x:=λc xs r z=>by subst z;rw[r] at mu;exact mu
 by_cases hb:b=x
 ·subst hb;rw[rn] at q;cases q;exact new
 ·rw[qX hb] at q;by_cases c8:b=e
  ·have q':H b=some (.own x):=by
    rcases he with z | z
    ·exact absurd (c8.trans z) hb
    ·rw[c8];exact z
   rw[q] at q';cases q';obtain⟨v,hv⟩:=fI;exact⟨v,by rw[c8];exact hv⟩
  ·refine(ok b u q).stay (λc v hc r=>k c v ?_ r) (λc r=>by rw[qX (jB c b r)];exact r) λc xs r=>by rw[qX (k5 c xs r)];exact r
   rcases hc with rfl | hc
   ·exact c8
   ·rintro rfl
    rcases he with z | z
    ·exact jB c b hc z
    ·rw[hc] at z;cases z;exact hb rfl
end
structure Un(fs ex:List l_)(H H':Hp)(h h':I_):Prop where
 keep:∀b o,h.get? b=some o->H b=none->b∉fs->b∉ex->h'.get? b=some o
 slot:∀b o,h.get? b=some o->H b=none->b∈fs->b∉ex->∃sl,h'.get? b=some { o with slots:=sl }
 free:∀b o,h.get? b=some o->H b=none->b∉ex->H' b=none
 there:∀b o,h.get? b=some o->b∉ex->∃o',h'.get? b=some o'
 tups:∀b xs,H b=some (.tup xs)->H' b=some (.tup xs)
 frzs:∀b o u,H b=some (.frz o u)->H' b=some (.frz o u)
 tbls:∀b ps,H b=some (.tbl ps)->∃more,H' b=some (.tbl (ps++more))
section
variable{fs nI ex qj:List l_}{H H1 H2:Hp}{h h1 h2:I_}{x e:l_}{o:HO}
theorem Un.any(u:Un fs ex H H1 h h1){ob:Obj}(q:h.get? b=some ob)(n:H b=none)(hx:b∉ex):∃sl,h1.get? b=some { ob with slots:=sl }:=by
 by_cases hb:b∈fs
 ·exact u.slot b ob q n hb hx
 ·exact⟨ob.slots,u.keep b ob q n hb hx⟩
theorem Un.kept(k:∀b u,h.get? b=some u->h'.get? b=some u):Un fs ex H H h h':=
 ⟨λb ob q _ _ _=>k b ob q,λb ob q _ _ _=>⟨ob.slots,k b ob q⟩,λ_ _ _ n _=>n,λb ob q _=>⟨ob,k b ob q⟩,λ_ _ q=>q,λ_ _ _ q=>q,λ_ ps q=>⟨#[],by rw[q];simp⟩⟩
theorem Un.refl:Un fs ex H H h h:=Un.kept λ_ _ q=>q
theorem Un.laid(k:∀b u,h.get? b=some u->h'.get? b=some u)(hp:h.objs.size<=a)(hn:H a=none):Un fs ex H (upd H a o) h h' where
 keep:=λb u q _ _ _=>k b u q
 slot:=λb u q _ _ _=>⟨u.slots,k b u q⟩
 free:=λb u q n _=>by rw[qX (OI (L_ (H_ q) hp))];exact n
 there:=λb u q _=>⟨u,k b u q⟩
 tups:=λb xs q=>by rw[qX (sK q hn)];exact q
 frzs:=λb u xs q=>by rw[qX (sK q hn)];exact q
 tbls:=λb ps q=>⟨#[],by rw[qX (sK q hn),q];simp⟩
theorem Un.write(mu:Mut (H x))(he:e=x\/H e=some (.own x))(k:∀b u,b≠e->h.get? b=some u->h'.get? b=some u)(fI:∃u,h'.get? e=some u):Un fs ex H (upd H x o) h h':=by
 have hx:∀b,H b=none->b≠x:=λb n z=>by subst z;rw[n] at mu;exact mu
 have hb:∀b,H b=none->b≠e:=λb n z=>by
  subst z
  rcases he with r | r
  ·exact hx b n r
  ·rw[n] at r;cases r
 have hm:∀b u,H b=some u->¬Mut (some u)->b≠x:=λb u q nm z=>by subst z;rw[q] at mu;exact nm mu
 refine⟨λb u q n _ _=>k b u (hb b n) q,λb u q n _ _=>⟨u.slots,k b u (hb b n) q⟩,λb u q n _=>by rw[qX (hx b n)];exact n,λb u q _=>?_,
  λb xs q=>by rw[qX (hm b _ q λz=>z)];exact q,λb u xs q=>by rw[qX (hm b _ q λz=>z)];exact q,λb ps q=>⟨#[],by rw[qX (hm b _ q λz=>z),q];simp⟩⟩
 by_cases c8:b=e
 ·subst c8;exact fI
 ·exact⟨u,k b u c8 q⟩
end
noncomputable def trk(h:I_)(H:Hp):List l_:=(Pk h.objs.size).filter λa=>(H a).isSome
noncomputable def hidT(h:I_)(H:Hp):I_:=PySem.W.hideAll h (trk h H)
theorem GT(h:I_)(H:Hp):(hidT h H).objs.size=h.objs.size:=PySem.W.hideAll_size _ _
theorem FX{h:I_}{H:Hp}{o:Obj}(e:h.get? b=some o)(n:H b=none):(hidT h H).get? b=some o:=
 PySem.W.hideAll_get _ e λhm=>by
  have q:(H b).isSome=true:=(A_.mp hm).2;rw[n] at q;simp at q
theorem FM{h:I_}{H:Hp}{o:Obj}(e:(hidT h H).get? b=some o):h.get? b=some o/\H b=none:=by
 have e':h.get? b=some o:=PySem.W.of_hideAll (trk h H) e;refine⟨e',?_⟩;cases q:H b with
 | none=>rfl
 | some x =>
  have hm:b∈trk h H:=A_.mpr ⟨PF.mpr (H_ e'),by simp[q]⟩;have z:(hidT h H).get? b=none:=PySem.W.hideAll_none (trk h H) hm;rw[z] at e;cases e
structure Mod(K:PySem.W.Frag)(mg:Str->Option b_)(base:I_):Prop where
 kin:K.In base
 glob:base.Ns Pr mg
 blt:∃mb,base.Ns UV mb/\∀x:Str,x ≠ "__name__"->mb x=P7 x
 nolimit:base.NoLimit
structure Cx where
 prog:C_
 w:J_
 K:PySem.W.Frag
 mg:Str->Option b_
 base:I_
 A:PB
 N:List Str
 s₀:d_
 H₀:Hp
 env:Env
 outer:List Env
 stack:List Env
 ex:List l_
 fn:Str->Bool
 calm:Bool
 pn:List (l_×Obj)
 xe:b_->d_->Prop
noncomputable def frs(l:List Env):List l_:=l.filterMap (·.frame)
noncomputable abbrev Cx.fs(X:Cx):List l_:=frs X.outer
def Vis(sc:R5)(x:Str):Prop:=sc.names.lookup x=some .local\/sc.names.lookup x=some .cell\/sc.names.lookup x=some .free
def Loc(sc:R5)(x:Str):Prop:=sc.names.lookup x=some .local\/sc.names.lookup x=some .cell
noncomputable def visB(s:R5)(x:Str):Bool:=match s.names.lookup x with|some .local=>true|some .cell=>true|some .free=>true|_=>false
noncomputable def locB(s:R5)(x:Str):Bool:=match s.names.lookup x with|some .local=>true|some .cell=>true|_=>false
noncomputable def fnB(X:Cx)(x:Str):Bool:=X.fn x||match X.env.scope.names.lookup x with|some .local=>true|_=>false
theorem visI{s:R5}(h:visB s x=true):Vis s x:=by
 unfold visB at h;unfold Vis;split at h<;>simp_all
theorem locI{s:R5}(h:locB s x=true):Loc s x:=by
 unfold locB at h;unfold Loc;split at h<;>simp_all
theorem fnI{X:Cx}(h:fnB X x=true):X.fn x=true\/X.env.scope.names.lookup x=some .local:=by
 unfold fnB at h;cases e:X.fn x with
 | true=>exact .inl rfl
 | false=>rw[e,Bool.false_or] at h;split at h<;>simp_all
def Look(env:Env)(h:I_)(m:Str->Option b_)(x:Str)(u:b_):Prop:=
 (env.kindOf x=some .local/\m x=some u)\/((env.kindOf x=some .cell\/env.kindOf x=some .free)/\∃c,env.cells.lookup x=some c/\h.IsCell c (some u))
structure Cx.Ok(X:Cx):Prop where
 mod:Mod X.K X.mg X.base
 kind:X.env.scope.kind=.function
 glob:X.env.globals=Pr
 blt:X.env.builtins=UV
 above:X.s₀.heap.objs.size<=X.env.locals
 inj:∀x y c,X.env.cells.lookup x=some c->X.env.cells.lookup y=some c->x=y
 has:∀x,(X.env.kindOf x=some .cell\/X.env.kindOf x=some .free)->∃c,X.env.cells.lookup x=some c
 cab:∀x c,X.fn x=true->X.env.cells.lookup x=some c->X.s₀.heap.objs.size<=c
 hd:X.calm=true->X.A.handled=none
 frames:X.A.frames=some X.stack
 stk:X.stack=X.outer\/(X.stack=X.env::X.outer/\X.env.frame=some X.env.locals)
 exf:∀b∈X.ex,b≠X.env.locals/\∀x c,X.env.cells.lookup x=some c->c≠b
 bs:∀b o,X.base.get? b=some o->X.s₀.heap.get? b=some o/\X.H₀ b=none
 bsz:X.base.objs.size<=X.s₀.heap.objs.size
 noex:∀b o,X.base.get? b=some o->b∉X.ex
 exfs:∀b∈X.ex,b∉X.fs
 funs:X.s₀.heap.FunFrames X.base X.outer
 frf:∀b∈X.fs,X.H₀ b=none
structure Inv(X:Cx)(aa:List (l_×Obj))(U:List (Option V))(H:Hp)(s:d_):Prop where
 ok:X.Ok
 os:s.os=X.s₀.os
 bare:So s.gens
 base:Un X.fs X.ex X.H₀ H X.s₀.heap s.heap
 loc:∃m,s.heap.Ns X.env.locals m/\∀(i:Nat) (x:Str) (v:V),X.N[i]?=some x->U[i]?=some (some v)->Vis X.env.scope x->∃u,RelV v u/\Look X.env s.heap m x u
 cell:∀x c,X.env.cells.lookup x=some c->∃v,s.heap.IsCell c v
 free:H X.env.locals=none
 freeC:∀x c,X.env.cells.lookup x=some c->H c=none
 pin:∀p∈X.pn++aa,s.heap.get? p.1=some p.2/\H p.1=none/\p.1≠X.env.locals/\p.1∉X.fs/\∀v,p.2.data≠.cell v
 hok:HOk X.prog X.w H s.heap
 len:U.length=X.N.length
section
variable{X:Cx}{U:List (Option V)}{H H':Hp}{s:d_}
theorem Cx.Ok.nofr(ok:X.Ok){o:Obj}(e:X.base.get? b=some o):b∉X.fs:=λhb=>by
 have:=(ok.funs.mem hb).1;rw[e] at this;cases this
theorem Inv.bs(I:Inv X aa U H s):∀b o,X.base.get? b=some o->s.heap.get? b=some o/\H b=none:=λb o e =>
 ⟨I.base.keep b o (I.ok.bs b o e).1 (I.ok.bs b o e).2 (I.ok.nofr e) (I.ok.noex b o e),I.base.free b o (I.ok.bs b o e).1 (I.ok.bs b o e).2 (I.ok.noex b o e)⟩
theorem Inv.bk(I:Inv X aa U H s):∀b o,X.base.get? b=some o->s.heap.get? b=some o:=λb o e=>(I.bs b o e).1
theorem Inv.mod(I:Inv X aa U H s):Mod X.K X.mg X.base:=I.ok.mod
theorem Inv.kIn(I:Inv X aa U H s):X.K.In s.heap:=I.ok.mod.kin.keeps I.bk
theorem Inv.lt(I:Inv X aa U H s):X.env.locals < s.heap.objs.size:=let ⟨_,hn,_⟩:=I.loc;hn.lt
theorem Inv.sz(I:Inv X aa U H s):X.s₀.heap.objs.size<=s.heap.objs.size:=E_ I.ok.above (Q9 I.lt)
theorem Inv.nofs(I:Inv X aa U H s)(h:s.heap.objs.size<=a):a∉X.fs:=λhb=>by
 obtain⟨_,o,ho,_⟩:=I.ok.funs.mem hb;exact absurd (L_ (H_ ho) (E_ I.sz h)) (PR _)
theorem Inv.cne(I:Inv X aa U H s):∀x c,X.env.cells.lookup x=some c->c≠X.env.locals:=λx c e z=>by
 obtain⟨v,o,ho,hd⟩:=I.cell x c e;obtain⟨m,⟨o',es,ep,bN,cg,_⟩,_⟩:=I.loc;rw[z,bN] at ho;cases ho;rw[cg] at hd;cases hd
theorem Inv.funs(I:Inv X aa U H s):s.heap.FunFrames X.base X.outer:=by
 have all:∀(l:List Env),(∀b∈frs l,b∈X.fs)->X.s₀.heap.FunFrames X.base l->s.heap.FunFrames X.base l:=by
  intro l
  induction l with
  | nil=>intro _ _;trivial
  | cons env r ih =>
   intro hs hl;obtain⟨hk,⟨L,o,hf,hn,ho,hd⟩,hr⟩:=hl;have hL:L∈X.fs:=hs L (by unfold frs;rw[R6,hf];exact j_);obtain⟨sl,e⟩:=I.base.slot L o ho (I.ok.frf L hL) hL λz=>I.ok.exfs L z hL
   exact⟨hk,⟨L,_,hf,hn,e,hd⟩,ih (λb hb=>hs b (by unfold frs;rw[R6,hf];exact h_ _ hb)) hr⟩
 exact all X.outer (λ_ hb=>hb) I.ok.funs
theorem Inv.stack(I:Inv X aa U H s):s.heap.FunFrames X.base X.stack:=by
 rcases I.ok.stk with e | ⟨e,hf⟩
 ·rw[e];exact I.funs
 ·rw[e];obtain⟨m,hn,_⟩:=I.loc;refine .cons (by rw[I.ok.kind];decide) hf hn ?_ I.funs;exact I_.get?_none_of_le (E_ I.ok.bsz I.ok.above)
theorem Inv.stkSub(I:Inv X aa U H s):∀b∈frs X.stack,b∈X.env.locals::X.fs:=λb hb=>by
 rcases I.ok.stk with e | ⟨e,hf⟩
 ·rw[e] at hb;exact h_ _ hb
 ·rw[e] at hb;unfold frs at hb;rw[R6,hf] at hb;exact hb
theorem Inv.stkFree(I:Inv X aa U H s):∀b∈frs X.stack,H b=none:=λb hb=>by
 rcases r_.mp (I.stkSub b hb) with e | hb
 ·rw[e];exact I.free
 ·obtain⟨_,o,ho,_⟩:=I.ok.funs.mem hb;exact I.base.free b o ho (I.ok.frf b hb) λz=>I.ok.exfs b z hb
theorem Inv.step(I:Inv X aa U H s)(bm:∀b∈ch,(b∈X.ex\/X.s₀.heap.objs.size<=b)/\b≠X.env.locals/\(∀x c,X.env.cells.lookup x=some c->c≠b)/\∀p∈X.pn++aa,p.1≠b)(keep:∀b o,b≠X.env.locals->b∉X.fs->b∉ch->s.heap.get? b=some o->H b=none->h'.get? b=some o)(slot:∀b o,b≠X.env.locals->b∈X.fs->b∉ch->s.heap.get? b=some o->H b=none->∃sl,h'.get? b=some { o with slots:=sl })(free:∀b o,b∉ch->s.heap.get? b=some o->H b=none->H' b=none)(there:∀b o,b∉ch->s.heap.get? b=some o->∃o',h'.get? b=some o')(tups:∀b xs,H b=some (.tup xs)->H' b=some (.tup xs))(frzs:∀b o u,H b=some (.frz o u)->H' b=some (.frz o u))(tbls:∀b ps,H b=some (.tbl ps)->∃more,H' b=some (.tbl (ps++more)))(ns:∀m,s.heap.Ns X.env.locals m->h'.Ns X.env.locals m)(hok:HOk X.prog X.w H' h')(hg:So g'):
  Inv X aa U H' { s with heap:=h',gens:=g',drawn:=d',toks:=t' }:=by
 have cj:∀b o,X.s₀.heap.get? b=some o->b≠X.env.locals:=λb o e=>OI (L_ (H_ e) I.ok.above)
 have fJ:∀b o,X.s₀.heap.get? b=some o->b∉X.ex->b∉ch:=λb o e hx hb=>by
  rcases(bm b hb).1 with z | z
  ·exact hx z
  ·exact absurd (L_ (H_ e) z) (PR _)
 have fW:∀x c,X.env.cells.lookup x=some c->∀v,s.heap.IsCell c v->h'.IsCell c v:=λx c e v ⟨o,ho,hd⟩=>by
  have cL:c∉ch:=λz=>(bm c z).2.2.1 x c e rfl
  by_cases hc:c∈X.fs
  ·obtain⟨sl,q⟩:=slot c o (I.cne x c e) hc cL ho (I.freeC x c e);exact⟨_,q,hd⟩
  ·exact⟨o,keep c o (I.cne x c e) hc cL ho (I.freeC x c e),hd⟩
 refine⟨I.ok,I.os,hg,⟨λb o e n hb hx=>?_,λb o e n hb hx=>?_,λb o e n hx=>?_,λb o e hx=>?_,λb xs e=>tups b xs (I.base.tups b xs e),λb o xs e=>frzs b o xs (I.base.frzs b o xs e),λb ps e=>?_⟩,?_,λx c e=>?_,?_,λx c e=>?_,λp hp=>?_,hok,I.len⟩
 ·exact keep b o (cj b o e) hb (fJ b o e hx) (I.base.keep b o e n hb hx) (I.base.free b o e n hx)
 ·obtain⟨sl,e1⟩:=I.base.slot b o e n hb hx;obtain⟨nJ,e2⟩:=slot b _ (cj b o e) hb (fJ b o e hx) e1 (I.base.free b o e n hx);exact⟨nJ,e2⟩
 ·obtain⟨o',e1⟩:=I.base.there b o e hx;exact free b o' (fJ b o e hx) e1 (I.base.free b o e n hx)
 ·obtain⟨o',e1⟩:=I.base.there b o e hx;exact there b o' (fJ b o e hx) e1
 ·obtain⟨m1,e1⟩:=I.base.tbls b ps e;obtain⟨m2,e2⟩:=tbls b _ e1;exact⟨m1++m2,by rw[e2,Array.append_assoc]⟩
 ·obtain⟨m,hn,hl⟩:=I.loc;refine⟨m,ns m hn,λi x v e1 e2 e3=>?_⟩;obtain⟨u,r,l⟩:=hl i x v e1 e2 e3;refine⟨u,r,?_⟩
  rcases l with l | ⟨k,c,e,z⟩
  ·exact .inl l
  ·exact .inr ⟨k,c,e,fW x c e _ z⟩
 ·obtain⟨v,z⟩:=I.cell x c e;exact⟨v,fW x c e v z⟩
 ·obtain⟨m,⟨o,_,_,ho,_⟩,_⟩:=I.loc;exact free _ o (λz=>(bm _ z).2.1 rfl) ho I.free
 ·obtain⟨v,o,ho,hd⟩:=I.cell x c e;exact free c o (λz=>(bm c z).2.2.1 x c e rfl) ho (I.freeC x c e)
 ·obtain⟨e,n,ne,nf,d⟩:=I.pin p hp;have cL:p.1∉ch:=λz=>(bm p.1 z).2.2.2 p hp rfl
  exact⟨keep p.1 p.2 ne nf cL e n,free p.1 p.2 cL e n,ne,nf,d⟩
theorem Inv.un(I:Inv X aa U H s)(u:Un X.fs [] H H' s.heap h')(hok:HOk X.prog X.w H' h'):Inv X aa U H' { s with heap:=h',toks:=t' }:=by
 obtain⟨m,⟨o,es,ep,ho,r⟩,_⟩:=id I.loc;obtain⟨sl,hL⟩:=u.any ho I.free (by simp)
 exact I.step (g':=s.gens) (d':=s.drawn) (ch:=[]) (λ_ z=>nomatch z) (λb o _ hb _ e n=>u.keep b o e n hb (by simp)) (λb o _ hb _ e n=>u.slot b o e n hb (by simp)) (λb o _ e n=>u.free b o e n (by simp)) (λb o _ e=>u.there b o e (by simp)) u.tups u.frzs u.tbls (λm' hm=>by
  obtain⟨o',es',jQ,bN,r'⟩:=hm;rw[ho] at bN;cases bN
  exact⟨_,es',jQ,hL,r'⟩) hok I.bare
theorem Inv.call(I:Inv X aa U H s)(u:Un (frs X.stack) ch H H' s.heap h')(hok:HOk X.prog X.w H' h')(hg:So g')(bm:∀b∈ch,(b∈X.ex\/X.s₀.heap.objs.size<=b)/\b≠X.env.locals/\(∀x c,X.env.cells.lookup x=some c->c≠b)/\∀p∈X.pn++aa,p.1≠b):
  Inv X aa U H' { s with heap:=h',gens:=g',drawn:=d',toks:=t' }:=by
 obtain⟨m,⟨o,es,ep,ho,r⟩,_⟩:=id I.loc;obtain⟨sl,hL⟩:=u.any ho I.free λz=>(bm _ z).2.1 rfl
 exact I.step (ch:=ch) bm (λb o hL hb hc e n=>u.keep b o e n (λz=>(r_.mp (I.stkSub b z)).elim hL hb) hc) (λb o _ _ hc e n=>u.any e n hc) (λb o hc e n=>u.free b o e n hc) (λb o hc e=>u.there b o e hc) u.tups u.frzs u.tbls (λm' hm=>by
  obtain⟨o',es',jQ,bN,r'⟩:=hm;rw[ho] at bN;cases bN
  exact⟨_,es',jQ,hL,r'⟩) hok hg
theorem Inv.turned{it:l_}(I:Inv X aa U H s)(k:∀b o,b≠it->s.heap.get? b=some o->h'.get? b=some o)(hn:H it=none)(hL:it≠X.env.locals)(h1:it∈X.ex\/X.s₀.heap.objs.size<=it)(h2:∀x c,X.env.cells.lookup x=some c->c≠it)(h3:∀p∈X.pn++aa,p.1≠it):Inv X aa U H { s with heap:=h',toks:=t' }:=by
 have k6:∀b u,H b=some u->b≠it:=λb u e z=>by rw[z,hn] at e;cases e
 refine I.step (g':=s.gens) (d':=s.drawn) (ch:=[it]) (λb hb=>?_) (λb o _ _ hc e _=>k b o (λz=>hc (by simp[z])) e) (λb o _ _ hc e _=>⟨o.slots,k b o (λz=>hc (by simp[z])) e⟩) (λ_ _ _ _ n=>n)
  (λb o hc e=>⟨o,k b o (λz=>hc (by simp[z])) e⟩) (λ_ _ e=>e) (λ_ _ _ e=>e) (λb ps e=>⟨#[],by rw[e];simp⟩) (λm hm=>?_) (λb u e=>?_) I.bare
 ·have e:b=it:=by simpa using hb
  subst e;exact⟨h1,hL,h2,h3⟩
 ·obtain⟨o,es,ep,ho,r⟩:=hm;exact⟨o,es,ep,k _ o (O4 hL) ho,r⟩
 ·refine(I.hok b u e).stay (λc v hc q=>k c v ?_ q) (λ_ q=>q) λ_ _ q=>q
  rcases hc with z | z
  ·rw[z];exact k6 b u e
  ·exact k6 c _ z
theorem Inv.tok(I:Inv X aa U H s)(t:Nat):Inv X aa U H { s with toks:=t }:=I.un (h':=s.heap) (t':=t) Un.refl I.hok
theorem Inv.kept(I:Inv X aa U H s)(k:∀b u,s.heap.get? b=some u->h'.get? b=some u):Inv X aa U H { s with heap:=h',toks:=t' }:=I.un (Un.kept k) (I.hok.kept k)
theorem Inv.laid{o:HO}(I:Inv X aa U H s)(k:∀b u,s.heap.get? b=some u->h'.get? b=some u)(hp:s.heap.objs.size<=a)(new:ObjOk X.prog X.w (upd H a o) h' a o):
  Inv X aa U (upd H a o) { s with heap:=h',toks:=t' }:=I.un (Un.laid k hp (I.hok.fresh hp)) (I.hok.laid k hp new)
theorem Inv.write{x e:l_}{o:HO}(I:Inv X aa U H s)(mu:Mut (H x))(he:e=x\/H e=some (.own x))(k:∀b u,b≠e->s.heap.get? b=some u->h'.get? b=some u)(fI:∃u,h'.get? e=some u)(new:ObjOk X.prog X.w (upd H x o) h' x o):Inv X aa U (upd H x o) { s with heap:=h',toks:=t' }:=I.un (Un.write mu he k fI) (I.hok.write mu he k fI new)
theorem Inv.pins_of(I:Inv X aa U H s)(h:∀p∈fX,s.heap.get? p.1=some p.2/\H p.1=none/\p.1≠X.env.locals/\p.1∉X.fs/\∀v,p.2.data≠.cell v):Inv X fX U H s:=
 ⟨I.ok,I.os,I.bare,I.base,I.loc,I.cell,I.free,I.freeC,λp hp=>(D_.mp hp).elim (λz=>I.pin p (O_ _ z)) (h p),I.hok,I.len⟩
theorem Aj{N:List Str}(hN:N.Nodup)(a:N[i]?=some x)(b:N[j]?=some x):i=j:=by
 obtain⟨h1,e1⟩:=p_.mp a;obtain⟨h2,e2⟩:=p_.mp b;exact(List.getElem_inj hN).mp (e1.trans e2.symm)
theorem Ca{M:Model}{E:b_->d_->Prop}{v:V}{Q:Unit->d_->Prop}(I:Inv X aa U H s)(hN:X.N.Nodup)(hi:X.N[i]?=some x)(hx:Loc X.env.scope x)(r:RelV v u)(h:∀s',Inv X aa (U.set i (some v)) H s'->(∃a,I_.SameBut a s.heap s'.heap/\(a=X.env.locals\/X.env.cells.lookup x=some a))->Q () s')(hf:X.fn x=true\/X.env.scope.names.lookup x=some .local):o_ M A (storeName X.env x u) Q E s:=by
 obtain⟨m,hn,hl⟩:=id I.loc;have k7:(X.env.scope.kind == .class||(X.env.scope.kind == .module&&X.env.locals != X.env.globals))=false:=by rw[I.ok.kind];rfl
 have jC:i < U.length:=by rw[I.len];exact(p_.mp hi).1
 have cne:=I.cne
 have cM:∀{a:l_}{h':I_},(∃o,s.heap.get? a=some o/\H a=none)->I_.SameBut a s.heap h'->HOk X.prog X.w H h':=λ{a h'} ha hs b ob e=>by
  obtain⟨_,_,fY⟩:=ha;refine(I.hok b ob e).stay (λc w' hc q=>(hs.2 c ?_).trans q) (λ_ q=>q) λ_ _ q=>q
  rintro rfl
  rcases hc with rfl | hc
  ·rw[fY] at e;cases e
  ·rw[fY] at hc;cases hc
 rcases hx with hk | hk
 ·refine wpAny_storeName_local hk hn (λh' fZ hs=>?_) k7;obtain⟨oL,_,_,nK,_⟩:=id hn;refine h _ ⟨I.ok,I.os,I.bare,⟨λb o e n hb hx=>?_,λb o e n hb hx=>?_,I.base.free,λb o e hx=>?_,I.base.tups,I.base.frzs,I.base.tbls⟩,⟨_,fZ,λj y v' e1 e2 e3=>?_⟩,λy c e=>?_,I.free,I.freeC,λp hp=>?_,cM ⟨oL,nK,I.free⟩ hs,by simpa using I.len⟩ ⟨_,hs,.inl rfl⟩
  ·exact(hs.2 b (OI (L_ (H_ e) I.ok.above))).trans (I.base.keep b o e n hb hx)
  ·obtain⟨sl,e1⟩:=I.base.slot b o e n hb hx;exact⟨sl,(hs.2 b (OI (L_ (H_ e) I.ok.above))).trans e1⟩
  ·obtain⟨o',e1⟩:=I.base.there b o e hx;exact⟨o',(hs.2 b (OI (L_ (H_ e) I.ok.above))).trans e1⟩
  ·by_cases hj:j=i
   ·subst hj;rw[hi] at e1;cases e1;rw[Qq jC] at e2;cases e2;exact⟨u,r,.inl ⟨hk,by simp⟩⟩
   ·rw[PJ (O4 hj)] at e2;obtain⟨u',r',q⟩:=hl j y v' e1 e2 e3;refine⟨u',r',?_⟩
    rcases q with⟨k,e⟩ | ⟨k,c,e,z⟩
    ·refine .inl ⟨k,?_⟩;have:y≠x:=λe=>hj (Aj hN e1 (e▸hi))
     simp[this,e]
    ·exact .inr ⟨k,c,e,z.sameBut hs (cne y c e)⟩
  ·obtain⟨w',z⟩:=I.cell y c e;exact⟨w',z.sameBut hs (cne y c e)⟩
  ·obtain⟨e,n,ne,nf,d⟩:=I.pin p hp;exact⟨(hs.2 p.1 ne).trans e,n,ne,nf,d⟩
 ·have jR:X.fn x=true:=by
   rcases hf with z | z
   ·exact z
   ·rw[z] at hk;cases hk
  obtain⟨c,hc⟩:=I.ok.has x (.inl hk);obtain⟨w',z⟩:=I.cell x c hc;refine wpAny_storeName_cell I.ok.kind hk hc z (λh' aJ hs=>?_);obtain⟨oc,k8,k9⟩:=id z;refine h { s with heap:=h' } ⟨I.ok,I.os,I.bare,⟨λb o e n hb hx=>?_,λb o e n hb hx=>?_,I.base.free,λb o e hx=>?_,I.base.tups,I.base.frzs,I.base.tbls⟩,⟨m,hn.sameBut hs (O4 (cne x c hc)),λj y v' e1 e2 e3=>?_⟩,λy c' e=>?_,I.free,I.freeC,λp hp=>?_,cM ⟨oc,k8,I.freeC x c hc⟩ hs,by simpa using I.len⟩ ⟨c,hs,.inr hc⟩
  ·exact(hs.2 b (OI (L_ (H_ e) (I.ok.cab x c jR hc)))).trans (I.base.keep b o e n hb hx)
  ·obtain⟨sl,e1⟩:=I.base.slot b o e n hb hx;exact⟨sl,(hs.2 b (OI (L_ (H_ e) (I.ok.cab x c jR hc)))).trans e1⟩
  ·obtain⟨o',e1⟩:=I.base.there b o e hx;exact⟨o',(hs.2 b (OI (L_ (H_ e) (I.ok.cab x c jR hc)))).trans e1⟩
  ·by_cases hj:j=i
   ·subst hj;rw[hi] at e1;cases e1;rw[Qq jC] at e2;cases e2;exact⟨u,r,.inr ⟨.inl hk,c,hc,aJ⟩⟩
   ·rw[PJ (O4 hj)] at e2;obtain⟨u',r',q⟩:=hl j y v' e1 e2 e3;refine⟨u',r',?_⟩
    rcases q with q | ⟨k,c',e,z'⟩
    ·exact .inl q
    ·refine .inr ⟨k,c',e,z'.sameBut hs ?_⟩;rintro rfl;exact hj (Aj hN e1 (I.ok.inj _ _ _ e hc▸hi))
  ·by_cases jS:c'=c
   ·subst jS;exact⟨_,aJ⟩
   ·obtain⟨w2,z2⟩:=I.cell y c' e;exact⟨w2,z2.sameBut hs jS⟩
  ·obtain⟨e,n,ne,nf,d⟩:=I.pin p hp;refine⟨(hs.2 p.1 ?_).trans e,n,ne,nf,d⟩;intro q;rw[q,k8] at e;have q':oc=p.2:=OL e;exact d w' (by rw[←q'];exact k9)
theorem A2{M:Model}{E:b_->d_->Prop}{v:V}{Q:Unit->d_->Prop}(I:Inv X aa U H s)(hN:X.N.Nodup)(hi:X.N[i]?=some x)(hx:Loc X.env.scope x)(r:RelV v u)(h:∀s',Inv X aa (U.set i (some v)) H s'->Q () s')(hf:X.fn x=true\/X.env.scope.names.lookup x=some .local):o_ M A (storeName X.env x u) Q E s:=
 Ca I hN hi hx r (λs' I' _=>h s' I') hf
theorem Inv.call'(I:Inv X aa U H s)(ho:s'.os=s.os)(u:Un (frs X.stack) ch H H' s.heap s'.heap)(hok:HOk X.prog X.w H' s'.heap)(hg:So s'.gens)(bm:∀b∈ch,(b∈X.ex\/X.s₀.heap.objs.size<=b)/\b≠X.env.locals/\(∀x c,X.env.cells.lookup x=some c->c≠b)/\∀p∈X.pn++aa,p.1≠b):Inv X aa U H' s':=by
 obtain⟨h',g',d',t',o'⟩:=s';have e:o'=s.os:=ho;subst e;exact I.call (g':=g') (t':=t') (d':=d') u hok hg bm
end
abbrev XK:=b_->Option l_->Hp->Prop
abbrev St:=List (Option V)
abbrev VK:=V->Hp->Prop
abbrev TE:=St->Hp->VK->Prop
abbrev TT:=St->Hp->(Bool->Hp->Prop)->Prop
abbrev TA:=St->Hp->(List V->Hp->Prop)->Prop
structure Ends where
 nx:St->Hp->Prop
 rt:VK
 bk:St->Hp->Prop:=λ_ _=>False
 ct:St->Hp->Prop:=λ_ _=>False
abbrev TS:=Ends->St->Hp->Prop
def EP(X:Cx)(aa:List (l_×Obj))(U:St)(Q:VK)(u:b_)(s':d_):Prop:=∃v H',Inv X aa U H' s'/\RelV v u/\Q v H'
def TP(X:Cx)(aa:List (l_×Obj))(U:St)(Q:Bool->Hp->Prop)(b:Bool)(s':d_):Prop:=∃H',Inv X aa U H' s'/\Q b H'
def AP(X:Cx)(aa:List (l_×Obj))(U:St)(Q:List V->Hp->Prop)(us:List b_)(s':d_):Prop:=∃vs H',Inv X aa U H' s'/\Vals vs us/\Q vs H'
def SP(X:Cx)(aa:List (l_×Obj))(D:Ends)(f:Flow)(s':d_):Prop:=
 match f with
 | .next=>∃am H',Inv X aa am H' s'/\D.nx am H'
 | .brk=>∃am H',Inv X aa am H' s'/\D.bk am H'
 | .cont=>∃am H',Inv X aa am H' s'/\D.ct am H'
 | .ret u=>∃v am H',Inv X aa am H' s'/\RelV v u/\D.rt v H'
def PE(X:Cx)(e:OU)(t:TE):Prop:=
 ∀(aa:List (l_×Obj)) (s:d_) (U:St) (H:Hp) (Q:VK),Inv X aa U H s->t U H Q->o_ (s_ X.prog X.w) X.A (O1 e X.env) (EP X aa U Q) X.xe s
def PT(X:Cx)(e:OU)(t:TT):Prop:=
 ∀(aa:List (l_×Obj)) (s:d_) (U:St) (H:Hp) (Q:Bool->Hp->Prop),Inv X aa U H s->t U H Q->o_ (s_ X.prog X.w) X.A (UW e X.env (O1 e X.env)) (TP X aa U Q) X.xe s
def PW(X:Cx)(e:OU)(t:TT):Prop:=
 ∀(bC:Sem b_) (aa:List (l_×Obj)) (s:d_) (U:St) (H:Hp) (Q:Bool->Hp->Prop),Inv X aa U H s->t U H Q->o_ (s_ X.prog X.w) X.A (UW e X.env bC) (TP X aa U Q) X.xe s
def PA(X:Cx)(es:List OU)(t:TA):Prop:=
 ∀(pos:Pos) (aa:List (l_×Obj)) (s:d_) (U:St) (H:Hp) (Q:List V->Hp->Prop),Inv X aa U H s->t U H Q->o_ (s_ X.prog X.w) X.A (spliced (Pa pos (g_ es X.env))) (AP X aa U Q) X.xe s
def PS(X:Cx)(st:Pb)(t:TS):Prop:=
 ∀(aa:List (l_×Obj)) (s:d_) (U:St) (H:Hp) (D:Ends),Inv X aa U H s->t D U H->o_ (s_ X.prog X.w) X.A (exec st X.env) (SP X aa D) X.xe s
def PSs(X:Cx)(st:List Pb)(t:TS):Prop:=
 ∀(aa:List (l_×Obj)) (s:d_) (U:St) (H:Hp) (D:Ends),Inv X aa U H s->t D U H->o_ (s_ X.prog X.w) X.A (execs st X.env) (SP X aa D) X.xe s
theorem thn{α:Type}{t:Sem α}{Q Q':α->d_->Prop}{M:Model}{E:b_->d_->Prop}{s:d_}(h:o_ M A t Q E s)(hQ:∀a s,Q a s->Q' a s):o_ M A t Q' E s:=Pp h hQ λ_ _ x=>x
section
variable {X:Cx}
noncomputable def tVar(i:Nat):TE:=λU H Q=>∃v,U[i]?=some (some v)/\Q v H
noncomputable def tC(v:V):TE:=λ_ H Q=>Q v H
theorem KH(hN:X.N[i]?=some x)(hv:Vis X.env.scope x)(hd:(x == ("__debug__":Str))=false:=by decide)(ck:(x == ("__classdict__":Str))=false:=by decide):PE X (.Name x pos) (tVar i):=by
 intro aa s U H Q I h;obtain⟨v,e,h⟩:=h;obtain⟨m,hn,hl⟩:=I.loc;obtain⟨u,r,l⟩:=hl i x v hN e hv;have fin:EP X aa U Q u s:=⟨v,H,I,r,h⟩
 rcases l with⟨hk,hm⟩ | ⟨hk,c,hc,ge⟩
 ·exact UX (wpAny_loadName_local I.ok.kind hk hn hm fin) hd
 ·rcases hk with hk | hk
  ·exact UX (wpAny_loadName_cell I.ok.kind hk hc ge fin) hd
  ·exact UX (wpAny_loadName_free I.ok.kind hk hc ge fin ck) hd
theorem Lp{i j pos}:PE X (.Constant (.int i) j pos) (tC (.int i)):=λ_ _ _ H _ I h=>wpAny_Constant_int ⟨.int i,H,I.tok _,⟨_,rfl⟩,h⟩
theorem ER{b j pos}:PE X (.Constant (.bool b) j pos) (tC (.bl b)):=λ_ _ _ H _ I h=>Constant_bool ⟨.bl b,H,I,rfl,h⟩
theorem Fj{j pos}:PE X (.Constant .none j pos) (tC .non):=λ_ _ _ H _ I h=>Constant_none ⟨.non,H,I,rfl,h⟩
theorem E5{x j pos}:PE X (.Constant (.str x) j pos) (tC (.str x)):=λ_ _ _ H _ I h=>Calls.Constant_str ⟨.str x,H,I.tok _,⟨_,rfl⟩,h⟩
def Gl(X:Cx)(x:Str):Prop:=X.env.kindOf x=some .globalImplicit
theorem GL{E:b_->d_->Prop}{s:d_}{U:St}{H:Hp}{Q:b_->d_->Prop}(I:Inv X aa U H s)(hg:Gl X x)(hm:X.mg x=some u)(h:Q u s)(hd:(x == ("__debug__":Str))=false:=by decide):o_ (s_ X.prog X.w) X.A (O1 (.Name x pos) X.env) Q E s:=
 R7 I.ok.kind hg (Calls.loadGlobal_global (by rw[I.ok.glob];exact I.mod.glob.keeps I.bk) hm h) hd
theorem sw{E:b_->d_->Prop}{s:d_}{U:St}{H:Hp}{Q:b_->d_->Prop}(I:Inv X aa U H s)(hg:Gl X x)(hm:X.mg x=none)(hv:P7 x=some u)(h:Q u s)(hn:x ≠ "__name__":=by decide)(hd:(x == ("__debug__":Str))=false:=by decide):o_ (s_ X.prog X.w) X.A (O1 (.Name x pos) X.env) Q E s:=by
 obtain⟨mb,h1,h2⟩:=I.mod.blt;exact R7 I.ok.kind hg (Calls.loadGlobal_builtin (by rw[I.ok.glob];exact I.mod.glob.keeps I.bk) hm (by rw[I.ok.blt];exact h1.keeps I.bk) ((h2 x hn).trans hv) h) hd
variable{a b:OU}{ta tb:TE}
noncomputable def tB(t:TE):TT:=λU H Q=>t U H λx H1=>∃c,x=.bl c/\Q c H1
theorem JZ{t:TE}(h:PE X e t)(he:∀bC,UW e X.env bC=(do let v ←bC;Vp e.pos;RV [v] (truthy v)):=by intros;rfl):PT X e (tB t):=by
 intro aa s U H Q I hw;refine isTrue_plain (thn (h aa s U H _ I hw) λv s1 ⟨x,H1,I1,r1,q1⟩=>?_) (he _);obtain⟨d,rfl,q⟩:=q1;cases r1;exact Pe ⟨H1,I1,q⟩
variable{tA iF:TT}
noncomputable def tAnd(t u:TT):TT:=λU H Q=>t U H λc H1=>if c=true then u U H1 Q else Q false H1
noncomputable def tOr(t u:TT):TT:=λU H Q=>t U H λc H1=>if c=true then Q true H1 else u U H1 Q
noncomputable def tNot(t:TT):TT:=λU H Q=>t U H λc H1=>Q (!c) H1
theorem J0(ha:PT X a tA):PW X (.BoolOp .And [a] pos) tA:=by
 intro wh aa s U H Q I h;refine isTrue_and (thn (ha aa s U H Q I h) λc s1 e=>?_);cases c with
 | true=>exact isTrue_and_nil e
 | false=>exact e
theorem Lw(ha:PT X a tA):PW X (.BoolOp .Or [a] pos) tA:=by
 intro wh aa s U H Q I h;refine isTrue_or (thn (ha aa s U H Q I h) λc s1 e=>?_);cases c with
 | false=>exact isTrue_or_nil e
 | true=>exact e
theorem KZ(ha:PT X a tA)(hb:PW X (.BoolOp .And (b::ak) pos) iF):PW X (.BoolOp .And (a::b::ak) pos) (tAnd tA iF):=by
 intro wh aa s U H Q I h;refine isTrue_and (thn (ha aa s U H _ I h) λc s1 ⟨H1,I1,q1⟩=>?_);cases c with
 | true=>exact hb wh aa s1 U H1 Q I1 q1
 | false=>exact⟨H1,I1,q1⟩
theorem Ft(ha:PT X a tA)(hb:PW X (.BoolOp .Or (b::ak) pos) iF):PW X (.BoolOp .Or (a::b::ak) pos) (tOr tA iF):=by
 intro wh aa s U H Q I h;refine isTrue_or (thn (ha aa s U H _ I h) λc s1 ⟨H1,I1,q1⟩=>?_);cases c with
 | true=>exact⟨H1,I1,q1⟩
 | false=>exact hb wh aa s1 U H1 Q I1 q1
theorem L'(ha:PT X a tA):PT X (.UnaryOp .Not a pos) (tNot tA):=by
 intro aa s U H Q I h;exact isTrue_not (ha aa s U H (λc H1=>Q (!c) H1) I h)
noncomputable def tAndV(ta tb:TE):TE:=λU H Q=>ta U H λx H1=>∃c,x=.bl c/\if c=true then tb U H1 Q else Q (.bl false) H1
theorem Lu{op}{t:TE}(h:PE X a t):PE X (.BoolOp op [a] pos) t:=λaa s U H Q I hw=>BoolOp_one (h aa s U H Q I hw)
theorem IC(ha:PE X a ta)(hb:PE X (.BoolOp .And (b::ak) pos) tb):PE X (.BoolOp .And (a::b::ak) pos) (tAndV ta tb):=by
 intro aa s U H Q I h;refine BoolOp_and (thn (ha aa s U H _ I h) λv s1 ⟨x,H1,I1,r1,q1⟩=>?_);obtain⟨c,rfl,q1⟩:=q1;cases r1;refine Pe ?_;cases c with
 | true=>exact hb aa s1 U H1 Q I1 q1
 | false=>exact⟨.bl false,H1,I1,rfl,q1⟩
noncomputable def tIf(t:TT)(ta tb:TE):TE:=λU H Q=>t U H λc H1=>if c=true then ta U H1 Q else tb U H1 Q
theorem Jp{c:OU}(hc:PT X c tA)(ha:PE X a ta)(hb:PE X b tb):PE X (.IfExp c a b pos) (tIf tA ta tb):=by
 intro aa s U H Q I h;refine wpAny_IfExp (thn (hc aa s U H _ I h) λd s1 ⟨H1,I1,q1⟩=>?_);cases d with
 | true=>exact ha aa s1 U H1 Q I1 q1
 | false=>exact hb aa s1 U H1 Q I1 q1
end
def SqL(K:PySem.W.Frag)(H:Hp)(a:l_)(xs:List V):Prop:=
 Rd H a (.lst xs) ∨
  ∃(o:Obj) (ae:Array b_) (n:Nat),K.lookup a=some o/\o.cls=.type "list"/\o.dict=none/\o.data=.seq ae n/\ae.size<=x_/\Vals xs ae.toList
def SqT(K:PySem.W.Frag)(H:Hp)(a:l_)(xs:List V):Prop:=
 Rd H a (.tup xs) ∨
  ∃(o:Obj) (ae:Array b_) (n:Nat),K.lookup a=some o/\o.cls=.type "tuple"/\o.data=.seq ae n/\ae.size<=x_/\Vals xs ae.toList
noncomputable def absV:b_->Option V
 | .none=>some .non
 | .bool b=>some (.bl b)
 | .int i _=>some (.int i)
 | .str x _=>some (.str x)
 | .bytes b _=>some (.byt b)
 | .float b _=>some (.flt b)
 | .ref a=>some (.ref a)
 | .type n=>some (.ty n)
 | _=>none
theorem RelV.abs{x:V}(r:RelV x u):absV u=some x:=by
 cases x with
 | non=>cases r;rfl
 | bl _=>cases r;rfl
 | int _=>obtain⟨t,rfl⟩:=r;rfl
 | str _=>obtain⟨t,rfl⟩:=r;rfl
 | byt _=>obtain⟨t,rfl⟩:=r;rfl
 | flt _=>obtain⟨t,rfl⟩:=r;rfl
 | ref _=>cases r;rfl
 | ty _=>cases r;rfl
theorem RelV.inj{x y:V}(r:RelV x u)(q:RelV y u):x=y:=OL (r.abs.symm.trans q.abs)
theorem Vals.inj:∀{xs ys:List V}{us:List b_},Vals xs us->Vals ys us->xs=ys
 | _,_,_,.nil,.nil=>rfl
 | _,_,_,.cons r t,.cons r' t'=>by rw[r.inj r',Vals.inj t t']
section
variable{X:Cx}{U:St}{H:Hp}{s:d_}{xs ys:List V}
theorem SqL.of{K:PySem.W.Frag}(h:H a=some (.lst xs)):SqL K H a xs:=.inl (.inl h)
theorem SqT.of{K:PySem.W.Frag}(h:H a=some (.tup xs)):SqT K H a xs:=.inl (.inl h)
theorem Inv.list(I:Inv X aa U H s)(h:SqL X.K H a xs):∃ae:List b_,Vals xs ae/\PlainL s.heap a ae.toArray/\xs.length<=x_:=by
 rcases h with h | ⟨o,ae,n,hk,hc,hd,hs,hz,r⟩
 ·obtain⟨z,ae,n,r,e⟩:=h.ok I.hok;exact⟨ae,r,⟨_,n,e,rfl,rfl,rfl⟩,z⟩
 ·refine⟨ae.toList,r,⟨o,n,I.kIn a o hk,hc,hd,by simpa using hs⟩,?_⟩;have e:=r.length;simp only[O2] at e;omega
theorem Inv.tuple(I:Inv X aa U H s)(h:SqT X.K H a xs):∃ae:List b_,Vals xs ae/\UU s.heap a ae.toArray/\xs.length<=x_:=by
 rcases h with h | ⟨o,ae,n,hk,hc,hs,hz,r⟩
 ·obtain⟨z,ae,r,p⟩:=h.ok I.hok;exact⟨ae,r,p,z⟩
 ·refine⟨ae.toList,r,⟨o,I.kIn a o hk,hc,n,by simpa using hs⟩,?_⟩;have e:=r.length;simp only[O2] at e;omega
theorem Inv.list_inj(I:Inv X aa U H s)(h:SqL X.K H a xs)(h':SqL X.K H a ys):xs=ys:=by
 obtain⟨ae,r,⟨o,n,e,_,_,d⟩,_⟩:=I.list h;obtain⟨its',r',⟨o',n',e',_,_,d'⟩,_⟩:=I.list h';rw[e] at e';cases e';rw[d] at d';injection d' with d1 _
 have:ae=its':=by simpa using congrArg toList d1
 subst this;exact r.inj r'
theorem Inv.tuple_inj(I:Inv X aa U H s)(h:SqT X.K H a xs)(h':SqT X.K H a ys):xs=ys:=by
 obtain⟨ae,r,⟨o,e,_,n,d⟩,_⟩:=I.tuple h;obtain⟨its',r',⟨o',e',_,n',d'⟩,_⟩:=I.tuple h';rw[e] at e';cases e';rw[d] at d';injection d' with d1 _
 have:ae=its':=by simpa using congrArg toList d1
 subst this;exact r.inj r'
end
noncomputable abbrev Cx.wish(X:Cx)(E:b_->d_->Prop):Cx:={ X with xe:=E }
noncomputable abbrev Cx.nox(X:Cx):Cx:=X.wish λ_ _=>False
theorem Cx.Ok.wish{X:Cx}(ok:X.Ok)(E:b_->d_->Prop):(X.wish E).Ok:=
 ⟨ok.mod,ok.kind,ok.glob,ok.blt,ok.above,ok.inj,ok.has,ok.cab,ok.hd,ok.frames,ok.stk,ok.exf,ok.bs,ok.bsz,ok.noex,ok.exfs,ok.funs,ok.frf⟩
theorem Cx.Ok.unwish{X:Cx}{E:b_->d_->Prop}(ok:(X.wish E).Ok):X.Ok:=
 ⟨ok.mod,ok.kind,ok.glob,ok.blt,ok.above,ok.inj,ok.has,ok.cab,ok.hd,ok.frames,ok.stk,ok.exf,ok.bs,ok.bsz,ok.noex,ok.exfs,ok.funs,ok.frf⟩
section
variable{X:Cx}{U:St}{H:Hp}{s:d_}{E:b_->d_->Prop}
theorem Inv.wish(I:Inv X aa U H s)(E:b_->d_->Prop):Inv (X.wish E) aa U H s:=⟨I.ok.wish E,I.os,I.bare,I.base,I.loc,I.cell,I.free,I.freeC,I.pin,I.hok,I.len⟩
theorem Inv.unwish(I:Inv (X.wish E) aa U H s):Inv X aa U H s:=⟨I.ok.unwish,I.os,I.bare,I.base,I.loc,I.cell,I.free,I.freeC,I.pin,I.hok,I.len⟩
theorem SP.unwish{D:Ends}{f:Flow}(h:SP (X.wish E) aa D f s'):SP X aa D f s':=by
 cases f with
 | next=>obtain⟨am,H',I,q⟩:=h;exact⟨am,H',I.unwish,q⟩
 | brk=>obtain⟨am,H',I,q⟩:=h;exact⟨am,H',I.unwish,q⟩
 | cont=>obtain⟨am,H',I,q⟩:=h;exact⟨am,H',I.unwish,q⟩
 | ret u=>obtain⟨v,am,H',I,r,q⟩:=h;exact⟨v,am,H',I.unwish,r,q⟩
theorem PSs.nox{st:List Pb}{t:TS}(h:PSs X.nox st t):PSs X st t:=λaa s U H D I hw =>
 Pp (h aa s U H D (I.wish _) hw) (λ_ _ q=>q.unwish) λ_ _ z=>Vq z
end
section
variable{X:Cx}{st:Pb}{ak:List Pb}{t u:TS}{te:TE}
noncomputable def tNext:TS:=λD U H=>D.nx U H
noncomputable def tSeq(t u:TS):TS:=λD U H=>t { D with nx:=u D } U H
theorem LN:PSs X [] tNext:=λ_ _ U H _ I h=>S' ⟨U,H,I,h⟩
theorem LI(h1:PS X st t)(h2:PSs X ak u):PSs X (st::ak) (tSeq t u):=by
 intro aa s U H D I h;refine wpAny_execs_cons (thn (h1 aa s U H { D with nx:=u D } I h) λf s1 q=>?_);cases f with
 | next =>
  obtain⟨am,H',I',q⟩:=q;exact h2 aa s1 am H' D I' q
 | ret v=>exact q
 | brk=>exact q
 | cont=>exact q
theorem JE(h1:PS X st t):PSs X [st] t:=by
 intro aa s U H D I h;refine wpAny_execs_cons (thn (h1 aa s U H D I h) λf s1 q=>?_);cases f with
 | next=>exact S' q
 | ret v=>exact q
 | brk=>exact q
 | cont=>exact q
theorem Inv.quiet{U:St}{H:Hp}{s:d_}(I:Inv X aa U H s):interactive X.env=false:=by simp[interactive,I.ok.kind]
noncomputable def tDrop(te:TE):TS:=λD U H=>te U H λ_ H1=>D.nx U H1
theorem zR(he:PE X e te)(hs:Pu e none pos.line X.env=pure false:=by rfl):PS X (.Expr e pos) (tDrop te):=by
 intro aa s U H D I h;exact wpAny_Expr_any (thn (he aa s U H _ I h) λv s1 ⟨x,H1,I1,r1,q1⟩=>⟨U,H1,I1,q1⟩) I.quiet hs
noncomputable def tRet(te:TE):TS:=λD U H=>te U H D.rt
theorem zh(he:PE X e te):PS X (.Return (some e) pos) (tRet te):=by
 intro aa s U H D I h;exact wpAny_Return_some (thn (he aa s U H _ I h) λv s1 ⟨x,H1,I1,r1,q1⟩=>⟨x,U,H1,I1,r1,q1⟩)
noncomputable def tIfS(c:TT)(t u:TS):TS:=λD U H=>c U H λb H1=>if b=true then t D U H1 else u D U H1
theorem GO{c:OU}{a b:List Pb}{tc:TT}(hc:PT X c tc)(ha:PSs X a t)(hb:PSs X b u):PS X (.If c a b pos) (tIfS tc t u):=by
 intro aa s U H D I h;refine wpAny_If (thn (hc aa s U H _ I h) λd s1 ⟨H1,I1,q1⟩=>?_);cases d with
 | true=>exact ha aa s1 U H1 D I1 q1
 | false=>exact hb aa s1 U H1 D I1 q1
noncomputable def tNever:TS:=λ_ _ _=>False
theorem Ih:PS X st tNever:=λ_ _ _ _ _ _ h=>h.elim
end
abbrev TG:=V->St->Hp->(St->Hp->Prop)->Prop
abbrev TGs:=List V->St->Hp->(St->Hp->Prop)->Prop
def PG(X:Cx)(iG:OU)(t:TG):Prop:=
 ∀(aa:List (l_×Obj)) (s:d_) (U:St) (H:Hp) (v:V) (u:b_) (Q:St->Hp->Prop),Inv X aa U H s->RelV v u->t v U H Q →
  o_ (s_ X.prog X.w) X.A (R8 iG X.env u) (λ_ s'=>∃am H',Inv X aa am H' s'/\Q am H') X.xe s
def PGs(X:Cx)(ts:List OU)(t:TGs):Prop:=
 ∀(aa:List (l_×Obj)) (s:d_) (U:St) (H:Hp) (vs:List V) (us:List b_) (Q:St->Hp->Prop),Inv X aa U H s->Vals vs us->t vs U H Q →
  o_ (s_ X.prog X.w) X.A (assignInOrder ((PV ts X.env).map (·.2)) us) (λ_ s'=>∃am H',Inv X aa am H' s'/\Q am H') X.xe s
abbrev TSet:=V->V->V->Hp->(Hp->Prop)->Prop
def PSet(X:Cx)(t:TSet):Prop:=
 ∀(aa:List (l_×Obj)) (s:d_) (U:St) (H:Hp) (o i v:V) (ov iv u:b_) (Q:Hp->Prop),Inv X aa U H s->RelV o ov->RelV i iv->RelV v u->t o i v H Q →
  o_ (s_ X.prog X.w) X.A (Vr ov iv u) (λ_ s'=>∃H',Inv X aa U H' s'/\Q H') X.xe s
section
variable{X:Cx}
noncomputable def gName(i:Nat):TG:=λv U H Q=>Q (U.set i (some v)) H
theorem Mn(hN:X.N.Nodup)(hi:X.N[i]?=some x)(hx:Loc X.env.scope x)(hf:X.fn x=true\/X.env.scope.names.lookup x=some .local):PG X (.Name x pos) (gName i):=by
 intro aa s U H v u Q I r h;exact Uk (A2 I hN hi hx r (λs' I'=>⟨_,H,I',h⟩) hf)
noncomputable def gNil:TGs:=λvs U H Q=>vs=[]/\Q U H
noncomputable def gCons(t:TG)(u:TGs):TGs:=λvs U H Q=>∃v r,vs=v::r/\t v U H λam H'=>u r am H' Q
theorem Kl:PGs X [] gNil:=by
 intro aa s U H vs us Q I r h;obtain⟨e,h⟩:=h;subst e;cases r;exact assignInOrder_nil ⟨U,H,I,h⟩
theorem IR{es:List OU}{t:TG}{u:TGs}(h1:PG X e t)(h2:PGs X es u)(hs:(PV (e::es) X.env).map (·.2)=R8 e X.env::(PV es X.env).map (·.2):=by rfl):PGs X (e::es) (gCons t u):=by
 intro aa s U H vs us Q I r h;obtain⟨v,vr,e1,h⟩:=h;subst e1;cases r with
 | cons r rr =>
  rw[hs];refine assignInOrder_cons (thn (h1 aa s U H _ _ _ I r h) λ_ s1 ⟨dA,H1,I1,q1⟩=>?_);exact h2 aa s1 dA H1 _ _ Q I1 rr q1
noncomputable def gTup(K:PySem.W.Frag)(n:Nat)(t:TGs):TG:=λv U H Q=>∃a xs,v=.ref a/\SqT K H a xs/\xs.length=n/\t xs U H Q
theorem LC{es:List OU}{t:TGs}(hc:X.calm=true)(h:PGs X es t)(hn:(PV es X.env).length=n:=by rfl)(gf:(PV es X.env).findIdx? (·.1)=none:=by rfl):PG X (.Tuple es k pos) (gTup X.K n t):=by
 intro aa s U H v u Q I r hw;obtain⟨a,xs,e1,hq,hl,hw⟩:=hw;subst e1;cases r;obtain⟨ae,rv,ht,hz⟩:=I.tuple hq;refine assign_Tuple_tuple (I.ok.hd hc) ht (by simp[hn,←hl,rv.length]) gf λh' hx=>?_
 have I1:Inv X aa U H { s with heap:=h' }:=I.kept (t':=s.toks) λb o e=>hx b o (OI (H_ e)) e
 exact h aa _ U H xs _ Q I1 (by simpa using rv) hw
noncomputable def gSub(to ti:TE)(t:TSet):TG:=λv U H Q=>to U H λo H1=>ti U H1 λi H2=>t o i v H2 λH3=>Q U H3
theorem Kv{o i:OU}{to ti:TE}{t:TSet}(ho:PE X o to)(hi:PE X i ti)(hs:PSet X t)(ha:∀v,R8 (.Subscript o i pos) X.env v=(do
   let ov ←RV [v] (O1 o X.env)
   let iv ←RV [v,ov] (O1 i X.env)
   Vp pos
   RV [v,ov,iv] (Vr ov iv v)
   release [v,ov,iv] []):=by intros;rfl):PG X (.Subscript o i pos) (gSub to ti t):=by
 intro aa s U H v u Q I r h;rw[ha];refine a_ (OT (thn (ho aa s U H _ I h) λov s1 ⟨x,H1,I1,r1,q1⟩=>?_));refine a_ (OT (thn (hi aa s1 U H1 _ I1 q1) λiv s2 ⟨y,H2,I2,r2,q2⟩=>?_));refine a_ (T3 (a_ (OT (thn (hs aa s2 U H2 x y v ov iv u _ I2 r1 r2 r q2) λ_ s3 ⟨H3,I3,q3⟩=>?_))));exact wpAny_release ⟨U,H3,I3,q3⟩
noncomputable def tAsg(te:TE)(g:TG):TS:=λD U H=>te U H λx H1=>g x U H1 D.nx
theorem Az{te:TE}{g:TG}(he:PE X e te)(hg:PG X tg g)(hs:T4 [tg] e pos.line X.env=pure false:=by rfl)(hw:T6 [tg] e X.env=pure none:=by rfl)(h1:(PV [tg] X.env).map (·.2)=[R8 tg X.env]:=by rfl):PS X (.Assign [tg] e pos) (tAsg te g):=by
 intro aa s U H D I h;refine wpAny_Assign_stores (thn (he aa s U H _ I h) λv s1 ⟨x,H1,I1,r1,q1⟩=>?_) hs hw;rw[h1];exact thn (hg aa s1 U H1 x v _ I1 r1 q1) λ_ s2 q=>q
theorem vo{te:TE}(hN:X.N.Nodup)(hi:X.N[i]?=some x)(hx:Loc X.env.scope x)(he:PE X e te)(hs:Pu e (some (.Name x aG)) pos.line X.env=pure false:=by rfl)(hf:X.fn x=true\/X.env.scope.names.lookup x=some .local):
  PS X (.Assign [.Name x aG] e pos) (tAsg te (gName i)):=by
 intro aa s U H D I h;refine wpAny_Assign_Name (thn (he aa s U H _ I h) λv s1 ⟨y,H1,I1,r1,q1⟩=>?_) hs;exact A2 I1 hN hi hx r1 (λs2 I2=>⟨_,H1,I2,q1⟩) hf
end
structure It where
 go:Nat->Hp->Prop
 yld:Nat->Hp->V->Hp->Prop
 stop:Nat->Hp->Prop
def FpOk(X:Cx)(aa:List (l_×Obj))(H:Hp)(b:l_):Prop:=
 H b=none/\b≠X.env.locals/\b∉X.fs/\(b∈X.ex\/X.s₀.heap.objs.size<=b)/\(∀x c,X.env.cells.lookup x=some c->c≠b)/\∀p∈X.pn++aa,p.1≠b
theorem Inv.fpOk{X:Cx}{U:St}{H H':Hp}{s:d_}(I:Inv X aa U H s)(hb:s.heap.objs.size<=b)(hn:H' b=none):FpOk X aa H' b:=by
 refine⟨hn,Q_ (L_ I.lt hb),I.nofs hb,.inr (E_ I.sz hb),λx c e z=>?_,λp hp z=>?_⟩
 ·obtain⟨v,q⟩:=I.cell x c e;exact absurd (L_ q.lt (by rw[z];exact hb)) (PR _)
 ·exact absurd (L_ (H_ (I.pin p hp).1) (by rw[z];exact hb)) (PR _)
structure Turn(P:C_)(w:J_)(K:PySem.W.Frag)(tg:OU)(J:It)(fp:List l_)(it:l_)(tn:Nat->I_->Prop):Prop where
 mem:it∈fp
 obj:∀i h,tn i h->∀b∈fp,∃o,h.get? b=some o/\∀v,o.data≠.cell v
 keep:∀i h h',tn i h->(∀b∈fp,∀o,h.get? b=some o->h'.get? b=some o)->tn i h'
 item:∀(X:Cx),X.prog=P->X.w=w->X.K=K->X.calm=true->∀(i:Nat) (aa:List (l_×Obj)) (s:d_) (U:St) (H:Hp) (E:b_->d_->Prop),Inv X aa U H s->(∀b∈fp,FpOk X aa H b)->tn i s.heap->J.go i H →
  o_ (s_ P w) X.A (QF (.ref it)) (λr s1=>∃u,r=some u ∧
   o_ (s_ P w) X.A (QX tg (.ref it) u) (λ_ s2=>∃x H',Inv X aa U H' s2/\RelV x u/\J.yld i H x H'/\tn (i+1) s2.heap/\∀b∈fp,H' b=none) E s1) E s
 done:∀(X:Cx),X.prog=P->X.w=w->X.K=K->X.calm=true->∀(i:Nat) (aa:List (l_×Obj)) (s:d_) (U:St) (H:Hp) (E:b_->d_->Prop),Inv X aa U H s->(∀b∈fp,FpOk X aa H b)->tn i s.heap->J.stop i H →
  o_ (s_ P w) X.A (QF (.ref it)) (λr s1=>r=none/\Inv X aa U H s1) E s
 self:∀(A:PB) (i:Nat) (s:d_) (Q:b_->d_->Prop) (E:b_->d_->Prop),tn i s.heap->Q (.ref it) s->o_ (s_ P w) A (SB (.ref it)) Q E s
abbrev TI:=St->Hp->(It->Hp->Prop)->Prop
def PIE(X:Cx)(aa:List (l_×Obj))(U:St)(tg:OU)(R:It->Hp->Prop)(iI:b_)(s2:d_):Prop:=
 ∃(it:l_) (fp:List l_) (tn:Nat->I_->Prop) (J:It) (H':Hp),iI=.ref it/\Inv X aa U H' s2/\Turn X.prog X.w X.K tg J fp it tn/\tn 0 s2.heap/\(∀b∈fp,FpOk X aa H' b)/\R J H'
def PI(X:Cx)(tg iter:OU)(wi:TI):Prop:=
 ∀(aa:List (l_×Obj)) (s:d_) (U:St) (H:Hp) (R:It->Hp->Prop),Inv X aa U H s->wi U H R →
  o_ (s_ X.prog X.w) X.A (O1 iter X.env) (λv s1=>o_ (s_ X.prog X.w) X.A (SB v) (PIE X aa U tg R) X.xe s1) X.xe s
theorem yz{M:Model}{E:b_->d_->Prop}{s:d_}{it:l_}{o:Obj}{n:String}{vs:Array b_}{Q:Unit->d_->Prop}(ho:s.heap.get? it=some o)(hc:o.cls=.type n)(hd:o.data=.fields vs)(hn:["enumerate", "zip", "dict_itemiterator", "dict_reverseitemiterator", "odict_iterator", "itertools.zip_longest", "itertools.pairwise"].contains n=false)(hQ:Q () s):o_ M A (QX tg (.ref it) u) Q E s:=by
 unfold QX
 cases tg<;>first
  | exact c_ hQ
  | (cases u<;>first
    | exact c_ hQ
    | (refine a_ (UY ho ?_)
       rw[hc,hd];show o_ M A (if(["enumerate", "zip", "dict_itemiterator", "dict_reverseitemiterator", "odict_iterator", "itertools.zip_longest", "itertools.pairwise"].contains n&&vs[0]? == some (PX _))=true then _ else _) Q E s;rw[if_neg (by intro h;rw[hn,Tl] at h;cases h)]
       exact c_ hQ))
noncomputable def Itl(K:PySem.W.Frag)(a:l_):It:=
 ⟨λi H=>∃xs x,SqL K H a xs/\xs[i]?=some x,λi H x H'=>H'=H/\∀xs,SqL K H a xs->xs[i]?=some x,λi H=>∃xs,SqL K H a xs/\xs.length<=i⟩
noncomputable def Itt(K:PySem.W.Frag)(a:l_):It:=
 ⟨λi H=>∃xs x,SqT K H a xs/\xs[i]?=some x,λi H x H'=>H'=H/\∀xs,SqT K H a xs->xs[i]?=some x,λi H=>∃xs,SqT K H a xs/\xs.length<=i⟩
noncomputable def Itr(lo:Int)(n:Nat):It:=⟨λi _=>i < n,λi H x H'=>H'=H/\x=.int (lo+i),λi _=>n<=i⟩
theorem Es{P:C_}{w:J_}{K:PySem.W.Frag}(a it:l_):Turn P w K tg (Itl K a) [it] it (λi h=>h.IsListIter it a i) where
 mem:=by simp
 obj:=λi h st b hb=>by
  have e:b=it:=by simpa using hb
  subst e;obtain⟨o,e,c,d⟩:=st;exact⟨o,e,λv z=>by rw[d] at z;cases z⟩
 keep:=λi h h' st k=>st.at λo e=>k it (by simp) o e
 item:=by
  intro X hP hw hK hc i aa s U H E I hf st hg;subst hP hw hK;obtain⟨xs,x,hq,hx⟩:=hg;obtain⟨ae,rv,p,hz⟩:=I.list hq;obtain⟨u,hu,ru⟩:=rv.get hx;obtain⟨f0,f1,f2,f3,f4,f5⟩:=hf it (by simp);refine wpAny_pyNext_list_item st p.isList (x:=u) (by simpa using hu) λh' dQ sb=>?_
  have I1:Inv X aa U H { s with heap:=h' }:=I.turned (t':=s.toks) (λb o hb e=>(sb.2 b hb).trans e) f0 f1 f3 f4 f5;obtain⟨o,e,c,d⟩:=id dQ;exact⟨u,rfl,yz (s:={ s with heap:=h' }) e c d (by decide) ⟨x,H,I1,ru,⟨rfl,λys hy=>by rw[I.list_inj hy hq];exact hx⟩,dQ,λb hb=>(hf b hb).1⟩⟩
 done:=by
  intro X hP hw hK hc i aa s U H E I hf st hg;subst hP hw hK;obtain⟨xs,hq,hx⟩:=hg;obtain⟨ae,rv,p,hz⟩:=I.list hq;obtain⟨f0,f1,f2,f3,f4,f5⟩:=hf it (by simp);have hl:=rv.length;exact wpAny_pyNext_list_end (I.ok.hd hc) st p.isList (by simp;omega) λh' eb=>⟨rfl,I.turned (t':=s.toks) (λb o hb e=>eb b o hb e) f0 f1 f3 f4 f5⟩
 self:=λ_ _ _ _ _ st h=>wpAny_pyIter_listiter st h
theorem KC{P:C_}{w:J_}{K:PySem.W.Frag}(a it:l_):Turn P w K tg (Itt K a) [it] it (λi h=>h.IsTupleIter it a i) where
 mem:=by simp
 obj:=λi h st b hb=>by
  have e:b=it:=by simpa using hb
  subst e;obtain⟨o,e,c,d⟩:=st;exact⟨o,e,λv z=>by rw[d] at z;cases z⟩
 keep:=λi h h' st k=>st.at λo e=>k it (by simp) o e
 item:=by
  intro X hP hw hK hc i aa s U H E I hf st hg;subst hP hw hK;obtain⟨xs,x,hq,hx⟩:=hg;obtain⟨ae,rv,p,hz⟩:=I.tuple hq;obtain⟨u,hu,ru⟩:=rv.get hx;obtain⟨f0,f1,f2,f3,f4,f5⟩:=hf it (by simp);refine wpAny_pyNext_tuple_item st (show s.heap.IsTuple a ae.toArray from p) (x:=u) (by simpa using hu) λh' dQ sb=>?_
  have I1:Inv X aa U H { s with heap:=h' }:=I.turned (t':=s.toks) (λb o hb e=>(sb.2 b hb).trans e) f0 f1 f3 f4 f5;obtain⟨o,e,c,d⟩:=id dQ;exact⟨u,rfl,yz (s:={ s with heap:=h' }) e c d (by decide) ⟨x,H,I1,ru,⟨rfl,λys hy=>by rw[I.tuple_inj hy hq];exact hx⟩,dQ,λb hb=>(hf b hb).1⟩⟩
 done:=by
  intro X hP hw hK hc i aa s U H E I hf st hg;subst hP hw hK;obtain⟨xs,hq,hx⟩:=hg;obtain⟨ae,rv,p,hz⟩:=I.tuple hq;obtain⟨f0,f1,f2,f3,f4,f5⟩:=hf it (by simp);have hl:=rv.length;exact wpAny_pyNext_tuple_end (I.ok.hd hc) st (show s.heap.IsTuple a ae.toArray from p) (by simp;omega) λh' eb=>⟨rfl,I.turned (t':=s.toks) (λb o hb e=>eb b o hb e) f0 f1 f3 f4 f5⟩
 self:=λ_ _ _ _ _ st h=>wpAny_pyIter_tupleiter st h
theorem HP{P:C_}{w:J_}{K:PySem.W.Frag}(it:l_)(lo:Int)(n:Nat):Turn P w K tg (Itr lo n) [it] it (λi h=>IsRangeIter h it (lo+(i:Nat)*1) ((n:Int) - (i:Nat)) 1) where
 mem:=by simp
 obj:=λi h st b hb=>by
  have e:b=it:=by simpa using hb
  subst e
  exact⟨_,st,λv z=>by
   have z':fields _=Rx v:=z
   cases z'⟩
 keep:=λi h h' st k=>k it (by simp) _ st
 item:=by
  intro X hP hw hK hc i aa s U H E I hf st hg;subst hP hw hK;obtain⟨f0,f1,f2,f3,f4,f5⟩:=hf it (by simp);have W:=Walks.range (prog:=X.prog) (w:=X.w) (I.ok.hd hc) it lo 1 n;refine W.item i s _ _ hg st λv h' tk hv dQ kk=>?_
  obtain⟨t,rfl⟩:=hv;have I1:Inv X aa U H { s with heap:=h',toks:=tk }:=I.turned (λb o hb e=>kk b o (by simpa using hb) e) f0 f1 f3 f4 f5;refine⟨_,rfl,yz (s:={ s with heap:=h',toks:=tk }) (n:= "range_iterator") dQ rfl rfl (by decide) ⟨.int (lo+i),H,I1,⟨t,?_⟩,⟨rfl,rfl⟩,dQ,λb hb=>(hf b hb).1⟩⟩;rw[Int.mul_one]
 done:=by
  intro X hP hw hK hc i aa s U H E I hf st hg;subst hP hw hK;obtain⟨f0,f1,f2,f3,f4,f5⟩:=hf it (by simp);exact wpAny_pyNext_range_end (I.ok.hd hc) st (by have:n<=i:=hg;omega) λh' eb=>⟨rfl,I.turned (t':=s.toks) (λb o hb e=>eb b o hb e) f0 f1 f3 f4 f5⟩
 self:=λ_ _ _ _ _ st h=>wpAny_pyIter_rangeiter st h
section
variable{X:Cx}
theorem AU{U:St}{H:Hp}{s:d_}{R:It->Hp->Prop}{E:b_->d_->Prop}{lo hi:Int}{t u v:Tok}(I:Inv X aa U H s)(h1:-(2 ^ 62)<=lo)(h2:lo < 2 ^ 62)(h3:-(2 ^ 62)<=hi)(h4:hi < 2 ^ 62)(q:R (Itr lo (hi - lo).toNat) H):o_ (s_ X.prog X.w) X.A (SB (.ref s.heap.objs.size)) (PIE X aa U tg R) E { s with heap:=s.heap.push { cls:=.type "range", data:=.fields #[.int lo t,.int hi u,.int 1 v] },toks:=tk }:=by
 refine wpAny_pyIter_range (IsRange.new ..) (small_one h1 h2 h3 h4) ?_;have I1:Inv X aa U H { s with heap:=s.heap.push { cls:=.type "range", data:=.fields #[.int lo t,.int hi u,.int 1 v] },toks:=tk }:=I.kept λb o e=>e_ _ e
 refine⟨(s.heap.push { cls:=.type "range", data:=.fields #[.int lo t,.int hi u,.int 1 v] }).objs.size,[(s.heap.push { cls:=.type "range", data:=.fields #[.int lo t,.int hi u,.int 1 v] }).objs.size],_,_,H,rfl,
  I1.kept (t':=tk) λb o e=>e_ _ e,HP _ lo (hi - lo).toNat,?_,λb hb=>?_,q⟩
 ·have e1:lo+((0:Nat):Int)*1=lo:=by simp
  have e2:(((hi - lo).toNat:Nat):Int) - ((0:Nat):Int)=rangeSize lo hi 1:=by rw[rangeSize_one];split<;>omega
  show IsRangeIter _ _ (lo+((0:Nat):Int)*1) ((((hi - lo).toNat:Nat):Int) - ((0:Nat):Int)) 1;rw[e1,e2];exact t_ _ rfl
 ·have e:b=(s.heap.push { cls:=.type "range", data:=.fields #[.int lo t,.int hi u,.int 1 v] }).objs.size:=by simpa using hb
  subst e;exact I1.fpOk (v_ _) (I1.hok.fresh (v_ _))
noncomputable def iRng1(ta:TA):TI:=λU H R=>ta U H λvs H1=>∃j:Int,vs=[.int j]/\-(2 ^ 62)<=j/\j < 2 ^ 62/\R (Itr 0 j.toNat) H1
noncomputable def iRng2(ta:TA):TI:=λU H R=>ta U H λvs H1=>∃i j:Int,vs=[.int i,.int j]/\(-(2 ^ 62)<=i/\i < 2 ^ 62/\-(2 ^ 62)<=j/\j < 2 ^ 62)/\R (Itr i (j - i).toNat) H1
theorem J1{a:OU}{ta:TA}{p:Pos}(hg:Gl X "range")(hm:X.mg "range"=none)(ha:PA X [a] ta)(hs:g_ [a] X.env=[(false,O1 a X.env)]:=by rfl):PI X tg (.Call (.Name "range" p) [a] [] pos) (iRng1 ta):=by
 intro aa s U H R I h;refine Vo (sw I hg hm UZ (OJ (thn (ha pos aa s U H _ I h) λus s1 ⟨vs,H1,I1,r1,q1⟩=>?_) hs rfl));obtain⟨j,e,q1,q2,q⟩:=q1;subst e;cases r1 with
 | cons r rr =>
  cases rr;obtain⟨t,rfl⟩:=r;exact call_range_1 (AU I1 (by omega) (by omega) q1 q2 (by simpa using q))
theorem Ix{a b:OU}{ta:TA}{p:Pos}(hg:Gl X "range")(hm:X.mg "range"=none)(ha:PA X [a,b] ta)(hs:g_ [a,b] X.env=[(false,O1 a X.env),(false,O1 b X.env)]:=by rfl)(bD:g_ [b] X.env=[(false,O1 b X.env)]:=by rfl):
  PI X tg (.Call (.Name "range" p) [a,b] [] pos) (iRng2 ta):=by
 intro aa s U H R I h;refine Vo (sw I hg hm UZ (OJ (thn (ha pos aa s U H _ I h) λus s1 ⟨vs,H1,I1,r1,q1⟩=>?_) (by rw[hs,bD]) (by rw[bD];rfl)));obtain⟨i,j,e,⟨q1,q2,q3,q4⟩,q⟩:=q1;subst e;cases r1 with
 | cons r rr =>
  cases rr with
  | cons r' rr =>
   cases rr;obtain⟨t,rfl⟩:=r;obtain⟨t',rfl⟩:=r';exact call_range_2 (AU I1 q1 q2 q3 q4 q)
noncomputable def tFor(wi:TI)(g:TG)(tb:TS):TS:=λD U H=>wi U H λJ H1=>∃W:Nat->Nat->St->Hp->Prop,(∃m,W 0 m U H1)/\∀i m U H,W i m U H →
 (J.stop i H/\D.nx U H)\/(J.go i H/\∃N:St->Hp->Prop,(∀am H',N am H'->∃m',m' < m/\W (i+1) m' am H')/\∀x H',J.yld i H x H'->g x U H' λaZ H2=>tb { D with nx:=N,ct:=N,bk:=D.nx } aZ H2)
noncomputable def pinsAt(fp:List l_)(h:I_):List (l_×Obj):=fp.filterMap λb=>(h.get? b).map λo=>(b,o)
theorem v9{h:I_}{o:Obj}(hb:b∈fp)(e:h.get? b=some o):(b,o)∈pinsAt fp h:=R9.mpr ⟨b,hb,by rw[e];rfl⟩
theorem Fe{h:I_}{p:l_×Obj}(hp:p∈pinsAt fp h):p.1∈fp/\h.get? p.1=some p.2:=by
 obtain⟨b,hb,e⟩:=R9.mp hp;cases q:h.get? b with
 | none=>rw[q] at e;cases e
 | some o =>
  rw[q] at e;have e':(b,o)=p:=OL e;subst e';exact⟨hb,q⟩
theorem Inv.pinned{U:St}{H:Hp}{s:d_}(I:Inv X aa U H s)(hf:∀b∈fp,FpOk X aa H b)(ho:∀b∈fp,∃o,s.heap.get? b=some o/\∀v,o.data≠.cell v):Inv X (aa++pinsAt fp s.heap) U H s:=
 I.pins_of λp hp=>(D_.mp hp).elim (λz=>I.pin p (OH _ z)) λz=>by
  obtain⟨hb,e⟩:=Fe z;obtain⟨f0,f1,f2,_⟩:=hf p.1 hb;obtain⟨o,e',d⟩:=ho p.1 hb;rw[e] at e';cases e';exact⟨e,f0,f1,f2,d⟩
theorem Inv.unpinned{pl:List (l_×Obj)}{U:St}{H:Hp}{s:d_}(I:Inv X (aa++pl) U H s):Inv X aa U H s:=I.pins_of λp hp=>I.pin p (OH _ (O_ _ hp))
theorem EX{body:List Pb}{wi:TI}{g:TG}{tb:TS}(hp:PassesOwn (s_ X.prog X.w) X.A X.env X.xe)(hc:X.calm=true)(hi:PI X tg iter wi)(hg:PG X tg g)(hb:PSs X body tb)(hs:∀x,Pq iter X.env x=pure x:=by intros;rfl):PS X (.For tg iter body [] pos) (tFor wi g tb):=by
 intro aa s U H D I h;refine wpAny_For (thn (hi aa s U H _ I h) λv s1 h1=>thn h1 λiI s2 h2=>?_) hs;obtain⟨it,fp,tn,J,H2,e,I2,T,dR,f2,W,⟨m0,w0⟩,turn⟩:=h2;subst e
 -- what stays true of the iterator's objects through the bV
 have cN:∀{H':Hp},(∀b∈fp,H' b=none)->∀b∈fp,FpOk X aa H' b:=λhn b hb=>⟨hn b hb,(f2 b hb).2⟩
 refine codeAny_forLoop_any (λn s'=>∃i am H',Inv X aa am H' s'/\tn i s'.heap/\(∀b∈fp,H' b=none)/\W i n am H') ?_ m0 ⟨0,U,H2,I2,dR,λb hb=>(f2 b hb).1,w0⟩;rintro n s3 ⟨i,gj,H3,I3,fK,lc,w3⟩
 rcases turn i n gj H3 w3 with⟨stop,qn⟩ | ⟨go,N,hN,step⟩
 ·refine QY hp (thn (T.done X rfl rfl rfl hc i aa s3 gj H3 X.xe I3 (cN lc) fK stop) λr s4 ⟨hr,I4⟩=>?_);subst hr;exact S' ⟨gj,H3,I4,qn⟩
 ·refine QY hp (thn (T.item X rfl rfl rfl hc i aa s3 gj H3 X.xe I3 (cN lc) fK go) λr s4 ⟨u,hr,h4⟩=>?_);subst hr;refine QY hp (thn h4 λ_ s5 ⟨x,H5,I5,r5,y5,fL,iJ⟩=>?_);have nL:=I5.pinned (cN iJ) (T.obj _ _ fL);refine QY hp (thn (hg _ s5 gj H5 x u _ nL r5 (step x H5 y5)) λ_ s6 ⟨nM,H6,I6,q6⟩=>?_);refine QY hp (thn (hb _ s6 nM H6 _ I6 q6) λf s7 q7=>?_)
  have UL:∀{cP:St}{H7:Hp},Inv X (aa++pinsAt fp s5.heap) cP H7 s7->N cP H7->∃m,m < n/\∃i am H',Inv X aa am H' s7/\tn i s7.heap/\(∀b∈fp,H' b=none)/\W i m am H':=λ{cP H7} I7 n7=>by
   obtain⟨m',hm,w7⟩:=hN cP H7 n7;refine⟨m',hm,i+1,cP,H7,I7.unpinned,T.keep _ _ _ fL λb hb o e=>(I7.pin (b,o) (OH _ (OH _ (v9 hb e)))).1,λb hb=>?_,w7⟩;obtain⟨o,e,d⟩:=T.obj _ _ fL b hb;exact(I7.pin (b,o) (OH _ (OH _ (v9 hb e)))).2.1
  cases f with
  | next=>obtain⟨cP,H7,I7,n7⟩:=q7;exact UL I7 n7
  | cont=>obtain⟨cP,H7,I7,n7⟩:=q7;exact UL I7 n7
  | brk=>obtain⟨cP,H7,I7,q7⟩:=q7;exact⟨cP,H7,I7.unpinned,q7⟩
  | ret v=>obtain⟨x7,cP,H7,I7,r7,q7⟩:=q7;exact⟨x7,cP,H7,I7.unpinned,r7,q7⟩
end
abbrev R2:=V->V->Hp->VK->Prop
def OpR(X:Cx)(f:b_->b_->Sem b_)(r:R2):Prop:=
 ∀(aa:List (l_×Obj)) (s:d_) (U:St) (H:Hp) (x y:V) (v u:b_) (Q:VK),Inv X aa U H s->RelV x v->RelV y u->r x y H Q →
  o_ (s_ X.prog X.w) X.A (f v u) (EP X aa U Q) X.xe s
def UnR(X:Cx)(f:b_->Sem b_)(r:V->Hp->VK->Prop):Prop:=
 ∀(aa:List (l_×Obj)) (s:d_) (U:St) (H:Hp) (x:V) (v:b_) (Q:VK),Inv X aa U H s->RelV x v->r x H Q →
  o_ (s_ X.prog X.w) X.A (f v) (EP X aa U Q) X.xe s
def CallR(X:Cx)(f:b_)(r:List V->Hp->VK->Prop):Prop:=
 ∀(aa:List (l_×Obj)) (s:d_) (U:St) (H:Hp) (xs:List V) (us:List b_) (Q:VK),Inv X aa U H s->Vals xs us->r xs H Q →
  o_ (s_ X.prog X.w) X.A (call f us) (EP X aa U Q) X.xe s
noncomputable def tOp(r:R2)(ta tb:TE):TE:=λU H Q=>ta U H λx H1=>tb U H1 λy H2=>r x y H2 Q
noncomputable def tUn(r:V->Hp->VK->Prop)(ta:TE):TE:=λU H Q=>ta U H λx H1=>r x H1 Q
noncomputable def rI(C:Int->Int->Prop)(g:Int->Int->V):R2:=λx y H Q=>∃i j,x=.int i/\y=.int j/\C i j/\Q (g i j) H
noncomputable def rI0(g:Int->Int->V):R2:=λx y H Q=>∃i j,x=.int i/\y=.int j/\Q (g i j) H
def rU(g:Int->V):V->Hp->VK->Prop:=λx H Q=>∃i,x=.int i/\Q (g i) H
section
variable{X:Cx}{a b c:OU}{ta tb tc:TE}
theorem binT(ha:PE X a ta)(hb:PE X b tb){s:d_}{U:St}{H:Hp}{R:V->V->Hp->Prop}(I:Inv X aa U H s)(h:ta U H λx H1=>tb U H1 λy H2=>R x y H2){Q:b_->d_->Prop}{f:b_->b_->Sem b_}(hf:∀v u s2 x y H2,Inv X aa U H2 s2->RelV x v->RelV y u->R x y H2->o_ (s_ X.prog X.w) X.A (f v u) Q X.xe s2):
  o_ (s_ X.prog X.w) X.A (O1 a X.env) (λv ay=>o_ (s_ X.prog X.w) X.A (O1 b X.env) (λu dS=>o_ (s_ X.prog X.w) X.A (f v u) Q X.xe dS) X.xe ay) X.xe s:=by
 refine thn (ha aa s U H _ I h) λv s1 ⟨x,H1,I1,r1,q1⟩=>?_
 refine thn (hb aa s1 U H1 _ I1 q1) λu s2 ⟨y,H2,I2,r2,q2⟩=>?_
 exact hf v u s2 x y H2 I2 r1 r2 q2
theorem Ap{op:Operator}{r:R2}(ho:OpR X (Qe op) r)(ha:PE X a ta)(hb:PE X b tb):PE X (.BinOp a op b pos) (tOp r ta tb):=by
 intro aa s U H Q I h;exact wpAny_BinOp (binT ha hb I h λv u s2 x y H2 I2 rx ry q=>ho aa s2 U H2 x y v u Q I2 rx ry q)
theorem Lq{op:UnaryOp}{r:V->Hp->VK->Prop}(ho:UnR X (unaryOp op) r)(ha:PE X a ta):PE X (.UnaryOp op a pos) (tUn r ta):=by
 intro aa s U H Q I h;exact UnaryOp_ (thn (ha aa s U H _ I h) λv s1 ⟨x,H1,I1,r1,q1⟩=>ho aa s1 U H1 x v Q I1 r1 q1)
theorem opI{f:b_->b_->Sem b_}{C:Int->Int->Prop}{g:Int->Int->Int}(rule:∀(i j:Int) (t u:Tok) (s:d_) (Q:b_->d_->Prop) (E:b_->d_->Prop),C i j->Q (.int (g i j) s.toks) { s with toks:=s.toks+1 }->o_ (s_ X.prog X.w) X.A (f (.int i t) (.int j u)) Q E s):
  OpR X f (rI C λi j=>.int (g i j)):=by
 intro aa s U H x y v u Q I rx ry h;obtain⟨i,j,rfl,rfl,hc,q⟩:=h;obtain⟨t,rfl⟩:=rx;obtain⟨t',rfl⟩:=ry;exact rule i j t t' s _ _ hc ⟨.int (g i j),H,I.tok _,⟨_,rfl⟩,q⟩
theorem opI0{f:b_->b_->Sem b_}{g:Int->Int->Int}(rule:∀(i j:Int) (t u:Tok) (s:d_) (Q:b_->d_->Prop) (E:b_->d_->Prop),Q (.int (g i j) s.toks) { s with toks:=s.toks+1 }->o_ (s_ X.prog X.w) X.A (f (.int i t) (.int j u)) Q E s):
  OpR X f (rI0 λi j=>.int (g i j)):=by
 intro aa s U H x y v u Q I rx ry h;obtain⟨i,j,rfl,rfl,q⟩:=h;obtain⟨t,rfl⟩:=rx;obtain⟨t',rfl⟩:=ry;exact rule i j t t' s _ _ ⟨.int (g i j),H,I.tok _,⟨_,rfl⟩,q⟩
theorem opB0{f:b_->b_->Sem b_}{g:Int->Int->Bool}(rule:∀(i j:Int) (t u:Tok) (s:d_) (Q:b_->d_->Prop) (E:b_->d_->Prop),Q (.bool (g i j)) s->o_ (s_ X.prog X.w) X.A (f (.int i t) (.int j u)) Q E s):
  OpR X f (rI0 λi j=>.bl (g i j)):=by
 intro aa s U H x y v u Q I rx ry h;obtain⟨i,j,rfl,rfl,q⟩:=h;obtain⟨t,rfl⟩:=rx;obtain⟨t',rfl⟩:=ry;exact rule i j t t' s _ _ ⟨.bl (g i j),H,I,rfl,q⟩
def CPow(i j:Int):Prop:=0<=j/\j<=1000000/\i.natAbs < 2 ^ 64
def CMul(i j:Int):Prop:=(-(2 ^ 64) < i/\i < 2 ^ 64)\/(-(2 ^ 64) < j/\j < 2 ^ 64)
theorem CMul.ok{i j:Int}(h:CMul i j):IntMulOk i j:=by
 rcases h with⟨h1,h2⟩ | ⟨h1,h2⟩
 ·exact .of_left (intBits_le_64 h1 h2)
 ·exact .of_right (intBits_le_64 h1 h2)
theorem Gh:OpR X (Qe .Add) (rI0 λi j=>.int (i+j)):=opI0 λ_ _ _ _ _ _ _ q=>add_int q
theorem EV:OpR X (Qe .Sub) (rI0 λi j=>.int (i - j)):=opI0 λ_ _ _ _ _ _ _ q=>sub_int q
theorem Jb:OpR X (Qe .Mult) (rI CMul λi j=>.int (i*j)):=opI λ_ _ _ _ _ _ _ hc q=>mul_int q hc.ok
theorem Ku:OpR X (Qe .Mod) (rI (λ_ j=>0 < j) λi j=>.int (i % j)):=opI λi j _ _ _ _ _ hc q=>by
 have h1:(0:Int) < j:=hc;exact mod_int' (by omega) (by rw[Int.fmod_eq_emod_of_nonneg i (by omega)];exact q)
theorem IZ:OpR X (Qe .Pow) (rI CPow λi j=>.int (i ^ j.toNat)):=opI λ_ _ _ _ _ _ _ hc q=>pow_int_small hc.1 hc.2.1 hc.2.2 q
theorem unI{f:b_->Sem b_}{g:Int->Int}(rule:∀(i:Int) (t:Tok) (s:d_) (Q:b_->d_->Prop) (E:b_->d_->Prop),Q (.int (g i) s.toks) { s with toks:=s.toks+1 }->o_ (s_ X.prog X.w) X.A (f (.int i t)) Q E s):
  UnR X f (rU λi=>.int (g i)):=by
 intro aa s U H x v Q I rx h;obtain⟨i,rfl,q⟩:=h;obtain⟨t,rfl⟩:=rx;exact rule i t s _ _ ⟨.int (g i),H,I.tok _,⟨_,rfl⟩,q⟩
theorem Hy:UnR X (unaryOp .USub) (rU λi=>.int (-i)):=unI λ_ _ _ _ _ q=>neg_int q
end
section
variable{X:Cx}{a b c:OU}{ta tb tc:TE}
theorem Ea{U:St}{H:Hp}{s:d_}{Q:VK}{k k':Bool}(I:Inv X aa U H s)(q:Q (.bl k) H)(e:k=k'):EP X aa U Q (.bool k') s:=by
 subst e;exact⟨.bl k,H,I,rfl,q⟩
theorem Dk:OpR X (O7 .Lt) (rI0 λi j=>.bl (decide (i < j))):=opB0 λ_ _ _ _ _ _ _ q=>lt_int q
theorem w4:OpR X (O7 .LtE) (rI0 λi j=>.bl (decide (i<=j))):=opB0 λ_ _ _ _ _ _ _ q=>le_int q
theorem Kn:OpR X (O7 .Gt) (rI0 λi j=>.bl (decide (j < i))):=opB0 λ_ _ _ _ _ _ _ q=>gt_int q
theorem Hh:OpR X (O7 .GtE) (rI0 λi j=>.bl (decide (j<=i))):=opB0 λ_ _ _ _ _ _ _ q=>ge_int q
theorem E7:OpR X (O7 .Is) (λx y H Q=>y=.non/\Q (.bl (decide (x=.non))) H):=by
 intro aa s U H x y v u Q I rx ry h;obtain⟨rfl,q⟩:=h;cases ry;refine is_none_gen (Ea I q ?_)
 cases x<;>first
  | (cases rx;rfl)
  | (obtain⟨t,rfl⟩:=rx;rfl)
theorem Kb:OpR X (O7 .IsNot) (λx y H Q=>y=.non/\Q (.bl (!decide (x=.non))) H):=by
 intro aa s U H x y v u Q I rx ry h;obtain⟨rfl,q⟩:=h;cases ry;refine isnot_none_gen (Ea I q ?_)
 cases x<;>first
  | (cases rx;rfl)
  | (obtain⟨t,rfl⟩:=rx;rfl)
theorem OpR.or{f:b_->b_->Sem b_}{r r':R2}(h:OpR X f r)(h':OpR X f r'):OpR X f (λx y H Q=>r x y H Q\/r' x y H Q):=by
 intro aa s U H x y v u Q I rx ry q
 rcases q with q | q
 ·exact h aa s U H x y v u Q I rx ry q
 ·exact h' aa s U H x y v u Q I rx ry q
theorem nomark(b:OU)(h:op≠.In:=by decide)(h2:op≠.NotIn:=by decide):Py op b=false:=by
 have e1:(op == CmpOp.In)=false:=by cases op<;>first | rfl | exact absurd rfl h
 have e2:(op == CmpOp.NotIn)=false:=by cases op<;>first | rfl | exact absurd rfl h2
 cases b<;>simp[Py,e1,e2]
theorem Bg{r:R2}(ho:OpR X (O7 op) r)(ha:PE X a ta)(hb:PE X b tb)(hm:Py op b=false):PE X (.Compare a [op] [b] pos) (tOp r ta tb):=by
 intro aa s U H Q I h;exact wpAny_Compare1 (binT ha hb I h λv u s2 x y H2 I2 rx ry q=>ho aa s2 U H2 x y v u Q I2 rx ry q) hm
noncomputable def tTest(t:TE):TT:=λU H Q=>t U H λx H'=>∃k,x=.bl k/\Q k H'
theorem Cm{r:R2}(ho:OpR X (O7 op) r)(ha:PE X a ta)(hb:PE X b tb)(hm:Py op b=false):PT X (.Compare a [op] [b] pos) (tTest (tOp r ta tb)):=by
 intro aa s U H Q I h
 refine wpAny_isTrue_Compare1 (thn (ha aa s U H _ I h) λv s1 ⟨x,H1,I1,r1,q1⟩=>thn (hb aa s1 U H1 _ I1 q1) λu s2 ⟨y,H2,I2,r2,q2⟩ =>
  thn (ho aa s2 U H2 x y v u _ I2 r1 r2 q2) λc s3 ⟨z,H3,I3,r3,k,e,q3⟩=>?_) hm
 subst e;cases r3;exact Pe ⟨H3,I3,q3⟩
noncomputable def tChain(r r':R2)(ta tb tc:TE):TE:=λU H Q=>ta U H λx H1=>tb U H1 λy H2=>r x y H2 λz H3=>∃k,z=.bl k ∧
 (if k=true then tc U H3 λw' H4=>r' y w' H4 Q else Q (.bl false) H3)
theorem LF{r r':R2}(ho:OpR X (O7 op) r)(bN:OpR X (O7 bO) r')(ha:PE X a ta)(hb:PE X b tb)(hc:PE X c tc)(hm:SN [op,bO] [b,c]=false:=by with_unfolding_all rfl):PE X (.Compare a [op,bO] [b,c] pos) (tChain r r' ta tb tc):=by
 intro aa s U H Q I h
 refine Compare_chain (thn (ha aa s U H _ I h) λv s1 ⟨x,H1,I1,r1,q1⟩=>chain_link (thn (hb aa s1 U H1 _ I1 q1) λu s2 ⟨y,H2,I2,r2,q2⟩ =>
  thn (ho aa s2 U H2 x y v u _ I2 r1 r2 q2) λd s3 ⟨z,H3,I3,r3,k,e,q3⟩=>?_)) hm
 subst e;cases r3;refine Pe ?_;cases k with
 | false=>exact ite_ff ⟨.bl false,H3,I3,rfl,q3⟩
 | true=>exact ite_tt (chain_last (thn (hc aa s3 U H3 _ I3 q3) λw' s4 ⟨z',H4,I4,r4,q4⟩=>bN aa s4 U H4 y z' u w' Q I4 r2 r4 q4))
theorem Fc{r r':R2}(ho:OpR X (O7 op) r)(bN:OpR X (O7 bO) r')(ha:PE X a ta)(hb:PE X b tb)(hc:PE X c tc)(hm:SN [op,bO] [b,c]=false:=by with_unfolding_all rfl):PT X (.Compare a [op,bO] [b,c] pos) (tTest (tChain r r' ta tb tc)):=by
 intro aa s U H Q I h
 refine isTrue_chain (thn (ha aa s U H _ I h) λv s1 ⟨x,H1,I1,r1,q1⟩=>test_link (thn (hb aa s1 U H1 _ I1 q1) λu s2 ⟨y,H2,I2,r2,q2⟩ =>
  thn (ho aa s2 U H2 x y v u _ I2 r1 r2 q2) λd s3 ⟨z,H3,I3,r3,k,e,q3⟩=>?_)) hm
 subst e;cases r3;refine Pe ?_;cases k with
 | false =>
  obtain⟨k',e',q'⟩:=q3;cases e';exact ite_ff ⟨H3,I3,q'⟩
 | true =>
  refine ite_tt (test_last (thn (hc aa s3 U H3 _ I3 q3) λw' s4 ⟨z',H4,I4,r4,q4⟩=>thn (bN aa s4 U H4 y z' u w' _ I4 r2 r4 q4) λd' s5 ⟨z2,H5,I5,r5,k2,e2,q5⟩=>?_));subst e2;cases r5;exact Pe ⟨H5,I5,q5⟩
theorem line63:(x_:Nat) < 2 ^ 63:=by rw[Pf];decide
theorem GW:OpR X (Qe .Add) (λx y H Q=>∃i j,x=.str i/\y=.str j/\i.length+j.length<=x_/\Q (.str (i++j)) H):=by
 intro aa s U H x y v u Q I rx ry h;obtain⟨i,j,rfl,rfl,hz,q⟩:=h;obtain⟨t,rfl⟩:=rx;obtain⟨t',rfl⟩:=ry;exact add_str (λt' tk=>⟨.str (i++j),H,I.tok _,⟨_,rfl⟩,q⟩) hz
theorem vals1{x:V}(r:Vals [x] us):∃u,us=[u]/\RelV x u:=by
 cases r with
 | cons r1 r2=>cases r2;exact⟨_,rfl,r1⟩
theorem vals2{x y:V}(r:Vals [x,y] us):∃u w',us=[u,w']/\RelV x u/\RelV y w':=by
 cases r with
 | cons r1 r2 =>
  cases r2 with
  | cons r3 r4=>cases r4;exact⟨_,_,rfl,r1,r3⟩
theorem Fb(hc:X.calm=true):CallR X (.builtin "max") (λxs H Q=>∃i j,xs=[.int i,.int j]/\Q (.int (if j > i then j else i)) H):=by
 intro aa s U H xs us Q I r h;obtain⟨i,j,rfl,q⟩:=h;obtain⟨u,w',rfl,⟨t,rfl⟩,⟨t',rfl⟩⟩:=vals2 r;refine max_two_ints (I.ok.hd hc) λh' tk k=>⟨_,H,I.kept k,?_,q⟩
 by_cases hj:j > i
 ·rw[if_pos hj,if_pos hj];exact⟨_,rfl⟩
 ·rw[if_neg hj,if_neg hj];exact⟨_,rfl⟩
theorem LG(hc:X.calm=true):CallR X (.builtin "min") (λxs H Q=>∃i j,xs=[.int i,.int j]/\Q (.int (if j < i then j else i)) H):=by
 intro aa s U H xs us Q I r h;obtain⟨i,j,rfl,q⟩:=h;obtain⟨u,w',rfl,⟨t,rfl⟩,⟨t',rfl⟩⟩:=vals2 r;refine min_two_ints (I.ok.hd hc) λh' tk k=>⟨_,H,I.kept k,?_,q⟩
 by_cases hj:j < i
 ·rw[if_pos hj,if_pos hj];exact⟨_,rfl⟩
 ·rw[if_neg hj,if_neg hj];exact⟨_,rfl⟩
end
structure Room(k:Nat)(A:PB):Prop where
 hd:A.handled=none
 dp:A.depth+3*k+5 < recursionLimit
 un:A.units+16*k+200 < PK
 gd:A.guards=some []
theorem Room.mono(r:Room k A)(h:j<=k):Room j A:=⟨r.hd,by have:=r.dp;omega,by have:=r.un;omega,r.gd⟩
theorem Room.deeper(r:Room (k+1) A)(env:Env):Room k (A.deeper env):=
 ⟨r.hd,by have:=r.dp;show A.depth+1+3*k+5 < _;omega,by have:=r.un;show A.units+3+16*k+200 < _;omega,r.gd⟩
theorem Room.depth(r:Room k A):A.depth < recursionLimit:=by have:=r.dp;omega
theorem Room.units(r:Room k A):A.units+64 < PK:=by have:=r.un;omega
noncomputable def tNil:TA:=λ_ H Q=>Q [] H
noncomputable def tCons(ta:TE)(tr:TA):TA:=λU H Q=>ta U H λx H1=>tr U H1 λxs H2=>Q (x::xs) H2
section
variable{X:Cx}{es:List OU}{te:TE}{t:TA}
theorem vh:PA X [] tNil:=λ_ _ _ _ H Q I h=>Sq ⟨[],H,I,.nil,h⟩
theorem ue(ha:PE X e te)(hr:PA X es t)(hs:g_ (e::es) X.env=(false,O1 e X.env)::g_ es X.env:=by rfl):PA X (e::es) (tCons te t):=by
 intro pos aa s U H Q I h;rw[hs];show o_ _ _ (spliced ((false,O1 e X.env)::Pa pos (g_ es X.env))) _ _ s;refine R_ (thn (ha aa s U H _ I h) λu s1 ⟨x,H1,I1,r1,q1⟩=>?_);exact thn (hr pos aa s1 U H1 _ I1 q1) λus s2 ⟨xs,H2,I2,r2,q2⟩=>⟨x::xs,H2,I2,.cons r1 r2,q2⟩
noncomputable def tTup(t:TA):TE:=λU H Q=>t U H λxs H1=>xs.length<=x_/\∀p,H1 p=none->Q (.ref p) (upd H1 p (.tup xs))
noncomputable def tLst(t:TA):TE:=λU H Q=>t U H λxs H1=>xs.length<=x_/\∀p,H1 p=none->Q (.ref p) (upd H1 p (.lst xs))
theorem Fi{x1}(h:PA X es t):PE X (.Tuple es x1 pos) (tTup t):=by
 intro aa s U H Q I hq;refine wpAny_Tuple_spliced (thn (h pos aa s U H _ I hq) λus s1 ⟨xs,H1,I1,r,z,q⟩=>⟨by rw[←r.length];exact z,?_⟩);have hf:H1 s1.heap.objs.size=none:=I1.hok.fresh (v_ _);refine⟨.ref s1.heap.objs.size,upd H1 s1.heap.objs.size (.tup xs),I1.laid (t':=s1.toks) (λb u e=>e_ _ e) (v_ _) ?_,rfl,q _ hf⟩;exact⟨z,us,r,⟨_,t_ _ rfl,rfl,_,rfl⟩⟩
theorem L3(h:PA X es t):PE X (.List es pos) (tLst t):=by
 intro aa s U H Q I hq;refine wpAny_List_spliced (thn (h pos aa s U H _ I hq) λus s1 ⟨xs,H1,I1,r,z,q⟩=>⟨by rw[←r.length];exact z,?_⟩);have hf:H1 s1.heap.objs.size=none:=I1.hok.fresh (v_ _);refine⟨.ref s1.heap.objs.size,upd H1 s1.heap.objs.size (.lst xs),I1.laid (t':=s1.toks) (λb u e=>e_ _ e) (v_ _) ?_,rfl,q _ hf⟩;exact⟨z,us,0,r,t_ _ rfl⟩
end
abbrev Sp:=List V->Hp->VK->XK->Prop
abbrev CXT:=List Env->Hp->d_->XK->b_->d_->Prop
structure Env0(P:C_)(w:J_)(K:PySem.W.Frag)(mg:Str->Option b_)(base:I_)(A:PB)(outer:List Env)(s:d_)(H:Hp):Prop where
 frames:A.frames=some outer
 mod:Mod K mg base
 bs:∀b o,base.get? b=some o->s.heap.get? b=some o/\H b=none
 bsz:base.objs.size<=s.heap.objs.size
 funs:s.heap.FunFrames base outer
 frf:∀b∈frs outer,H b=none
 hok:HOk P w H s.heap
 bare:So s.gens
def CE(outer:List Env)(P:C_)(w:J_)(H:Hp)(s:d_)(Q:VK)(u:b_)(s':d_):Prop:=
 ∃v H',s'.os=s.os/\So s'.gens/\Un (frs outer) [] H H' s.heap s'.heap/\HOk P w H' s'.heap/\RelV v u/\Q v H'
def CR(CX:CXT)(outer:List Env)(P:C_)(w:J_)(H:Hp)(s:d_)(Q:VK)(E:XK)(r:Result)(s':d_):Prop:=
 match r with
 | .ok (.ret u)=>CE outer P w H s Q u s'
 | .ok _=>False
 | .error e=>CX outer H s E e s'
structure FnOk(P:C_)(w:J_)(K:PySem.W.Frag)(mg:Str->Option b_)(base:I_)(CX:CXT)(k:Nat)(f:l_)(fd:Qt)(ps:List Str)(sp:Sp):Prop where
 len:∀vs H Q E,sp vs H Q E->vs.length=ps.length
 run:∀(A:PB) (outer:List Env) (s:d_) (H:Hp) (args:Args) (us:List b_) (vs:List V) (Q:VK) (E:XK),Room k A->Env0 P w K mg base A outer s H->Ul s fd args (ps.zip us)->Vals vs us->sp vs H Q E →
  Ra (s_ P w) A (.call (.ref f) args) (CR CX outer P w H s Q E) s
section
variable{X:Cx}{U:St}{H:Hp}{s:d_}
theorem Inv.env0(I:Inv X aa U H s):Env0 X.prog X.w X.K X.mg X.base X.A X.stack s H:=
 ⟨I.ok.frames,I.ok.mod,I.bs,E_ I.ok.bsz I.sz,I.stack,I.stkFree,I.hok,I.bare⟩
theorem Inv.after{Q:VK}(I:Inv X aa U H s)(h:CE X.stack X.prog X.w H s Q u s'):EP X aa U Q u s':=by
 obtain⟨v,H',os,bare,un,hok,r,q⟩:=h;obtain⟨hh,g,d,t,gm⟩:=s';obtain rfl:gm=s.os:=os;exact⟨v,H',I.call (h':=hh) (g':=g) (d':=d) (t':=t) (ch:=[]) un hok bare (λb z=>absurd z (by simp)),r,q⟩
end
noncomputable def tCall(sp:Sp)(dU:List V)(E:XK)(t:TA):TE:=λU H Q=>t U H λvs H1=>sp (vs++dU) H1 Q E
def Binds(K:PySem.W.Frag)(fd:Qt)(ps:List Str)(ds:List b_):Prop:=
 ∀(s:d_) (us:List b_),K.In s.heap->(us++ds).length=ps.length->Ul s fd ⟨us,[]⟩ (ps.zip (us++ds))
theorem Binds.all{K:PySem.W.Frag}{ps:List Str}(h:∀us:List b_,us.length=ps.length->Qf fd ⟨us,[]⟩=pure (ps.zip us)):Binds K fd ps []:=λs us _ hl=>by
 rw[PY] at hl ⊢;exact .of_eq (h us hl)
def Passes(CX:CXT)(X:Cx)(E:XK):Prop:=∀(aa:List (l_×Obj)) (U:St) (H:Hp) (s:d_) (e:b_) (s':d_),Inv X aa U H s->CX X.stack H s E e s'->X.xe e s'
section
variable{X:Cx}{CX:CXT}{C:l_}{ps:List Str}{sp:Sp}{dU:List V}{ds:List b_}{E:XK}{m:Str}{p:Pos}{o:OU}{es:List OU}{ta:TE}{t:TA}
theorem K5{U:St}{H:Hp}{s:d_}{Q:VK}{vs:List V}(F:FnOk X.prog X.w X.K X.mg X.base CX k f fd ps sp)(hr:Room k X.A)(hb:Binds X.K fd ps ds)(hd:Vals dU ds)(hx:Passes CX X E)(I:Inv X aa U H s)(r:Vals vs us)(h:sp (vs++dU) H Q E):o_ (s_ X.prog X.w) X.A (call (.ref f) us) (EP X aa U Q) X.xe s:=by
 have r2:Vals (vs++dU) (us++ds):=r.append hd;have hl:(us++ds).length=ps.length:=by rw[←r2.length];exact F.len _ _ _ _ h
 refine wpAny_call (QN (F.run X.A X.stack s H ⟨us,[]⟩ (us++ds) (vs++dU) Q E hr I.env0 (hb s us I.kIn hl) r2 h) λr s' hq=>?_);cases r with
 | error e=>exact hx aa U H s e s' I hq
 | ok fl =>
  cases fl with
  | ret u=>exact I.after hq
  | next=>exact Vq hq
  | brk=>exact Vq hq
  | cont=>exact Vq hq
theorem wg(F:FnOk X.prog X.w X.K X.mg X.base CX k f fd ps sp)(hr:Room k X.A)(hg:Gl X x)(hm:X.mg x=some (.ref f))(hk:Qw X.K (.ref f)=true)(hb:Binds X.K fd ps ds)(hd:Vals dU ds)(hx:Passes CX X E)(ha:PA X (e::es) t)(bA:(x == ("__debug__":Str))=false:=by decide)(he:g_ (e::es) X.env=(false,O1 e X.env)::g_ es X.env:=by rfl)(aK:(Pa pos (g_ es X.env)).any (·.1)=false:=by rfl):
  PE X (.Call (.Name x p) (e::es) [] pos) (tCall sp dU E t):=by
 intro aa s U H Q I h;refine Qr (GL I hg hm ?_ bA);refine PySem.W.callWith_K (h₀:=X.base) I.ok.mod.kin hk (thn (ha pos aa s U H _ I h) λus s1 ⟨vs,H1,I1,r,q⟩=>⟨I1.kIn,?_⟩) he aK;exact K5 F hr hb hd hx I1 r q
end
structure FnScope(N P:List Str)(sc:R5):Prop where
 kind:sc.kind=.function
 co:sc.isCoroutine=false
 gen:sc.isGenerator=false
 nd:N.Nodup
 pre:N.take P.length=P
 par:∀x∈P,sc.names.lookup x=some .local\/sc.names.lookup x=some .cell
 nofree:∀y∈sc.names,y.2≠.free
theorem Db{kindOf:Str->Option Pi}{x:Str}:∀{binds:List (Str×b_)}{m:Str->Option b_},(∀v,(x,v)∉binds)->U0 kindOf binds m x=m x
 | [],_,_=>rfl
 | (n,v)::r,m,h=>by
  unfold U0;rw[Db λw hw=>h w (h_ _ hw)];split
  ·have:x≠n:=by rintro rfl;exact h v j_
   simp[this]
  ·rfl
theorem AZ{kindOf:Str->Option Pi}{x:Str}:∀{binds:List (Str×b_)}{m:Str->Option b_},(∀v,(x,v)∉binds)->U2 kindOf binds m x=m x
 | [],_,_=>rfl
 | (n,v)::r,m,h=>by
  unfold U2;rw[AZ λw hw=>h w (h_ _ hw)];split
  ·rfl
  ·have:x≠n:=by rintro rfl;exact h v j_
   simp[this]
theorem AA{kindOf:Str->Option Pi}{x:Str}{v:b_}:∀{P:List Str}{vs:List b_}{i:Nat}{m:Str->Option b_},P.Nodup->P[i]?=some x->vs[i]?=some v->kindOf x=some .local →
  U0 kindOf (P.zip vs) m x=some v
 | [],_,_,_,_,h,_,_=>by simp at h
 | _::_,[],_,_,_,_,h,_=>by simp at h
 | p::P,w::vs,0,m,nd,h1,h2,hk=>by
  simp at h1 h2;subst h1;subst h2;show U0 kindOf ((p,w)::P.zip vs) m p=_;unfold U0;rw[Db λv hv=>(Pc.mp nd).1 (U3 hv).1,if_pos hk];simp
 | p::P,w::vs,i+1,m,nd,h1,h2,hk=>by
  show U0 kindOf ((p,w)::P.zip vs) m x=_;unfold U0;exact AA (i:=i) (Pc.mp nd).2 (by simpa using h1) (by simpa using h2) hk
theorem BS{kindOf:Str->Option Pi}{x:Str}{v:b_}:∀{P:List Str}{vs:List b_}{i:Nat}{m:Str->Option b_},P.Nodup->P[i]?=some x->vs[i]?=some v->kindOf x≠some .local →
  U2 kindOf (P.zip vs) m x=some v
 | [],_,_,_,_,h,_,_=>by simp at h
 | _::_,[],_,_,_,_,h,_=>by simp at h
 | p::P,w::vs,0,m,nd,h1,h2,hk=>by
  simp at h1 h2;subst h1;subst h2;show U2 kindOf ((p,w)::P.zip vs) m p=_;unfold U2;rw[AZ λv hv=>(Pc.mp nd).1 (U3 hv).1,if_neg hk];simp
 | p::P,w::vs,i+1,m,nd,h1,h2,hk=>by
  show U2 kindOf ((p,w)::P.zip vs) m x=_;unfold U2;exact BS (i:=i) (Pc.mp nd).2 (by simpa using h1) (by simpa using h2) hk
noncomputable def start(N:List Str)(vs:List V):St:=vs.map some++OZ (N.length - vs.length) none
noncomputable def cxOf(CX:CXT)(P:C_)(w:J_)(K:PySem.W.Frag)(mg:Str->Option b_)(base:I_)(N:List Str)(qual:Str)(scope:R5)(f:l_)(cd:b_)(A:PB)(outer:List Env)(s:d_)(H:Hp)(E:XK):Cx where
 prog:=P
 w:=w
 K:=K
 mg:=mg
 base:=base
 A:=A.deeper (S0 qual scope s.heap.objs.size f cd)
 N:=N
 s₀:=s
 H₀:=H
 env:=S0 qual scope s.heap.objs.size f cd
 outer:=outer
 stack:=S0 qual scope s.heap.objs.size f cd::outer
 ex:=[]
 calm:=true
 fn:=λ_=>true
 pn:=[]
 xe:=λe s'=>o_ (s_ P w) (A.deeper (S0 qual scope s.heap.objs.size f cd)) (leaving (S0 qual scope s.heap.objs.size f cd) e) (λ_ fM=>CX outer H s E e fM) (λe' fM=>CX outer H s E e' fM) s'
theorem A5{sc:R5}(h:sc.names.lookup x=some .cell):∃c,(cellsFrom n sc.names []).lookup x=some c:=by
 have q:=PySem.W.cellsFrom_some sc.names n [] (.inl h);exact Rb.mp q
theorem IE{CX:CXT}{P:C_}{w:J_}{K:PySem.W.Frag}{N ps:List Str}{outer:List Env}{s s1:d_}{H:Hp}{E:XK}{vs:List V}(S:FnScope N ps scope)(hd:A.handled=none)(e0:Env0 P w K mg base A outer s H)(hl:vs.length=ps.length)(r:Vals vs us)(x:InCallC s s.heap.objs.size (U0 (S0 qual scope s.heap.objs.size f cd).kindOf (ps.zip us) λ_=>none) (cellsFrom (s.heap.objs.size+1) scope.names []) (U2 (S0 qual scope s.heap.objs.size f cd).kindOf (ps.zip us) λ_=>none) s1):
  Inv (cxOf CX P w K mg base N qual scope f cd A outer s H E) [] (start N vs) H s1:=by
 have aK:ps.length<=N.length:=by have:=congrArg length S.pre;rw[RI] at this;omega
 obtain⟨h1,tk,rfl,hk⟩:=x.done;have gr:∀b:l_,b∉(cxOf CX P w K mg base N qual scope f cd A outer s H E).ex:=λb z=>absurd (show b∈([]:List l_) from z) (by simp)
 refine⟨⟨e0.mod,S.kind,rfl,rfl,v_ _,λy z c h1 h2=>?_,λy hy=>?_,λy c _ h=>?_,λ_=>hd,PB.frames_deeper e0.frames,.inr ⟨rfl,rfl⟩,λb z=>absurd z (gr b),e0.bs,e0.bsz,λb _ _=>gr b,λb z=>absurd z (gr b),e0.funs,e0.frf⟩,
  rfl,e0.bare,Un.kept hk,⟨_,x.toInCall.ns,λi y v h1 h2 h3=>?_⟩,λy c h=>⟨_,x.cell y c h⟩,e0.hok.fresh (v_ _),λy c h=>?_,λp hp=>absurd (show p∈([]:List (l_×Obj)) from hp) (by simp),e0.hok.kept hk,?_⟩
 ·exact name_of_addr x.apart (PySem.mem_of_lookup h1) (PySem.mem_of_lookup h2)
 ·have hy:scope.names.lookup y=some .cell\/scope.names.lookup y=some .free:=hy
  rcases hy with hy | hy
  ·exact A5 hy
  ·exact absurd rfl (S.nofree _ (PySem.mem_of_lookup hy))
 ·exact Q9 (x.above y c (PySem.mem_of_lookup h))
 ·have hi:i < vs.length:=by
   unfold start at h2;by_cases hi:i < vs.length
   ·exact hi
   ·rw[Pt (by simpa using hi)] at h2;rw[Qg] at h2;split at h2<;>cases h2
  have ha:vs[i]?=some v:=by
   unfold start at h2;rw[P8 (by simpa using hi),B_] at h2;cases e:vs[i]? with
   | none=>rw[e] at h2;cases h2
   | some a=>rw[e] at h2;cases h2;rfl
  obtain⟨u,hu,rv⟩:=r.get ha
  have hp:ps[i]?=some y:=by
   rw[←S.pre,SC (by omega)];exact h1
  have lg:ps.Nodup:=by rw[←S.pre];exact S.nd.sublist (List.take_sublist _ _)
  refine⟨u,rv,?_⟩
  rcases S.par y (K_ hp) with k | k
  ·exact .inl ⟨k,AA lg hp hu k⟩
  ·obtain⟨c,e⟩:=A5 (n:=s.heap.objs.size+1) k;refine .inr ⟨.inl k,c,e,?_⟩;have q:=x.cell y c e;rw[BS lg hp hu (by show scope.names.lookup y≠_;rw[k];decide)] at q;exact q
 ·exact e0.hok.fresh (Q9 (x.above y c (PySem.mem_of_lookup h)))
 ·unfold start;show _=N.length;rw[y_,w_,OR];omega
theorem HC{CX:CXT}{P:C_}{w:J_}{K:PySem.W.Frag}{name:Str}{body:List Pb}{dV kV bG aA:b_}{N ps:List Str}{sp:Sp}(lk:K.lookup f=some ⟨oc,od,.func (S1 name qual params body scope dV kV bG pm an aA ct),dW⟩)(ck:codeIn K aA qual=true)(S:FnScope N ps scope)(len:∀vs H Q E,sp vs H Q E->vs.length=ps.length)(eS:∀(A:PB) (outer:List Env) (s:d_) (H:Hp) (vs:List V) (Q:VK) (E:XK),Room k (A.deeper (S0 qual scope s.heap.objs.size f aA))->sp vs H Q E →
   ∃t,PSs (cxOf CX P w K mg base N qual scope f aA A outer s H E) body t/\t { nx:=λ_ H'=>Q .non H',rt:=Q } (start N vs) H):
  FnOk P w K mg base CX (k+1) f (S1 name qual params body scope dV kV bG pm an aA ct) ps sp:=by
 refine⟨len,λA outer s H args us vs Q E hr e0 hb r dX=>?_⟩;have hl:=len _ _ _ _ dX;have KX:K.In s.heap:=e0.mod.kin.keeps λb o e=>(e0.bs b o e).1
 have lim:s.heap.NoLimit:=e0.mod.nolimit.keeps λb o e=>(e0.bs b o e).1
 have jT:∀y∈ps.zip us,scope.names.lookup y.1=some .local\/(scope.names.lookup y.1=some .cell/\((cellsFrom (s.heap.objs.size+1) scope.names []).lookup y.1).isSome=true):=λ⟨n,v⟩ hy=>by
  rcases S.par n (U3 hy).1 with q | q
  ·exact .inl q
  ·exact .inr ⟨q,PySem.W.cellsFrom_some _ _ _ (.inl q)⟩
 refine codeAny_call_function hr.depth (KX _ _ lk) rfl S.co S.gen rfl (PySem.W.codeRec_of KX ck) (hb _ _ _ _ ?_);refine wpAny_newFunctionEnv_cells S.kind jT λenv he s1 x=>?_
 subst he;refine⟨lim.keeps x.toInCall.keep,codeAny_func ?_⟩;obtain⟨t,ht,hq⟩:=eS A outer s H vs Q E (hr.deeper _) dX;have I:Inv (cxOf CX P w K mg base N qual scope f aA A outer s H E) [] (start N vs) H s1:=IE S hr.hd e0 hl r x;refine Pp (ht [] s1 (start N vs) H _ I hq) (λfl s' hs=>?_) λe s' hs=>hs
 have fin:∀{am:St}{H':Hp}{v:V}{u:b_},Inv (cxOf CX P w K mg base N qual scope f aA A outer s H E) [] am H' s'->RelV v u->Q v H'->CE outer P w H s Q u s':=
  λ{am H' v u} J rv q=>⟨v,H',J.os,J.bare,J.base,J.hok,rv,q⟩
 cases fl with
 | ret u =>
  obtain⟨v,am,H',J,rv,q⟩:=hs;exact fin J rv q
 | next =>
  obtain⟨am,H',J,q⟩:=hs;exact fin (v:=V.non) (u:=b_.none) J rfl q
 | brk =>
  obtain⟨_,_,_,q⟩:=hs;exact Vq q
 | cont =>
  obtain⟨_,_,_,q⟩:=hs;exact Vq q
section
variable{X:Cx}{p:Pos}{es:List OU}{t:TA}{id T:String}{r:List V->Hp->VK->Prop}
noncomputable def tCB(r:List V->Hp->VK->Prop)(t:TA):TE:=λU H Q=>t U H λvs H1=>r vs H1 Q
theorem wE(hc:CallR X (.builtin id) r)(hg:Gl X x)(hm:X.mg x=none)(hv:P7 x=some (.builtin id))(ha:PA X (e::es) t)(hn:x ≠ "__name__":=by decide)(bA:(x == ("__debug__":Str))=false:=by decide)(he:g_ (e::es) X.env=(false,O1 e X.env)::g_ es X.env:=by rfl)(aK:(Pa pos (g_ es X.env)).any (·.1)=false:=by rfl):PE X (.Call (.Name x p) (e::es) [] pos) (tCB r t):=by
 intro aa s U H Q I h;refine Qr (sw I hg hm hv ?_ hn bA);exact Ry (thn (ha pos aa s U H _ I h) λus s1 ⟨vs,H1,I1,r1,q1⟩=>hc aa s1 U H1 vs us Q I1 r1 q1) he aK
theorem BZ(hc:CallR X (.type T) r)(hg:Gl X x)(hm:X.mg x=none)(hv:P7 x=some (.type T))(ha:PA X (e::es) t)(hn:x ≠ "__name__":=by decide)(bA:(x == ("__debug__":Str))=false:=by decide)(he:g_ (e::es) X.env=(false,O1 e X.env)::g_ es X.env:=by rfl)(aK:(Pa pos (g_ es X.env)).any (·.1)=false:=by rfl):PE X (.Call (.Name x p) (e::es) [] pos) (tCB r t):=by
 intro aa s U H Q I h;refine Qr (sw I hg hm hv ?_ hn bA);exact OJ (thn (ha pos aa s U H _ I h) λus s1 ⟨vs,H1,I1,r1,q1⟩=>hc aa s1 U H1 vs us Q I1 r1 q1) he aK
end
end L2
variable{xs zs:List L2.V}{o:L2.HO}{X:L2.Cx}{U:L2.St}{H' H2 I I' G I0 J:L2.Hp}{ta:L2.TA}{ks:List L2.Key}{v0:L2.V}
namespace HT
open PySem PyProof.Rows
section
variable{prog:C_}{w:J_}{E:b_->d_->Prop}{s:d_}
theorem IV{t:l_}{ws:List b_}{Q:b_->d_->Prop}(ht:UU s.heap t vs.toArray)(hb:UU s.heap b ws.toArray)(hv:vs≠[])(h1:ws=[]->Q (.ref t) s)(h2:ws≠[]->Q (.ref s.heap.objs.size) { s with heap:=s.heap.push { cls:=.type "tuple", data:=.seq (vs++ws).toArray } })(hsz:vs.length+ws.length<=x_):o_ (s_ prog w) A (Qe .Add (.ref t) (.ref b)) Q E s:=by
 obtain⟨⟨cls,dd,data,sl⟩,ho,hc,n,hd⟩:=id ht;obtain⟨⟨lh,iK,data2,iL⟩,eT,dB,n2,dC⟩:=id hb;simp only at hc hd dB dC;subst hc hd dB dC;have e:vs.toArray++ws.toArray=(vs++ws).toArray:=by simp
 by_cases hw:ws=[]
 ·exact Um ⟨_,ho,rfl⟩ ⟨_,eT,rfl⟩ SO T7 Tn S_ (SQ _ _)
   (tuple_addW1 t b vs.toArray ws.toArray n n2 dd iK sl iL (by simpa using hv) (by simp[hw])) ⟨ho,eT,h1 hw⟩
 ·refine Um ⟨_,ho,rfl⟩ ⟨_,eT,rfl⟩ SO T7 Tn S_ (SQ _ _)
   (tuple_addW2 t b vs.toArray ws.toArray n n2 dd iK sl iL (by simpa using hv) (by simpa using hw) (by rw[q_,q_];exact hsz)) ⟨ho,eT,?_⟩
  rw[e];exact h2 hw
noncomputable def sIx(n d:Nat):Option Int->Nat
 | none=>d
 | some v=>if v < 0 then(v+(n:Int)).toNat else min v.toNat n
theorem wB(n d:Nat):sIx n d none=d:=rfl
theorem KY(n d:Nat)(hd:d<=n)(o:Option Int):sIx n d o<=n:=by
 cases o with
 | none=>exact hd
 | some v =>
  show(if v < 0 then(v+(n:Int)).toNat else min v.toNat n)<=n;by_cases hv:v < 0
  ·rw[if_pos hv];omega
  ·rw[if_neg hv];exact Nat.min_le_right _ _
theorem Dm(v:Int)(n d:Nat):(if v < 0 then max (v+(n:Int)) 0 else min v (n:Int))=((sIx n d (some v):Nat):Int):=by
 show(if v < 0 then max (v+(n:Int)) 0 else min v (n:Int))=(((if v < 0 then(v+(n:Int)).toNat else min v.toNat n):Nat):Int);by_cases hv:v < 0
 ·simp only[if_pos hv];omega
 ·simp only[if_neg hv];omega
theorem JA(lo hi:Option Int)(n:Nat):UM lo hi 1 (n:Int)=(((sIx n 0 lo:Nat):Int),((sIx n n hi:Nat):Int)):=by
 have h1:¬((1:Int) < 0):=by omega
 unfold UM;simp only[h1,if_false];refine U4 ?_ ?_
 ·cases lo with
  | none=>rfl
  | some v=>exact Dm v n 0
 ·cases hi with
  | none=>rfl
  | some v=>exact Dm v n n
theorem L8(i j:Nat):Tp (i:Int) (j:Int) 1=j - i:=by
 unfold Tp;have h1:(1:Int) > 0:=by omega
 simp only[h1,if_true,Int.ediv_one];split<;>omega
theorem A8{v:b_}{o:Option Int}{Q:Option Int->d_->Prop}(p:Ud v o)(h:Q o s):o_ (s_ prog w) A (P3.Slice.slicePartIndex v) Q E s:=by
 cases p with
 | none=>exact slicePart_none h
 | int i t=>exact slicePart_int h
theorem FT{sl:l_}{lo:Option Int}{Q:Int×Int×Nat->d_->Prop}(hs:s.heap.IsSliceOf sl vl vu .none)(pl:Ud vl lo)(pu:Ud vu hi)(h:Q (((sIx n 0 lo:Nat):Int),1,sIx n n hi - sIx n 0 lo) s):o_ (s_ prog w) A (sliceApplied (.ref sl) (pure (n:Int))) Q E s:=by
 obtain⟨os,gx,lj,fN⟩:=id hs;unfold sliceApplied P3.Slice.sliceFields;refine a_ (a_ (OX gx fN (x:=vl) rfl (a_ (OX gx fN (x:=vu) rfl (a_ (OX gx fN (x:=.none) rfl (c_ ?_)))))));refine a_ (slicePart_none ?_);show o_ _ _ (if((1:Int) == 0)=true then _ else _) _ _ s;rw[if_neg (by decide)];refine a_ (A8 pl (a_ (A8 pu (a_ (c_ ?_)))));show o_ _ _ (match UM lo hi 1 (n:Int) with | (lo,hi)=>pure (lo,(1:Int),Tp lo hi 1)) _ _ s;rw[JA lo hi n];show o_ _ _ (pure (((sIx n 0 lo:Nat):Int),(1:Int),Tp ((sIx n 0 lo:Nat):Int) ((sIx n n hi:Nat):Int) 1)) _ _ s;rw[L8];exact c_ h
theorem KQ(xs:Array b_)(i k:Nat):((Pk k).filterMap λ(m:Nat)=>xs[((i:Int)+(m:Int)*1).toNat]?).toArray=((xs.toList.drop i).take k).toArray:=by
 have e:(λ(m:Nat)=>xs[((i:Int)+(m:Int)*1).toNat]?)=λm=>xs[i+m]?:=by
  funext m
  have:((i:Int)+(m:Int)*1).toNat=i+m:=by omega
  rw[this]
 rw[e];have:=pick_run xs i k;rw[List.filterMap_map] at this;have e2:((λx=>xs[x]?)∘λx=>i+x)=λm=>xs[i+m]?:=rfl
 rw[e2] at this;rw[this]
theorem L5{t sl:l_}{lo:Option Int}{Q:b_->d_->Prop}(ht:UU s.heap t ai)(hs:s.heap.IsSliceOf sl vl vu .none)(pl:Ud vl lo)(pu:Ud vu hi)(hw:¬(sIx ai.size 0 lo=0/\sIx ai.size ai.size hi=ai.size))(h:Q (.ref s.heap.objs.size) { s with heap:=s.heap.push { cls:=.type "tuple", data:=.seq ((ai.toList.drop (sIx ai.size 0 lo)).take (sIx ai.size ai.size hi - sIx ai.size 0 lo)).toArray } })(hsz:ai.size<=x_):o_ (s_ prog w) A (UR (.ref t) (.ref sl)) Q E s:=by
 have dD:sizeOk (.seq ((ai.toList.drop (sIx ai.size 0 lo)).take (sIx ai.size ai.size hi - sIx ai.size 0 lo)).toArray):=by
  show((ai.toList.drop (sIx ai.size 0 lo)).take (sIx ai.size ai.size hi - sIx ai.size 0 lo)).toArray.size<=x_;rw[q_,RI,RJ,O2];omega
 have hj:sIx ai.size ai.size hi<=ai.size:=KY _ _ (v_ _) hi;obtain⟨os,gx,lj,fN⟩:=id hs;have nN:s.TypeIs (.ref sl) "slice":=⟨os,gx,lj⟩;unfold UR
 try with_reducible refine OT ?_
 first | refine a_ (c_ ?_) | skip
 refine a_ (wpAny_sequenceKey ht.typeIs (by decide) ?_)
 refine a_ (OM (name:=Re "__getitem__") ht.typeIs Qd
  (ON Qd ht.typeIs entry_tuple_getitem ?_ (args_tuple_getitem _ _)))
 show o_ _ _ (tupleItemsOf (.ref t) >>= _) _ _ s;refine a_ (tupleItemsOf_ ht ?_);refine a_ (RW nN ?_);rw[if_pos (by decide)];refine a_ (FT hs pl pu ?_)
 have nO:¬((((sIx ai.size 0 lo:Nat):Int) == 0&&(1:Int) == 1&&(sIx ai.size ai.size hi - sIx ai.size 0 lo) == ai.size)=true):=by
  intro q;rw[OP,OP] at q;have q1:((sIx ai.size 0 lo:Nat):Int)=0:=eq_of_beq q.1.1;have q2:sIx ai.size ai.size hi - sIx ai.size 0 lo=ai.size:=eq_of_beq q.2;exact hw ⟨by omega,by omega⟩
 show o_ _ _ (if(((sIx ai.size 0 lo:Nat):Int) == 0&&(1:Int) == 1&&(sIx ai.size ai.size hi - sIx ai.size 0 lo) == ai.size)=true then _ else _) _ _ s;rw[if_neg nO,KQ]
 first
  | exact a_ (m:=Ue _) (M_ (c_ ⟨_,rfl,c_ h⟩) dD)
  | exact a_ (m:=Ue _) (M_ (a_ (c_ (c_ ⟨_,rfl,c_ h⟩))) dD)
  | exact a_ (a_ (m:=Ue _) (M_ (c_ (c_ ⟨_,rfl,c_ h⟩)) dD))
  | exact a_ (a_ (m:=Ue _) (M_ (c_ ⟨_,rfl,c_ h⟩) dD))
end
end HT
namespace L2
open PySem PySem.Spec PyProof.Rows
abbrev TO:=St->Hp->(Option Int->Hp->Prop)->Prop
def PO(X:Cx)(e:Option OU)(t:TO):Prop:=
 ∀(aa:List (l_×Obj)) (s:d_) (U:St) (H:Hp) (Q:Option Int->Hp->Prop),Inv X aa U H s->t U H Q →
  o_ (s_ X.prog X.w) X.A (evalPart e X.env) (λu s'=>∃o H',Inv X aa U H' s'/\Ud u o/\Q o H') X.xe s
noncomputable def tNoPart:TO:=λ_ H Q=>Q none H
noncomputable def tPart(t:TE):TO:=λU H Q=>t U H λx H1=>∃i,x=.int i/\Q (some i) H1
section
variable{te:TE}{lo hi:Option OU}{tl th:TO}
theorem EH:PO X none tNoPart:=by
 intro aa s U H Q I h;rw[T9];exact c_ ⟨none,H,I,.none,h⟩
theorem Kw(h:PE X e te):PO X (some e) (tPart te):=by
 intro aa s U H Q I hw;rw[evalPart_some];refine thn (h aa s U H _ I hw) λu s1 ⟨x,H1,I1,r1,q1⟩=>?_
 obtain⟨i,rfl,q⟩:=q1;obtain⟨t,rfl⟩:=r1;exact⟨some i,H1,I1,.int i t,q⟩
def SlR(X:Cx)(r:V->Option Int->Option Int->Hp->VK->Prop):Prop:=
 ∀(aa:List (l_×Obj)) (s:d_) (U:St) (H:Hp) (x:V) (v vl vu:b_) (lo hi:Option Int) (sl:l_) (Q:VK),Inv X aa U H s->RelV x v->s.heap.IsSliceOf sl vl vu .none->Ud vl lo->Ud vu hi->r x lo hi H Q →
  ∃T id,typeLookup (.type T) "__getitem__"=pure (some (.builtin id))/\s.TypeIs v T/\o_ (s_ X.prog X.w) X.A (UR v (.ref sl)) (EP X aa U Q) X.xe s
theorem SlR.or{r r':V->Option Int->Option Int->Hp->VK->Prop}(h:SlR X r)(h':SlR X r'):SlR X (λx lo hi H Q=>r x lo hi H Q\/r' x lo hi H Q):=by
 intro aa s U H x v vl vu lo hi sl Q I rx hs pl pu q
 rcases q with q | q
 ·exact h aa s U H x v vl vu lo hi sl Q I rx hs pl pu q
 ·exact h' aa s U H x v vl vu lo hi sl Q I rx hs pl pu q
noncomputable def tSl(r:V->Option Int->Option Int->Hp->VK->Prop)(te:TE)(tl th:TO):TE:=λU H Q=>te U H λx H1=>tl U H1 λl H2=>th U H2 λu H3=>r x l u H3 Q
theorem GN{r:V->Option Int->Option Int->Hp->VK->Prop}(hr:SlR X r)(he:PE X e te)(hl:PO X lo tl)(hu:PO X hi th):PE X (.Subscript e (.Slice lo hi none p2) pos) (tSl r te tl th):=by
 intro aa s U H Q I h;refine U5 (thn (he aa s U H _ I h) λv s1 ⟨x,H1,I1,r1,q1⟩=>?_);refine wpAny_Slice (thn (hl aa s1 U H1 _ I1 q1) λvl s2 ⟨l,H2,I2,pl,q2⟩=>thn (hu aa s2 U H2 _ I2 q2) λvu s3 ⟨u,H3,I3,pu,q3⟩=>?_);rw[T9];refine c_ ?_;have I4:Inv X aa U H3 { s3 with heap:=s3.heap.push { cls:=.type "slice", data:=.fields #[vl,vu,.none] } }:=I3.kept (t':=s3.toks) λb ob q=>e_ _ q
 obtain⟨T,id,hT,ht,hg⟩:=hr aa { s3 with heap:=s3.heap.push { cls:=.type "slice", data:=.fields #[vl,vu,.none] } } U H3 x v vl vu l u s3.heap.objs.size Q I4 r1 (I_.IsSliceOf.new ..) pl pu q3;show o_ (s_ X.prog X.w) X.A (T' e (.Slice lo hi none p2) v (.ref s3.heap.objs.size)) (EP X aa U Q) X.xe { s3 with heap:=s3.heap.push { cls:=.type "slice", data:=.fields #[vl,vu,.none] } };exact tail_any (ops:=[.ref s3.heap.objs.size,v]) ht hT hg (by with_unfolding_all rfl)
noncomputable def cutV(xs:List V)(lo hi:Option Int):List V:=(xs.drop (HT.sIx xs.length 0 lo)).take (HT.sIx xs.length xs.length hi - HT.sIx xs.length 0 lo)
theorem B5(xs:List V)(lo hi:Option Int):(cutV xs lo hi).length<=xs.length:=by
 unfold cutV;rw[RI,RJ];omega
def rSlT(K:PySem.W.Frag):V->Option Int->Option Int->Hp->VK->Prop:=λx lo hi H Q=>∃a xs,x=.ref a/\SqT K H a xs ∧
 ¬(HT.sIx xs.length 0 lo=0/\HT.sIx xs.length xs.length hi=xs.length)/\∀p,H p=none->Q (.ref p) (upd H p (.tup (cutV xs lo hi)))
theorem LM:SlR X (rSlT X.K):=by
 intro aa s U H x v vl vu lo hi sl Q I rx hs pl pu h;obtain⟨a,xs,rfl,hx,hw,q⟩:=h;cases rx;obtain⟨ae,r,ht,hz⟩:=I.tuple hx;have aQ:ae.toArray.size=xs.length:=by rw[q_];exact r.length.symm
 refine⟨"tuple", _,Qd.lookup,ht.typeIs,?_⟩;refine HT.L5 ht hs pl pu (by rw[aQ];exact hw) ?_ (by rw[aQ];exact hz);rw[aQ];refine⟨.ref s.heap.objs.size,_,I.laid (t':=s.toks) (o:=.tup (cutV xs lo hi)) (λb ob q=>e_ _ q) (v_ _) ?_,rfl,q _ (I.hok.fresh (v_ _))⟩;exact⟨E_ (B5 xs lo hi) hz,_,(r.drop (HT.sIx xs.length 0 lo)).take (HT.sIx xs.length xs.length hi - HT.sIx xs.length 0 lo),UU.new _ _⟩
noncomputable def rCatT(K:PySem.W.Frag):R2:=λx y H Q=>∃a b xs ys,x=.ref a/\y=.ref b/\SqT K H a xs/\SqT K H b ys/\xs≠[]/\xs.length+ys.length<=x_ ∧
 (ys=[]->Q (.ref a) H)/\(ys≠[]->∀p,H p=none->Q (.ref p) (upd H p (.tup (xs++ys))))
theorem Vals.nil_iff(r:Vals xs us):us=[]↔xs=[]:=by
 cases r with
 | nil=>simp
 | cons _ _=>simp
theorem He:OpR X (Qe .Add) (rCatT X.K):=by
 intro aa s U H x y v u Q I rx ry h;obtain⟨a,b,xs,ys,rfl,rfl,ha,hb,hx,hz,q1,q2⟩:=h;cases rx;cases ry;obtain⟨ae,r1,p1,_⟩:=I.tuple ha;obtain⟨bM,r2,p2,_⟩:=I.tuple hb;refine HT.IV p1 p2 (λz=>hx (r1.nil_iff.mp z)) (λz=>⟨.ref a,H,I,rfl,q1 (r2.nil_iff.mp z)⟩) (λz=>?_) (by rw[←r1.length,←r2.length];exact hz);refine⟨.ref s.heap.objs.size,_,I.laid (t':=s.toks) (o:=.tup (xs++ys)) (λb ob q=>e_ _ q) (v_ _) ?_,rfl,q2 (λw=>z (r2.nil_iff.mpr w)) _ (I.hok.fresh (v_ _))⟩;exact⟨by rw[y_];exact hz,_,r1.append r2,UU.new _ _⟩
end
noncomputable def ixN(n:Nat)(i:Int):Option Nat:=if 0<=i then(if i < n then some i.toNat else none) else if -(n:Int)<=i then some (i+n).toNat else none
noncomputable def atI{α:Type}(xs:List α)(i:Int):Option α:=(ixN xs.length i).bind λj=>xs[j]?
theorem DO{i:Int}(h:ixN n i=some j):seqIndex? i n=some j/\j < n/\-(n:Int)<=i/\i < n:=by
 unfold ixN at h;by_cases h0:0<=i
 ·rw[if_pos h0] at h;by_cases h1:i < n
  ·rw[if_pos h1] at h;have e:i.toNat=j:=OL h;exact⟨by rw[UN h0 h1,e],by omega,by omega,h1⟩
  ·rw[if_neg h1] at h;cases h
 ·rw[if_neg h0] at h;by_cases h1:-(n:Int)<=i
  ·rw[if_pos h1] at h;have e:(i+n).toNat=j:=OL h;exact⟨by rw[seqIndex_neg (by omega) h1,e],by omega,h1,by omega⟩
  ·rw[if_neg h1] at h;cases h
theorem BJ{α:Type}{xs:List α}{i:Int}{v:α}(h:atI xs i=some v):∃j,seqIndex? i xs.length=some j/\xs[j]?=some v/\j < xs.length/\-(xs.length:Int)<=i/\i < xs.length:=by
 unfold atI at h;cases e:ixN xs.length i with
 | none=>rw[e] at h;cases h
 | some j =>
  rw[e] at h;obtain⟨h1,h2,h3,h4⟩:=DO e;exact⟨j,h1,h,h2,h3,h4⟩
theorem E4{α:Type}(xs:List α)(v:α):atI (xs++[v]) (-1)=some v:=by
 have hl:(xs++[v]).length=xs.length+1:=by simp
 have e:ixN (xs++[v]).length (-1)=some xs.length:=by
  unfold ixN;rw[hl,if_neg (by decide),if_pos (by omega)]
  congr 1
  omega
 unfold atI;rw[e];show(xs++[v])[xs.length]?=some v;simp
def PlainIx(b:OU):Prop:=∀o i,subscripted b false o i=operate [o,i] (UR o i)
def IxR(X:Cx)(r:R2):Prop:=
 ∀(value bP:OU) (aa:List (l_×Obj)) (s:d_) (U:St) (H:Hp) (x y:V) (v u:b_) (Q:VK),Inv X aa U H s->RelV x v->RelV y u->r x y H Q →
  subscripted bP false v u=operate [v,u] (UR v u)->o_ (s_ X.prog X.w) X.A (T' value bP v u) (EP X aa U Q) X.xe s
def MtR(X:Cx)(id:String)(r:V->List V->Hp->VK->Prop):Prop:=
 ∀(aa:List (l_×Obj)) (s:d_) (U:St) (H:Hp) (x:V) (xs:List V) (v:b_) (us:List b_) (Q:VK),Inv X aa U H s->RelV x v->Vals xs us->r x xs H Q →
  o_ (s_ X.prog X.w) X.A (call (.builtin id) (v::us)) (EP X aa U Q) X.xe s
section
variable{a b:OU}{ta tb:TE}
theorem IxR.or{r r':R2}(h:IxR X r)(h':IxR X r'):IxR X (λx y H Q=>r x y H Q\/r' x y H Q):=by
 intro value bP aa s U H x y v u Q I rx ry q hs
 rcases q with q | q
 ·exact h value bP aa s U H x y v u Q I rx ry q hs
 ·exact h' value bP aa s U H x y v u Q I rx ry q hs
theorem Dj{r:R2}(hr:IxR X r)(ha:PE X a ta)(hb:PE X b tb)(hs:PlainIx b):PE X (.Subscript a b pos) (tOp r ta tb):=by
 intro aa s U H Q I h;exact U5 (binT ha hb I h λv u s2 x y H2 I2 rx ry q=>hr a b aa s2 U H2 x y v u Q I2 rx ry q (hs _ _))
noncomputable def rIxL(K:PySem.W.Frag):R2:=λx y H Q=>∃p xs i v,x=.ref p/\y=.int i/\SqL K H p xs/\atI xs i=some v/\Q v H
noncomputable def rIxT(K:PySem.W.Frag):R2:=λx y H Q=>∃p xs i v,x=.ref p/\y=.int i/\SqT K H p xs/\atI xs i=some v/\Q v H
theorem DZ:IxR X (rIxL X.K):=by
 intro value bP aa s U H x y v u Q I rx ry h hs;obtain⟨p,xs,i,z,rfl,rfl,hq,he,q⟩:=h;cases rx;obtain⟨t,rfl⟩:=ry;obtain⟨ae,r,pl,hz⟩:=I.list hq;obtain⟨j,h1,h2,h3,h4,h5⟩:=BJ he;obtain⟨w,ew,gy⟩:=r.get h2;have hl:=r.length;have hn:=line63;have fin:EP X aa U Q w s:=⟨z,H,I,gy,q⟩;by_cases h0:0<=i
 ·have hj:i.toNat=j:=by
   rw[UN h0 h5] at h1;exact OL h1
  exact item_listR pl.isList h0 (by omega) (by rw[hj];simpa using ew) fin hs
 ·have hj:(i+(ae.toArray.size:Int)).toNat=j:=by
   rw[seqIndex_neg (by omega) h4] at h1;rw[q_,←hl];exact OL h1
  exact S2 (x:=w) pl.isList.typeIs Sr.lookup
   (wpAny_getItem_list_neg (Q:=λr s'=>r=w/\EP X aa U Q r s') pl.isList (by omega) (by rw[q_]<;>omega) (by omega) (by rw[hj];simpa using ew) ⟨rfl,fin⟩) hs
theorem FE:IxR X (rIxT X.K):=by
 intro value bP aa s U H x y v u Q I rx ry h hs;obtain⟨p,xs,i,z,rfl,rfl,hq,he,q⟩:=h;cases rx;obtain⟨t,rfl⟩:=ry;obtain⟨ae,r,pl,hz⟩:=I.tuple hq;obtain⟨j,h1,h2,h3,h4,h5⟩:=BJ he;obtain⟨w,ew,gy⟩:=r.get h2;have hl:=r.length;have hn:=line63;have fin:EP X aa U Q w s:=⟨z,H,I,gy,q⟩
 exact S2 (x:=w) pl.typeIs slot_tuple_getitem.lookup
  (getItem_tuple (j:=j) (Q:=λr s'=>r=w/\EP X aa U Q r s') pl (by omega) (by omega) (by rw[q_,←hl];exact h1) (by simpa using ew) ⟨rfl,fin⟩) hs
theorem Fy(ae:List b_)(n j:Nat)(u:b_):Rz (·.setIfInBounds j u) { cls:=.type "list", data:=.seq ae.toArray n }={ cls:=.type "list", data:=.seq (ae.set j u).toArray n }:=by
 simp[Rz]
theorem Inv.lst{H:Hp}{s:d_}{p:l_}(I:Inv X aa U H s)(h:H p=some (.lst xs)):
  ∃(ae:List b_) (n:Nat),Vals xs ae/\s.heap.get? p=some { cls:=.type "list", data:=.seq ae.toArray n }/\xs.length<=x_:=by
 obtain⟨z,ae,n,r,e⟩:=I.hok p _ h;exact⟨ae,n,r,e,z⟩
theorem Inv.lstUpd{H:Hp}{s:d_}{p:l_}{ys:List V}{n':Nat}{f:Obj->Obj}(I:Inv X aa U H s)(h:H p=some (.lst xs))(ho:s.heap.get? p=some { cls:=.type "list", data:=.seq ae.toArray n })(hf:f { cls:=.type "list", data:=.seq ae.toArray n }={ cls:=.type "list", data:=.seq its'.toArray n' })(r:Vals ys its')(hz:ys.length<=x_)(t:Nat):
  Inv X aa U (upd H p (.lst ys)) { s with heap:=s.heap.update p f,toks:=t }:=by
 have e:(s.heap.update p f).get? p=some { cls:=.type "list", data:=.seq its'.toArray n' }:=by
  rw[O0 f ho (by rw[hf]<;>rfl),hf]
 refine I.write (x:=p) (e:=p) (by rw[h];trivial) (.inl rfl) (λb u hb q=>(OK _ _ (O4 hb)).trans q) ⟨_,e⟩ ?_;exact⟨hz,its',n',r,e⟩
def rSetL:V->V->V->Hp->(Hp->Prop)->Prop:=λo i v H Q=>∃p xs k j,o=.ref p/\i=.int k/\H p=some (.lst xs)/\ixN xs.length k=some j/\Q (upd H p (.lst (xs.set j v)))
theorem HB:PSet X rSetL:=by
 intro aa s U H o i v ov iv u Q I ro ri rv h;obtain⟨p,xs,k,j,rfl,rfl,hp,hj,q⟩:=h;cases ro;obtain⟨t,rfl⟩:=ri;obtain⟨ae,n,r,ho,hz⟩:=I.lst hp;obtain⟨h1,h2,h3,h4⟩:=DO hj;have hl:=r.length;have hn:=line63
 have I':Inv X aa U (upd H p (.lst (xs.set j v))) { s with heap:=s.heap.update p (Rz (·.setIfInBounds j u)) }:=
  I.lstUpd hp ho (Fy ae n j u) (r.set rv j) (by rw[Q1];exact hz) s.toks
 by_cases h0:0<=k
 ·have hk:k.toNat=j:=by
   rw[UN h0 h4] at h1;exact OL h1
  exact PySem.W.ki_setAt ho h0 (by omega) (by rw[q_,←hl];exact h4) (by rw[hk];exact⟨_,I',q⟩)
 ·have hk:(k+(ae.toArray.size:Int)).toNat=j:=by
   rw[seqIndex_neg (by omega) h3] at h1;rw[q_,←hl];exact OL h1
  exact PySem.W.ki_setBack ho (by omega) (by rw[q_,←hl];exact h3) (by omega) (by rw[hk];exact⟨_,I',q⟩)
theorem Em(lo hi:Option Int)(n:Nat):(Q6 lo hi none n).1=((HT.sIx n 0 lo:Nat):Int)/\(Q6 lo hi none n).2.1=((HT.sIx n n hi:Nat):Int)/\(Q6 lo hi none n).2.2=1:=by
 refine⟨?_,?_,rfl⟩
 ·cases lo with
  | none=>simp[Q6,HT.sIx]
  | some i =>
   simp only[Q6,HT.sIx,getD_none,show(1:Int) > 0 by decide,if_true];by_cases h:i < 0
   ·simp only[h,if_true]<;>omega
   ·simp only[h,if_false]<;>omega
 ·cases hi with
  | none=>simp[Q6,HT.sIx]
  | some i =>
   simp only[Q6,HT.sIx,getD_none,show(1:Int) > 0 by decide,if_true];by_cases h:i < 0
   ·simp only[h,if_true]<;>omega
   ·simp only[h,if_false]<;>omega
theorem EC(ae:List b_)(lo hi:Option Int):slicePick ae.toArray lo hi none=((ae.drop (HT.sIx ae.length 0 lo)).take (HT.sIx ae.length ae.length hi - HT.sIx ae.length 0 lo)).toArray:=by
 obtain⟨h1,h2,h3⟩:=Em lo hi ae.toArray.size;unfold slicePick;rw[h1,h2,h3];simp only[sliceRange_one,pick_run,q_]<;>rfl
def rSlL(K:PySem.W.Frag):V->Option Int->Option Int->Hp->VK->Prop:=λx lo hi H Q=>∃a xs,x=.ref a/\SqL K H a xs/\∀p,H p=none->Q (.ref p) (upd H p (.lst (cutV xs lo hi)))
theorem HZ:SlR X (rSlL X.K):=by
 intro aa s U H x v vl vu lo hi sl Q I rx hs pl pu h;obtain⟨a,xs,rfl,hx,q⟩:=h;cases rx;obtain⟨ae,r,ht,hz⟩:=I.list hx;have aQ:=r.length;refine⟨"list", _,Sr.lookup,ht.isList.typeIs,?_⟩;refine SE ht.isList hs pl pu .none (by simp) ?_ (by rw[q_]<;>omega);rw[EC,←aQ];refine⟨.ref s.heap.objs.size,_,I.laid (t':=s.toks) (o:=.lst (cutV xs lo hi)) (λb ob q=>e_ _ q) (v_ _) ?_,rfl,q _ (I.hok.fresh (v_ _))⟩;exact⟨E_ (B5 xs lo hi) hz,_,0,(r.drop (HT.sIx xs.length 0 lo)).take (HT.sIx xs.length xs.length hi - HT.sIx xs.length 0 lo),t_ _ rfl⟩
theorem Cy:CallR X (.builtin "len") (λxs H Q=>∃p ys,xs=[.ref p]/\(SqL X.K H p ys\/SqT X.K H p ys)/\Q (.int ys.length) H):=by
 intro aa s U H xs us Q I r h;obtain⟨p,ys,rfl,hq,q⟩:=h;obtain⟨u,rfl,rx⟩:=vals1 r;cases rx;have hn:=line63
 rcases hq with hq | hq
 ·obtain⟨ae,r',pl,hz⟩:=I.list hq;have aQ:=r'.length;exact Calls.call_len_list pl.isList (by simp only[q_]<;>omega) ⟨.int ys.length,H,I.tok _,⟨s.toks+1,by rw[q_,aQ]⟩,q⟩
 ·obtain⟨ae,r',pl,hz⟩:=I.tuple hq;have aQ:=r'.length;exact len_tuple pl (by simp only[q_]<;>omega) ⟨.int ys.length,H,I.tok _,⟨s.toks+1,by rw[q_,aQ]⟩,q⟩
theorem Lk:CallR X (.type "list") (λxs H Q=>∃p ys,xs=[.ref p]/\(SqL X.K H p ys\/SqT X.K H p ys)/\∀l,H l=none->Q (.ref l) (upd H l (.lst ys))):=by
 intro aa s U H xs us Q I r h;obtain⟨p,ys,rfl,hq,q⟩:=h;obtain⟨u,rfl,rx⟩:=vals1 r;cases rx
 have fin:∀(ae:List b_),Vals ys ae->ys.length<=x_->∀(h':I_) (c':Nat),(∀b o',s.heap.get? b=some o'->h'.get? b=some o') →
   h'.get? s.heap.objs.size=some { cls:=.type "list", dict:=none,data:=.seq ae.toArray c',slots:=#[] }->EP X aa U Q (.ref s.heap.objs.size) { s with heap:=h' }:=λae r' hz h' c' kp e =>
  ⟨.ref s.heap.objs.size,_,I.laid (t':=s.toks) kp (v_ _) (show ObjOk X.prog X.w _ h' _ (.lst ys) from⟨hz,ae,c',r',e⟩),rfl,q _ (I.hok.fresh (v_ _))⟩
 rcases hq with hq | hq
 ·obtain⟨ae,r',pl,hz⟩:=I.list hq;have aQ:=r'.length;obtain⟨o,ho,hc,n,hd⟩:=pl.isList;exact call_list_seq p (.inl rfl) ho hc hd (λh' c' kp e=>fin ae r' hz h' c' kp e) (by simp only[q_]<;>omega)
 ·obtain⟨ae,r',pl,hz⟩:=I.tuple hq;have aQ:=r'.length;obtain⟨o,ho,hc,n,hd⟩:=pl;exact call_list_seq p (.inr rfl) ho hc hd (λh' c' kp e=>fin ae r' hz h' c' kp e) (by simp only[q_]<;>omega)
theorem GR:CallR X (.type "tuple") (λxs H Q=>∃p ys,xs=[.ref p]/\((SqL X.K H p ys/\∀l,H l=none->Q (.ref l) (upd H l (.tup ys)))\/(SqT X.K H p ys/\Q (.ref p) H))):=by
 intro aa s U H xs us Q I r h;obtain⟨p,ys,rfl,h⟩:=h;obtain⟨u,rfl,rx⟩:=vals1 r;cases rx
 rcases h with⟨hq,q⟩ | ⟨hq,q⟩
 ·obtain⟨ae,r',pl,hz⟩:=I.list hq;have aQ:=r'.length;refine call_tuple_list pl.isList (λh' kp=>?_) (by simp only[q_]<;>omega);have I1:Inv X aa U H { s with heap:=h' }:=I.kept (t':=s.toks) kp
  have I2:Inv X aa U (upd H h'.objs.size (.tup ys)) { s with heap:=h'.push { cls:=.type "tuple", data:=.seq ae.toArray } }:=
   I1.laid (t':=s.toks) (λb o e=>e_ _ e) (v_ _) (show ObjOk X.prog X.w _ _ _ (.tup ys) from⟨hz,ae,r',UU.new _ _⟩)
  exact⟨.ref h'.objs.size,_,I2,rfl,q _ (I1.hok.fresh (v_ _))⟩
 ·obtain⟨ae,r',pl,hz⟩:=I.tuple hq;exact call_tuple_same pl ⟨.ref p,H,I,rfl,q⟩
def tyV(K:PySem.W.Frag)(T:String)(x:V)(H:Hp):Prop:=match x with
 | .str _=>T = "str"
 | .int _=>T = "int"
 | .ref p=>(T = "list"/\∃xs,SqL K H p xs)\/(T = "tuple"/\∃o,K.lookup p=some o/\o.cls=.type "tuple"/\o.dict=none) ∨
   (T = "dict"/\((∃ag,H p=some (.dK ag))\/∃ag,H p=some (.dT ag)))\/(T = "set"/\∃S n,H p=some (.set S n))
 | _=>False
theorem Ew{H:Hp}{s:d_}{T:String}{x:V}{v:b_}(I:Inv X aa U H s)(r:RelV x v)(ty:tyV X.K T x H):
  s.TypeIs v T/\∀a,v=.ref a->∃ob,s.heap.get? a=some ob/\ob.dict=none:=by
 cases x with
 | str z =>
  obtain⟨t,rfl⟩:=r
  cases(show T = "str" from ty)
  exact⟨typeIs_str s z t,λ_ e=>nomatch e⟩
 | int i =>
  obtain⟨t,rfl⟩:=r
  cases(show T = "int" from ty)
  exact⟨typeIs_int s i t,λ_ e=>nomatch e⟩
 | ref p =>
  cases r
  rcases ty with⟨rfl,xs,hq⟩ | ⟨rfl,o,hk,hc,hd⟩ | ⟨rfl,hk⟩ | ⟨rfl,S,n,hk⟩
  ·obtain⟨ae,_,pl,_⟩:=I.list hq;refine⟨pl.isList.typeIs,λa e=>?_⟩;cases e;obtain⟨o,n,e,c,hd,_⟩:=pl;exact⟨o,e,hd⟩
  ·refine⟨⟨o,I.kIn p o hk,hc⟩,λa e=>?_⟩;cases e;exact⟨o,I.kIn _ o hk,hd⟩
  ·have z:∃o,s.heap.get? p=some o/\o.ExactDict:=by
    rcases hk with⟨ag,hk⟩ | ⟨ag,hk⟩
    ·obtain⟨_,_,_,_,o,_,_,e,ex,_⟩:=I.hok p _ hk;exact⟨o,e,ex⟩
    ·obtain⟨_,_,_,_,o,_,_,e,ex,_⟩:=I.hok p _ hk;exact⟨o,e,ex⟩
   obtain⟨o,e,ex⟩:=z;refine⟨⟨o,e,ex.1⟩,λa e2=>?_⟩;cases e2;exact⟨o,e,ex.2.1⟩
  ·obtain⟨o,_,_,_,e,ex,_⟩:=I.hok p _ hk;refine⟨⟨o,e,ex.1⟩,λa e2=>?_⟩;cases e2;exact⟨o,e,ex.2.1⟩
 | _=>exact Vq ty
noncomputable def tBM(K:PySem.W.Frag)(T:String)(r:V->List V->Hp->VK->Prop)(to:TE)(t:TA):TE:=λU H Q=>to U H λx H1=>tyV K T x H1/\t U H1 λxs H2=>r x xs H2 Q
variable{o:OU}{es:List OU}{to:TE}{t:TA}{name:Str}{T id:String}{r:V->List V->Hp->VK->Prop}
theorem z7(pa:PlainAttrs T)(slot:Slot T name id)(nP:Vs (.builtin id)=pure (.type "method_descriptor"))(hm:MtR X id r)(ho:PE X o to)(ha:PA X (e::es) t)(bQ:SF o name X.env (O1 o X.env)=O1 o X.env:=by rfl)(cQ:((Pa aN (g_ (e::es) X.env)).all (λx=>!x.1)&&(U6 aN (Tq [] X.env)).all (λx=>x.1.isSome)
   &&decide ((e::es).length+([]:List S3).length+(if([]:List S3).isEmpty then 0 else 1) < 30))=true:=by rfl)(bR:(bj.endLine == aN.line)=true:=by rfl)(hs:g_ (e::es) X.env=(false,O1 e X.env)::g_ es X.env:=by rfl)(bE:(Pa aN (g_ es X.env)).any (·.1)=false:=by rfl):
  PE X (.Call (.Attribute o name bj) (e::es) [] aN) (tBM X.K T r to t):=by
 intro aa s U H Q I h;refine wpAny_Call_method_late bQ cQ bR rfl (thn (ho aa s U H _ I h) λv s1 ⟨x,H1,I1,r1,ty,q1⟩=>?_);obtain⟨h1,h2⟩:=Ew I1 r1 ty;refine⟨T,id,pa,slot,nP,h1,h2,?_⟩;have hA:=ha aN aa s1 U H1 _ I1 q1;rw[hs] at hA ⊢;refine Calls.callWith_builtin (by show(false||(Pa aN (g_ es X.env)).any (·.1))=false;rw[bE]<;>rfl) (Calls.evalArgs_plain ?_);exact thn hA λus s2 ⟨vs,H2,I2,r2,q2⟩=>hm aa s2 U H2 x vs v us Q I2 r1 r2 q2
end
def MtM(X:Cx)(id:String)(r:V->List V->Hp->VK->Prop):Prop:=
 ∀(aa:List (l_×Obj)) (s:d_) (U:St) (H:Hp) (x:V) (xs:List V) (v:b_) (us:List b_) (Q:VK),Inv X aa U H s->RelV x v->Vals xs us->r x xs H Q →
  o_ (s_ X.prog X.w) X.A (call (.builtin id) (v::us)) (EP X aa U Q) X.xe s
theorem Vals.one:∀{x:V}{us:List b_},Vals [x] us->∃u,us=[u]/\RelV x u
 | _,_,.cons r .nil=>⟨_,rfl,r⟩
theorem Vals.two:∀{x y:V}{us:List b_},Vals [x,y] us->∃u v,us=[u,v]/\RelV x u/\RelV y v
 | _,_,_,.cons r (.cons q .nil)=>⟨_,_,rfl,r,q⟩
theorem Vals.eraseIdx:∀{xs:List V}{us:List b_} (i:Nat),Vals xs us->Vals (xs.eraseIdx i) (us.eraseIdx i)
 | _,_,_,.nil=>.nil
 | _,_,0,.cons _ t=>t
 | _,_,i+1,.cons r t=>.cons r (Vals.eraseIdx i t)
theorem Bb{α:Type}:∀(l:List α) (i:Nat),(l.eraseIdx i).length<=l.length
 | [],_=>v_ _
 | _::_,0=>Uo _
 | _::r,i+1=>Nat.succ_le_succ (Bb r i)
section
variable{H:Hp}{s:d_}{l:l_}{ys:List V}
theorem Inv.lset{f:Array b_->Array b_}(I:Inv X aa U H s)(hH:H l=some (.lst xs))(e:s.heap.get? l=some { cls:=.type "list", data:=.seq ae.toArray n })(hf:f ae.toArray=its'.toArray)(hv:Vals ys its')(hz:ys.length<=x_):
  Inv X aa U (upd H l (.lst ys)) { s with heap:=s.heap.update l (Rz f),toks:=t' }:=by
 have q:=PySem.IsL.update e f;rw[hf] at q;refine I.write (x:=l) (e:=l) (by rw[hH];exact trivial) (.inl rfl) (λb' u hb hu=>(OK s.heap (Rz f) (O4 hb)).trans hu) ⟨_,q⟩ ?_;exact⟨hz,its',_,hv,q⟩
theorem Inv.lnew(I:Inv X aa U H s)(hv:Vals ys ae)(hz:ys.length<=x_):
  Inv X aa U (upd H s.heap.objs.size (.lst ys)) { s with heap:=s.heap.push { cls:=.type "list", data:=.seq ae.toArray },toks:=t' }:=
 I.laid (λ_ _ q=>e_ _ q) (v_ _) ⟨hz,ae,0,hv,t_ _ rfl⟩
theorem Inv.fresh(I:Inv X aa U H s):H s.heap.objs.size=none:=I.hok.fresh (v_ _)
theorem Inv.lstM(I:Inv X aa U H s)(hH:H l=some (.lst xs)):xs.length<=x_/\∃(ae:List b_) (n:Nat),Vals xs ae/\xs.length=ae.length/\s.heap.get? l=some { cls:=.type "list", data:=.seq ae.toArray n }:=by
 obtain⟨z,ae,n,r,e⟩:=I.hok l _ hH;exact⟨z,ae,n,r,r.length,e⟩
theorem notLongL(h:n<=x_):UO n=false:=by
 unfold UO;exact decide_eq_false (by omega)
end
section
def rAppend:V->List V->Hp->VK->Prop:=λx vs H Q=>∃l xs y,x=.ref l/\vs=[y]/\H l=some (.lst xs)/\xs.length < x_/\Q .non (upd H l (.lst (xs++[y])))
theorem DR:MtM X "list.append" rAppend:=by
 intro aa s U H x vs v us Q I rx rv h;obtain⟨l,xs,y,rfl,rfl,hH,hz,q⟩:=h;cases rx;obtain⟨u,rfl,ru⟩:=rv.one;obtain⟨z,ae,n,r,hl,e⟩:=I.lstM hH;refine U7 F.slot_list_append ⟨_,e,rfl⟩ F.entry_list_append (F.args_list_append_2 _ _) (PySem.list_append l ae.toArray n u (by rw[q_];omega)) ⟨e,?_⟩;refine⟨.non,_,I.lset (its':=ae++[u]) hH e (by simp) (r.append (.cons ru .nil)) ?_,rfl,q⟩;rw[y_,Qx];omega
def rPopAt:V->List V->Hp->VK->Prop:=λx vs H Q=>∃l xs i k y,x=.ref l/\vs=[.int i]/\H l=some (.lst xs)/\-(2 ^ 63)<=i/\i < 2 ^ 63/\seqIndex? i xs.length=some k/\xs[k]?=some y/\Q y (upd H l (.lst (xs.eraseIdx k)))
theorem GQ:MtM X "list.pop" rPopAt:=by
 intro aa s U H x vs v us Q I rx rv h;obtain⟨l,xs,i,k,y,rfl,rfl,hH,h1,h2,hk,hy,q⟩:=h;cases rx;obtain⟨u,rfl,ru⟩:=rv.one;obtain⟨t,rfl⟩:=ru;obtain⟨z,ae,n,r,hl,e⟩:=I.lstM hH;obtain⟨w,hw,gy⟩:=r.get hy
 refine U7 F.slot_list_pop ⟨_,e,rfl⟩ F.entry_list_pop (F.args_list_pop_2 _ _)
  (MeetsSeq.list_pop_at l ae.toArray n i t k w (fitsIndex_both h1 h2) (by rw[q_,←hl];exact hk) (by rw[←Ru];exact hw) (by rw[q_];omega)) ⟨e,?_⟩
 refine⟨y,_,I.lset (its':=ae.eraseIdx k) hH e ?_ (r.eraseIdx k) ?_,gy,q⟩
 ·show ae.toArray.eraseIdxIfInBounds k=(ae.eraseIdx k).toArray;rw[List.eraseIdxIfInBounds_toArray]
 ·have:=Bb xs k;omega
end
end L2
namespace Att
open PySem PySem.W PySem.Calls PyProof.Rows
theorem Hs{P:Params}{h:I_}:∀(ns:List Int) (vs:List b_),WellAll P h vs (ns.map WData.int)->US vs ns:=by
 intro ns
 induction ns with
 | nil =>
  intro vs w;rw[map_nil] at w;cases w;exact .nil
 | cons n ns ih =>
  intro vs w;rw[F_] at w;cases w with
  | cons a b =>
   cases a;exact .cons _ _ (ih _ b)
theorem Lj{l:Vt}(hn:l.most=some n){P:Params}{h:I_}(fA:l.row.toRowW.claim.pre args=true)(iM:WellAll P h gz args):
  ∃a vs ns,gz=[b_.ref a]/\args=[WData.list (ns.map WData.int)]/\h.get? a=some { cls:=.type "list", data:=.seq vs.toArray }/\US vs ns/\ns.length<=n:=by
 have nQ:Vu.hasAll [] args [.list .int]=true:=(pre_splitW fA).1;have hc:l.pre.holds [] { args:=args }=true:=(pre_splitW fA).2;obtain⟨d,r,rfl,h1,h2⟩:=hasAllW_cons nQ;obtain rfl:=hasAllW_nil h2;obtain⟨xs,rfl,h3⟩:=hasW_list h1;obtain⟨ns,rfl⟩:=items_int h3
 have aQ:ns.length<=n:=by
  unfold Vt.pre at hc
  have h4:(WTm.not (.lt (.lit (.int (n:Int))) (.len (.arg 0)))).holds [] { args:=[.list (ns.map .int)] }=true:=by
   have h4:=(holds_andW hc).1;rw[hn] at h4;exact h4
  have h5:=condW_of h4 (w_not (w_lt w_lit (w_len_list (w_arg rfl))));rw[w_] at h5;refine SR λq=>?_
  have q':(n:Int) < ((ns.length:Nat):Int):=by omega
  first
   | (rw[decide_eq_true q'] at h5;exact absurd h5 (by decide))
   | (simp at h5;omega)
 cases iM with
 | cons w1 w2 =>
  cases w2;cases w1 with
  | list ho gA=>exact⟨_,_,ns,rfl,rfl,ho,Hs ns _ gA,aQ⟩
theorem GS(l:Vt)(args:List WData):l.row.toRowW.claim.post args (.bool true) args=true:=
 postW_of (r:=l.row.toRowW) (X:=(true == true))
  (show Vu.has [] (.bool true) .bool=true by first | rfl | decide | simp[Vu.has,Vu.arms,Vu.armsAll])
  (show(WTm.eq .res (.lit (.bool true))).value [] { args:=args,res:=some (.bool true),after:=args }=some (.bool (true == true)) from w_eq_bool (w_res rfl) w_lit) rfl
theorem Hr{l:Vt}{q:C_}{XP:(Str->Option b_)->I_->Prop}{YP:J_->I_->Prop}{d:DefRec}(hn:l.most=some n)(gB:d.params.defaults=[])(call:∀(w:J_) (s₀ ay:d_) (mg mb:Str->Option b_) (fa:l_) (o:Obj) (pm cd bG:b_) (a:l_) (vs:List b_) (ns:List Int),
   Ground q cn [] XP w s₀ mg mb ay.heap->YP w ay.heap →
   ay.heap.get? fa=some o->o.data=.func (docDef d.name d.params d.body d.scope pm cd bG)->ay.heap.CodeRec cd d.name->mg d.name=some (.ref fa) →
   ay.heap.get? a=some { cls:=.type "list", data:=.seq vs.toArray }->US vs ns->ns.length<=n->ay.gens=#[] →
   Ra (s_ l.prog w) TM (.call (.ref fa) ⟨[.ref a],[]⟩) (λr s'=>r=.ok (.ret (.bool true))/\OldK ay.heap s'.heap/\s'.os=ay.os/\So s'.gens) ay):
  WalkO q cn XP YP l.row.toRowW d [] (λf vs=>PySem.call f vs):=by
 intro w s₀ ay mg mb G qQ fa o pm cd bG dV kV ho hd ck hD gC hg args gz as fA pV lr iM ls;obtain rfl:dV=.none:=Dflts.none hD gB;obtain rfl:kV=.none:=Dflts.noKw hD;obtain⟨a,vs,ns,rfl,rfl,gD,eU,aQ⟩:=Lj hn fA iM;refine enter_call (QN (call w s₀ ay mg mb fa o pm cd bG a vs ns G qQ ho (fd_plain hd) ck gC gD eU aQ hg) λr s' hq=>?_);obtain⟨rfl,h2,h3,h4⟩:=hq;exact⟨.inl ⟨.bool true,.bool true,[],rfl,λ_=>rfl,.bool true,GS l _,λ_=>⟨T_.nil,λ_ hm=>(nomatch hm)⟩⟩,h2,h3,h4⟩
end Att
namespace L2
open PySem PySem.Spec PyProof.Rows
theorem BN:∀{vs:List b_}{ns:List Int},US vs ns->Vals (ns.map V.int) vs
 | _,_,.nil=>.nil
 | _,_,.cons n t h=>.cons ⟨t,rfl⟩ (BN h)
def Only(H:Hp):Prop:=∀b,H b=none\/∃o xs,H b=some (.frz o (.lst xs))
noncomputable def defArgs(s:Pb):Arguments:=match s with
 | .FunctionDef _ a _ _ _ _ _ _ _ _=>a
 | _=>{ posonlyargs:=[],args:=[],vararg:=none,kwonlyargs:=[],kw_defaults:=[],kwarg:=none,defaults:=[] }
noncomputable def defBody(s:Pb):List Pb:=match s with
 | .FunctionDef _ _ b _ _ _ _ _ _ _=>b
 | _=>[]
noncomputable def defScope(s:Pb):R5:=match s with
 | .FunctionDef _ _ _ _ _ _ sc _ _ _=>sc
 | _=>{ kind:=.function,names:=[],isGenerator:=false,isCoroutine:=false }
noncomputable abbrev CX0:CXT:=λ_ _ _ _ _ _=>False
noncomputable abbrev E0:XK:=λ_ _ _=>False
theorem pass0:Passes CX0 X E0:=λ_ _ _ _ _ _ _ h=>h.elim
structure Fun(K:PySem.W.Frag)(x qual:Str)(st:Pb)(f:l_)(fd:Qt):Prop where
 ex:∃(oc:b_) (od:Option l_) (kV bG pm:b_) (an:Option l_) (aA ct:b_) (dW:Array (Option b_)),
  fd=S1 x qual (defArgs st) (defBody st) (defScope st) .none kV bG pm an aA ct/\K.lookup f=some ⟨oc,od,.func fd,dW⟩/\codeIn K aA qual=true
 kp:Qw K (.ref f)=true
section
variable{P:C_}{w:J_}{K:PySem.W.Frag}
theorem Fun.ok{st:Pb}{N ps:List Str}{sp:Sp}(F:Fun K x qual st f fd)(S:FnScope N ps (defScope st))(len:∀vs H Q E,sp vs H Q E->vs.length=ps.length)(eS:∀(aA:b_) (A:PB) (outer:List Env) (s:d_) (H:Hp) (vs:List V) (Q:VK) (E:XK),Room k (A.deeper (S0 qual (defScope st) s.heap.objs.size f aA))->sp vs H Q E →
   ∃t,PSs (cxOf CX0 P w K mg base N qual (defScope st) f aA A outer s H E).nox (defBody st) t/\t { nx:=λ_ H'=>Q .non H',rt:=Q } (start N vs) H):FnOk P w K mg base CX0 (k+1) f fd ps sp:=by
 obtain⟨oc,od,kV,bG,pm,an,aA,ct,dW,rfl,lk,ck⟩:=F.ex;refine HC lk ck S len λA outer s H vs Q E hr dX=>?_
 obtain⟨t,h,q⟩:=eS aA A outer s H vs Q E hr dX;exact⟨t,h.nox,q⟩
theorem Fun.binds{st:Pb}{ps:List Str}(F:Fun K x qual st f fd)(h:∀(kV bG pm:b_) (an:Option l_) (aA ct:b_) (us:List b_),us.length=ps.length->Qf (S1 x qual (defArgs st) (defBody st) (defScope st) .none kV bG pm an aA ct) ⟨us,[]⟩=pure (ps.zip us)):Binds K fd ps []:=by
 obtain⟨oc,od,kV,bG,pm,an,aA,ct,dW,rfl,lk,ck⟩:=F.ex;exact .all (h kV bG pm an aA ct)
theorem Ez{st:Pb}{kV bG aA:b_}(l:K.lookup f=some ⟨oc,od,.func (S1 x qual (defArgs st) (defBody st) (defScope st) .none kV bG pm an aA ct),dW⟩)(c:codeIn K aA qual=true)(k:Qw K (.ref f)=true):Fun K x qual st f (S1 x qual (defArgs st) (defBody st) (defScope st) .none kV bG pm an aA ct):=⟨⟨oc,od,kV,bG,pm,an,aA,ct,dW,rfl,l,c⟩,k⟩
end
theorem FY(hr:Room k A):A.units+1 < PK:=Nat.lt_of_le_of_lt (Nat.add_le_add_left (by decide:1<=64) _) hr.units
section
theorem pv(i:Nat)(hN:X.N[i]?=some x:=by rfl)(hv:visB X.env.scope x=true:=by rfl)(hd:(x == ("__debug__":Str))=false:=by decide)(ck:(x == ("__classdict__":Str))=false:=by decide):PE X (.Name x pos) (tVar i):=KH hN (visI hv) hd ck
end
theorem iteF{A B:Prop}(h:B):if false=true then A else B:=by
 rw[if_neg k_];exact h
theorem iteT{A B:Prop}(h:A):if true=true then A else B:=by
 rw[if_pos rfl];exact h
def Same(H H':Hp):Prop:=∀b o,H b=some o->H' b=some o
theorem Same.refl(H:Hp):Same H H:=λ_ _ h=>h
theorem Same.trans{H H1:Hp}(a:Same H H1)(b:Same H1 H2):Same H H2:=λc o h=>b c o (a c o h)
theorem Same.free{H:Hp}(e:Same H H'){l:l_}(h:H' l=Option.none):H l=Option.none:=by
 cases q:H l with
 | none=>rfl
 | some o =>
  rw[e l o q] at h;cases h
section
variable {κ:Type}[DecidableEq κ]
noncomputable def valV(ag:List (κ×V))(k:κ):Option V:=(ag.find? λkv=>decide (kv.1=k)).map (·.2)
noncomputable def putK(ag:List (κ×V))(k:κ)(v:V):List (κ×V):=
 if(ag.any λkv=>decide (kv.1=k))=true then ag.map (λkv=>if kv.1=k then(kv.1,v) else kv) else ag++[(k,v)]
theorem AW{p:κ×V}{r:List (κ×V)}{k:κ}(e:p.1=k):valV (p::r) k=some p.2:=by simp[valV,Sa,e]
theorem Dt{p:κ×V}{r:List (κ×V)}{k:κ}(e:¬p.1=k):valV (p::r) k=valV r k:=by simp[valV,Sa,e]
theorem Bp(k:κ):∀ag:List (κ×V),(ag.any λkv=>decide (kv.1=k))=(valV ag k).isSome
 | []=>rfl
 | p::r=>by
  rw[RK];by_cases e:p.1=k
  ·simp only[AW e,decide_eq_true e,Bool.true_or,Option.isSome_some]
  ·rw[Dt e,decide_eq_false e,Bool.false_or];exact Bp k r
theorem Bo(ag:List (κ×V))(k:κ)(v:V):(putK ag k v).length<=ag.length+1:=by
 unfold putK;split
 ·rw[w_];omega
 ·rw[y_,OQ,List.length_nil];omega
theorem RelO.isSome_eq{o:Option V}{u:Option b_}(r:RelO o u):o.isSome=u.isSome:=by
 cases o with
 | none=>cases u with
  | none=>rfl
  | some _=>exact(show False from r).elim
 | some _=>cases u with
  | none=>exact(show False from r).elim
  | some _=>rfl
theorem KV.any{ag:List (κ×V)}{vs:List (κ×b_)}(r:KV ag vs)(k:κ):(ag.any λkv=>decide (kv.1=k))=vs.any λkv=>decide (kv.1=k):=by
 unfold KV at r
 induction r with
 | nil=>rfl
 | cons h t ih=>rw[RK,RK,ih,h.1]
theorem KV.repl{ag:List (κ×V)}{vs:List (κ×b_)}(r:KV ag vs)(k:κ){y:V}(ry:RelV y u):
  KV (ag.map λkv=>if kv.1=k then(kv.1,y) else kv) (vs.map λkv=>if kv.1=k then(kv.1,u) else kv):=by
 unfold KV at r ⊢
 induction r with
 | nil=>exact .nil
 | @cons p q ps qs h t ih =>
  rw[F_,F_];refine .cons ?_ ih;obtain⟨h1,h2⟩:=h;by_cases e:p.1=k
  ·rw[if_pos e,if_pos (h1.symm.trans e)];exact⟨h1,ry⟩
  ·rw[if_neg e,if_neg (λz=>e (h1.trans z))];exact⟨h1,h2⟩
theorem KV.put{ag:List (κ×V)}{vs:List (κ×b_)}(r:KV ag vs)(k:κ){y:V}(ry:RelV y u):KV (putK ag k y) (stored vs k u):=by
 unfold putK stored;rw[r.any k];by_cases e:(vs.any λkv=>decide (kv.1=k))=true
 ·rw[if_pos e,if_pos e];exact r.repl k ry
 ·rw[if_neg e,if_neg e];exact snoc r ⟨rfl,ry⟩
theorem KV.length{ag:List (κ×V)}{vs:List (κ×b_)}(r:KV ag vs):ag.length=vs.length:=Paired.length r
end
theorem A6{P:C_}{w:J_}{k:Key}(r:RelV (kV k) u):(mixKind P w).is k u=true:=by
 cases k with
 | inl i=>obtain⟨t,e⟩:=(show ∃t,u=b_.int i t from r);subst e;exact JU P w i t
 | inr x=>obtain⟨t,e⟩:=(show ∃t,u=b_.str x t from r);subst e;exact LH P w x t
theorem Cc{P:C_}{w:J_}:∀{ks:List Key}{us:List b_},Vals (ks.map kV) us->ItemsAre (mixKind P w) ks us
 | [],_,r=>by rw[map_nil] at r;cases r;exact .nil
 | k::ks,_,r=>by
  rw[F_] at r;cases r with
  | cons h t=>exact .cons (A6 h) (Cc t)
abbrev KT(H:Hp):List (List Key×V)->List (List Key×l_×b_)->Prop:=Paired λp q=>p.1=q.1/\H q.2.1=some (.tup (p.1.map kV))/\RelV p.2 q.2.2
theorem KT.val{H:Hp}{ag:List (List Key×V)}{xs:List (List Key×l_×b_)}(r:KT H ag xs)(k:List Key):RelO (valV ag k) ((U8 xs k).map (·.2)):=by
 induction r with
 | nil=>exact U9
 | @cons p q ps qs h t ih =>
  obtain⟨h1,_,h2⟩:=h;by_cases e:p.1=k
  ·have e':q.1=k:=h1.symm.trans e;have b:U8 (q::qs) k=some q.2:=by simp[U8,Sa,e']
   rw[AW e,b];exact h2
  ·have e':¬q.1=k:=λz=>e (h1.trans z)
   have b:U8 (q::qs) k=U8 qs k:=by simp[U8,Sa,e']
   rw[Dt e,b];exact ih
theorem KT.repl{H:Hp}{ag:List (List Key×V)}{xs:List (List Key×l_×b_)}(r:KT H ag xs)(k:List Key){y:V}(ry:RelV y u):
  KT H (ag.map λkv=>if kv.1=k then(kv.1,y) else kv) (xs.map (putAt k u)):=by
 induction r with
 | nil=>exact .nil
 | @cons p q ps qs h t ih =>
  rw[F_,F_];refine .cons ?_ ih;obtain⟨h1,h2,h3⟩:=h;unfold putAt;by_cases e:p.1=k
  ·rw[if_pos e,if_pos (h1.symm.trans e)];exact⟨h1,h2,ry⟩
  ·rw[if_neg e,if_neg (λz=>e (h1.trans z))];exact⟨h1,h2,h3⟩
theorem KT.put{H:Hp}{ag:List (List Key×V)}{xs:List (List Key×l_×b_)}(r:KT H ag xs)(k:List Key){y:V}(hb:H b=some (.tup (k.map kV)))(ry:RelV y u):
  KT H (putK ag k y) (storedH xs k b u):=by
 have e:(ag.any λkv=>decide (kv.1=k))=(U8 xs k).isSome:=by
  rw[Bp,(r.val k).isSome_eq,Option.isSome_map]
 unfold putK storedH;rw[e];by_cases q:(U8 xs k).isSome=true
 ·rw[if_pos q,if_pos q];exact r.repl k ry
 ·rw[if_neg q,if_neg q];exact snoc r ⟨rfl,hb,ry⟩
theorem KT.keeps{H:Hp}{ag:List (List Key×V)}{xs:List (List Key×l_×b_)}(r:KT H ag xs)(ht:∀b ys,H b=some (.tup ys)->H' b=some (.tup ys)):KT H' ag xs:=
 Paired.mapP r λ_ _ z=>⟨z.1,ht _ _ z.2.1,z.2.2⟩
section
variable{P:C_}{w:J_}{H:Hp}{h:I_}
theorem AO{u:HO}(ok:HOk P w H h)(e:Rd H a u):ObjOk P w H h a u:=e.ok ok
theorem JR{ag:List (Key×V)}(ok:HOk P w H h)(e:Rd H a (.dK ag)):ag.length<=x_/\(a == PU)=false/\∃vs,KV ag vs/\h.DictOf (mixKind P w) a vs:=
 show ObjOk P w H h a (.dK ag) from AO ok e
theorem LO{ag:List (Key×V)}(ok:HOk P w H h)(e:H a=some (.dK ag)):ag.length<=x_/\(a == PU)=false/\∃vs,KV ag vs/\h.DictOf (mixKind P w) a vs:=JR ok (.inl e)
theorem C'(ok:HOk P w H h)(e:H a=some (.tup (ks.map kV))):(TL (mixKind P w)).is h ks a:=by
 obtain⟨_,ae,r,o,h1,h2,n,h3⟩:=(show ObjOk P w H h a (.tup (ks.map kV)) from ok a _ e);exact⟨o,ae.toArray,n,h1,h2,h3,by simpa using Cc r⟩
theorem G6{ag:List (List Key×V)}(ok:HOk P w H h)(e:Rd H a (.dT ag)):ag.length<=x_/\(a == PU)=false ∧
  ∃xs,KT H ag xs/\h.DictOfH (TL (mixKind P w)) a xs:=by
 obtain⟨z,y,xs,r,o,es,ep,h1,h2,h3,h4,h5⟩:=(show ObjOk P w H h a (.dT ag) from AO ok e);refine⟨z,y,xs,r,o,es,ep,h1,h2,h3,h4,λx hx=>?_,h5⟩
 have all:∀{l:List (List Key×V)}{m:List (List Key×l_×b_)},KT H l m->∀x∈m,(TL (mixKind P w)).is h x.1 x.2.1:=by
  intro l m q
  induction q with
  | nil=>intro x hx;exact nomatch hx
  | @cons p q ps qs hq t ih =>
   intro x hx
   rcases r_.mp hx with e | hx
   ·subst e;exact C' ok (by rw[←hq.1];exact hq.2.1)
   ·exact ih x hx
 exact all r x hx
theorem Bc{ag:List (List Key×V)}(ok:HOk P w H h)(e:H a=some (.dT ag)):ag.length<=x_/\(a == PU)=false ∧
  ∃xs,KT H ag xs/\h.DictOfH (TL (mixKind P w)) a xs:=G6 ok (.inl e)
end
def DPut(H:Hp)(a:l_)(y v:V)(H':Hp):Prop:=
 (∃ag k,H a=some (.dK ag)/\y=kV k/\ag.length < x_/\H'=upd H a (.dK (putK ag k v))) ∨
 ∃ag k b,H a=some (.dT ag)/\y=.ref b/\H b=some (.tup (k.map kV))/\ag.length < x_/\H'=upd H a (.dT (putK ag k v))
theorem DPut.t{H:Hp}{ag:List (List Key×V)}{k:List Key}{v:V}(e:H a=some (.dT ag))(eb:H b=some (.tup (k.map kV)))(hl:ag.length < x_):
  DPut H a (.ref b) v (upd H a (.dT (putK ag k v))):=.inr ⟨ag,k,b,e,rfl,eb,hl,rfl⟩
section
variable{H:Hp}{s:d_}{y v:V}{r:b_}{o:Option V}{E:b_->d_->Prop}
theorem Inv.big(I:Inv X aa U H s):PU < s.heap.objs.size:=by
 have h:Pr < s.heap.objs.size:=(I.mod.glob.keeps I.bk).lt;exact Nat.lt_trans (by decide) h
theorem CC{ob:HO}(I:Inv X aa U H s)(mu:Mut (H a))(hs:I_.SameBut a s.heap h')(he:∃q,h'.get? a=some q)(new:ObjOk X.prog X.w (upd H a ob) h' a ob):
  Inv X aa U (upd H a ob) { s with heap:=h',toks:=t' }:=
 I.write (x:=a) (e:=a) mu (.inl rfl) (λb q hb z=>(hs.2 b hb).trans z) he new
theorem L9{P:C_}{w:J_}{ag:List (Key×V)}{vs:List (Key×b_)}(z:ag.length<=x_)(hd:(a == PU)=false)(cR:KV ag vs)(dd:h'.DictOf (mixKind P w) a vs):
  ObjOk P w H' h' a (.dK ag):=⟨z,hd,vs,cR,dd⟩
theorem JI{Q:Unit->d_->Prop}(hu:A.units+1 < PK)(I:Inv X aa U H s)(g:DPut H a y v H')(ry:RelV y u)(rv:RelV v r)(h:∀s',Inv X aa U H' s'->Q () s'):
  o_ (s_ X.prog X.w) A (Vr (.ref a) u r) Q E s:=by
 rcases g with⟨ag,k,e,ey,l,eH⟩ | ⟨ag,k,b,e,ey,eb,l,eH⟩
 ·subst ey eH;obtain⟨z,hd,vs,cR,dd⟩:=LO I.hok e;have hz:vs.length<=x_:=by rw[←cR.length];exact z
  have hl:(putK ag k v).length<=x_:=by have:=Bo ag k v;omega
  refine wpAny_setItem_pairs (hsz:=hz) (A6 ry) dd λh' iN hs=>h _ ?_
  have he:∃q,h'.get? a=some q:=let ⟨q,_,_,hq,_⟩:=iN;⟨q,hq⟩
  exact CC I (by rw[e];exact U9) hs he (L9 hl hd (cR.put k rv) iN)
 ·subst ey eH
  cases(show u=b_.ref b from ry)
  obtain⟨z,hd,xs,cR,dd⟩:=Bc I.hok e;have hz:xs.length<=x_:=by rw[←Paired.length cR];exact z
  have hl:(putK ag k v).length<=x_:=by have:=Bo ag k v;omega
  refine wpAny_setItem_heap (hsz:=hz) (tupleKind_room_in1 hu) (C' I.hok eb) dd λh' iN hs=>h _ ?_
  obtain⟨q,es,ep,hq,h2,h3,h4,_,h5⟩:=iN;refine CC I (by rw[e];exact U9) hs ⟨q,hq⟩ ⟨hl,hd,_,(cR.put k eb rv).keeps λc ys ec=>?_,q,es,ep,hq,h2,h3,h4,h5⟩;rw[qX (Fq ec e (λz=>nomatch z))];exact ec
end
noncomputable def sDPut(td ty tv:TE):TS:=λD U H=>tv U H λv H1=>td U H1 λx H2=>ty U H2 λy H3=>∃a H4,x=.ref a/\DPut H3 a y v H4/\D.nx U H4
section
variable{o i value:OU}{lf:Pos}{td ty tv:TE}
theorem G5(hu:X.A.units+1 < PK)(ho:PE X o td)(hi:PE X i ty)(hv:PE X value tv)(hs:Pu value (some (.Subscript o i aG)) pos.line X.env=pure false):
  PS X (.Assign [.Subscript o i aG] value pos) (sDPut td ty tv):=by
 intro aa s U H D I h;refine wpAny_Assign_Subscript (thn (hv aa s U H _ I h) λr s1 ⟨v,H1,I1,rv,q1⟩=>thn (ho aa s1 U H1 _ I1 q1) λu s2 ⟨x,H2,I2,rx,q2⟩=>thn (hi aa s2 U H2 _ I2 q2) λiv s3 ⟨y,H3,I3,ry,a,H4,ex,g,q3⟩=>?_) hs;subst ex;obtain rfl:u=b_.ref a:=rx;exact JI hu I3 g ry rv λs4 I4=>⟨U,H4,I4,q3⟩
end
theorem Jh{P:C_}{w:J_}{H:Hp}(h:I_)(hb:PU < h.objs.size):ObjOk P w H (h.push { cls:=.type "dict", data:=.dict #[] }) h.objs.size (.dT []):=
 ⟨O5 _,beq_eq_false_iff_ne.mpr (O4 (OI hb)),[],.nil,_,#[],0,t_ _ rfl,⟨rfl,rfl,rfl⟩,rfl,rfl,R4⟩
noncomputable def tDNewT:TE:=λ_ H Q=>∀p,H p=none->Q (.ref p) (upd H p (.dT []))
section
theorem Ky:PE X (.Dict [] [] pos) tDNewT:=λaa s U H Q I h =>
 wpAny_Dict_empty ⟨.ref s.heap.objs.size,_,I.laid (a:=s.heap.objs.size) (o:=.dT []) (t':=s.toks) (λ_ _ q=>e_ _ q) (v_ _) (Jh s.heap I.big),rfl,h _ (I.hok.fresh (v_ _))⟩
end
end L2
set_option maxHeartbeats 4000000
namespace DL
open PySem PySem.Spec PyProof.Rows L2
inductive D where
 | non | bl (b:Bool) | int (i:Int) | str (x:Str) | tup (xs:List D) | lst (xs:List D)
def RdK(K:PySem.W.Frag)(I:Hp)(a:l_)(xs:List V):Prop:=Rd I a (.lst xs)\/∃(ae:List b_) (n:Nat),K.lookup a=some { cls:=.type "list", data:=.seq ae.toArray n }/\Vals xs ae/\ae.length<=x_
theorem RdK.of{K:PySem.W.Frag}(h:I a=some (.lst xs)):RdK K I a xs:=.inl (.inl h)
theorem RdK.sq{K:PySem.W.Frag}(h:RdK K I a xs):SqL K I a xs:=by
 rcases h with h | ⟨ae,n,h1,h2,h3⟩
 ·exact .inl h
 ·exact .inr ⟨_,ae.toArray,n,h1,rfl,rfl,rfl,by simpa using h3,by simpa using h2⟩
mutual
def Is(K:PySem.W.Frag)(I:Hp):D->V->Prop
 | .non,v=>v=.non
 | .bl b,v=>v=.bl b
 | .int i,v=>v=.int i
 | .str x,v=>v=.str x
 | .tup ds,v=>∃a xs,v=.ref a/\I a=some (.tup xs)/\IsA K I ds xs
 | .lst ds,v=>∃a xs,v=.ref a/\RdK K I a xs/\IsA K I ds xs
def IsA(K:PySem.W.Frag)(I:Hp):List D->List V->Prop
 | [],xs=>xs=[]
 | d::ds,xs=>∃x r,xs=x::r/\Is K I d x/\IsA K I ds r
end
section
variable{K:PySem.W.Frag}{H:Hp}
theorem Same.rd(e:Same I I')(h:Rd I a o):Rd I' a o:=by
 rcases h with h | ⟨u,h⟩
 ·exact .inl (e _ _ h)
 ·exact .inr ⟨u,e _ _ h⟩
theorem Same.rdK(e:Same I I')(h:RdK K I a xs):RdK K I' a xs:=by
 rcases h with h | h
 ·exact .inl (Same.rd e h)
 ·exact .inr h
theorem Same.sqT(e:Same I I')(h:SqT K I a xs):SqT K I' a xs:=by
 rcases h with h | h
 ·exact .inl (Same.rd e h)
 ·exact .inr h
mutual
theorem Is.mono(e:Same I I'):∀{d:D}{v:V},Is K I d v->Is K I' d v
 | .non,_,h=>by rw[Is] at h ⊢;exact h
 | .bl _,_,h=>by rw[Is] at h ⊢;exact h
 | .int _,_,h=>by rw[Is] at h ⊢;exact h
 | .str _,_,h=>by rw[Is] at h ⊢;exact h
 | .tup ds,v,h=>by
  rw[Is] at h ⊢;obtain⟨a,xs,e1,e2,e3⟩:=h;exact⟨a,xs,e1,e _ _ e2,IsA.mono e e3⟩
 | .lst ds,v,h=>by
  rw[Is] at h ⊢;obtain⟨a,xs,e1,e2,e3⟩:=h;exact⟨a,xs,e1,Same.rdK e e2,IsA.mono e e3⟩
theorem IsA.mono(e:Same I I'):∀{ds:List D}{xs:List V},IsA K I ds xs->IsA K I' ds xs
 | [],_,h=>by rw[IsA] at h ⊢;exact h
 | d::ds,xs,h=>by
  rw[IsA] at h ⊢;obtain⟨x,r,e1,e2,e3⟩:=h;exact⟨x,r,e1,Is.mono e e2,IsA.mono e e3⟩
end
theorem IsA.nil:IsA K I [] []:=by rw[IsA]
theorem IsA.cons{d:D}{ds:List D}{x:V}{xs:List V}(h:Is K I d x)(t:IsA K I ds xs):IsA K I (d::ds) (x::xs):=by
 rw[IsA];exact⟨x,xs,rfl,h,t⟩
theorem IsA.nil_inv(h:IsA K I [] xs):xs=[]:=by rw[IsA] at h;exact h
theorem IsA.cons_inv{d:D}{ds:List D}(h:IsA K I (d::ds) xs):∃x r,xs=x::r/\Is K I d x/\IsA K I ds r:=by rw[IsA] at h;exact h
theorem IsA.length:∀{ds:List D}{xs:List V},IsA K I ds xs->ds.length=xs.length
 | [],xs,h=>by rw[h.nil_inv]<;>rfl
 | d::ds,xs,h=>by
  obtain⟨x,r,rfl,_,t⟩:=h.cons_inv;simp[IsA.length t]
theorem IsA.get:∀{ds:List D}{xs:List V}{i:Nat}{d:D},IsA K I ds xs->ds[i]?=some d->∃x,xs[i]?=some x/\Is K I d x
 | [],xs,i,d,h,e=>by simp at e
 | c::ds,xs,0,d,h,e=>by
  obtain⟨x,r,rfl,hx,t⟩:=h.cons_inv;simp at e;subst e;exact⟨x,rfl,hx⟩
 | c::ds,xs,i+1,d,h,e=>by
  obtain⟨x,r,rfl,hx,t⟩:=h.cons_inv;obtain⟨y,e1,e2⟩:=IsA.get (i:=i) t (by simpa using e);exact⟨y,by simpa using e1,e2⟩
theorem IsA.append:∀{ds es:List D}{xs ys:List V},IsA K I ds xs->IsA K I es ys->IsA K I (ds++es) (xs++ys)
 | [],es,xs,ys,h,t=>by rw[h.nil_inv];exact t
 | d::ds,es,xs,ys,h,t=>by
  obtain⟨x,r,rfl,hx,h'⟩:=h.cons_inv;exact IsA.cons hx (IsA.append h' t)
theorem IsA.take:∀{ds:List D}{xs:List V} (n:Nat),IsA K I ds xs->IsA K I (ds.take n) (xs.take n)
 | ds,xs,0,h=>by rw[List.take_zero,List.take_zero];exact IsA.nil
 | [],xs,n+1,h=>by rw[h.nil_inv];exact IsA.nil
 | d::ds,xs,n+1,h=>by
  obtain⟨x,r,rfl,hx,h'⟩:=h.cons_inv;rw[TN,TN];exact IsA.cons hx (IsA.take n h')
theorem IsA.drop:∀{ds:List D}{xs:List V} (n:Nat),IsA K I ds xs->IsA K I (ds.drop n) (xs.drop n)
 | ds,xs,0,h=>by rw[List.drop_zero,List.drop_zero];exact h
 | [],xs,n+1,h=>by rw[h.nil_inv];exact IsA.nil
 | d::ds,xs,n+1,h=>by
  obtain⟨x,r,rfl,hx,h'⟩:=h.cons_inv;rw[Sb,Sb];exact IsA.drop n h'
theorem IsA.set{d:D}{x:V}(q:Is K I d x):∀{ds:List D}{xs:List V} (n:Nat),IsA K I ds xs->IsA K I (ds.set n d) (xs.set n x)
 | [],xs,n,h=>by rw[h.nil_inv];exact IsA.nil
 | c::ds,xs,0,h=>by
  obtain⟨y,r,rfl,hx,h'⟩:=h.cons_inv;exact IsA.cons q h'
 | c::ds,xs,n+1,h=>by
  obtain⟨y,r,rfl,hx,h'⟩:=h.cons_inv;exact IsA.cons hx (IsA.set q n h')
theorem IsA.reverse:∀{ds:List D}{xs:List V},IsA K I ds xs->IsA K I ds.reverse xs.reverse
 | [],xs,h=>by rw[h.nil_inv];exact IsA.nil
 | d::ds,xs,h=>by
  obtain⟨x,r,rfl,hx,h'⟩:=h.cons_inv;rw[Uq,Uq];exact IsA.append (IsA.reverse h') (IsA.cons hx IsA.nil)
theorem IsA.one{d:D}(h:IsA K I [d] xs):∃x,xs=[x]/\Is K I d x:=by
 obtain⟨x,r,rfl,hx,t⟩:=h.cons_inv;rw[t.nil_inv];exact⟨x,rfl,hx⟩
theorem IsA.two{d e:D}(h:IsA K I [d,e] xs):∃x y,xs=[x,y]/\Is K I d x/\Is K I e y:=by
 obtain⟨x,r,rfl,hx,t⟩:=h.cons_inv;obtain⟨y,rfl,hy⟩:=t.one;exact⟨x,y,rfl,hx,hy⟩
theorem qZ{i:Int}{v:V}(h:Is K I (.int i) v):v=.int i:=by rw[Is] at h;exact h
theorem r9{i:Bool}{v:V}(h:Is K I (.bl i) v):v=.bl i:=by rw[Is] at h;exact h
theorem sr{i:Str}{v:V}(h:Is K I (.str i) v):v=.str i:=by rw[Is] at h;exact h
theorem sv{v:V}(h:Is K I .non v):v=.non:=by rw[Is] at h;exact h
theorem uQ{ds:List D}{v:V}(h:Is K I (.tup ds) v):∃a xs,v=.ref a/\I a=some (.tup xs)/\IsA K I ds xs:=by rw[Is] at h;exact h
theorem rm{ds:List D}{v:V}(h:Is K I (.tup ds) v):∃a xs,v=.ref a/\SqT K I a xs/\IsA K I ds xs:=by
 obtain⟨a,xs,e,h1,h2⟩:=uQ h;exact⟨a,xs,e,SqT.of h1,h2⟩
theorem rl{ds:List D}{v:V}(h:Is K I (.lst ds) v):∃a xs,v=.ref a/\RdK K I a xs/\IsA K I ds xs:=by rw[Is] at h;exact h
theorem Is.int(i:Int):Is K I (.int i) (.int i):=by rw[Is]
theorem Is.bl(i:Bool):Is K I (.bl i) (.bl i):=by rw[Is]
theorem Is.str(i:Str):Is K I (.str i) (.str i):=by rw[Is]
theorem Is.non:Is K I .non .non:=by rw[Is]
theorem Is.tup{ds:List D}(h:I a=some (.tup xs))(t:IsA K I ds xs):Is K I (.tup ds) (.ref a):=by rw[Is];exact⟨a,xs,rfl,h,t⟩
theorem Is.lst{ds:List D}(h:RdK K I a xs)(t:IsA K I ds xs):Is K I (.lst ds) (.ref a):=by rw[Is];exact⟨a,xs,rfl,h,t⟩
end
inductive R where
 | val (d:D) | own (ds:List D) | bor (ds:List D) | fro (ds:List D) | dic (ag:List ((Int×Int)×D)) | tfr (ds:List D)
noncomputable def R.mut:R->Bool
 | .val _=>false
 | .own _=>true
 | .bor _=>true
 | .fro _=>false
 | .tfr _=>false
 | .dic _=>false
noncomputable def R.ptr:R->Bool
 | .val _=>false
 | .own _=>true
 | .bor _=>true
 | .fro _=>false
 | .tfr _=>false
 | .dic _=>true
abbrev Gm:=List (Option R)
def Mt(K:PySem.W.Frag)(G I H:Hp)(ds:List D)(v:V):Prop:=∃p xs,v=.ref p/\H p=some (.lst xs)/\I p=none/\G p=none/\IsA K I ds xs
def IsK(K:PySem.W.Frag)(I:Hp)(ag:List ((Int×Int)×D))(xs:List (List Key×V)):Prop:=xs.map (·.1)=ag.map (λq=>[RU q.1.1,RU q.1.2])/\IsA K I (ag.map (·.2)) (xs.map (·.2))
theorem IsK.mono{K:PySem.W.Frag}{ag:List ((Int×Int)×D)}{xs:List (List Key×V)}(e:Same I I')(h:IsK K I ag xs):IsK K I' ag xs:=⟨h.1,h.2.mono e⟩
def MtK(K:PySem.W.Frag)(G I H:Hp)(ag:List ((Int×Int)×D))(v:V):Prop:=∃p xs,v=.ref p/\H p=some (.dT xs)/\I p=none/\G p=none/\IsK K I ag xs
def SlotOk(K:PySem.W.Frag)(G I H:Hp):R->V->Prop
 | .val d,v=>Is K I d v
 | .own ds,v=>Mt K G I H ds v
 | .bor ds,v=>Mt K G I H ds v
 | .fro ds,v=>∃p xs,v=.ref p/\I p=some (.lst xs)/\G p=none/\IsA K I ds xs
 | .tfr _,_=>False
 | .dic ag,v=>MtK K G I H ag v
theorem SlotOk.mt{K:PySem.W.Frag}{H:Hp}{r:R}{v:V}(h:SlotOk K G I H r v)(m:r.ptr=true):∃p xs,v=.ref p/\H p=some xs/\I p=none/\G p=none:=by
 cases r with
 | val d=>cases m
 | own ds=>obtain⟨p,xs,e1,e2,e3,e4,_⟩:=h;exact⟨p,_,e1,e2,e3,e4⟩
 | bor ds=>obtain⟨p,xs,e1,e2,e3,e4,_⟩:=h;exact⟨p,_,e1,e2,e3,e4⟩
 | fro ds=>cases m
 | tfr ds=>cases m
 | dic ds=>obtain⟨p,xs,e1,e2,e3,e4,_⟩:=h;exact⟨p,_,e1,e2,e3,e4⟩
structure Rep(K:PySem.W.Frag)(B:Nat->Option (Option V))(G I H:Hp)(U:L2.St)(Y:Gm):Prop where
 iH:Same I H
 gH:Same G H
 len:U.length=Y.length
 slot:∀(i:Nat) (r:R),Y[i]?=some (some r)->∃v,U[i]?=some (some v)/\SlotOk K G I H r v
 dist:∀(i j:Nat) (r r':R) (v:V),Y[i]?=some (some r)->Y[j]?=some (some r')->r.ptr=true->r'.ptr=true->U[i]?=some (some v)->U[j]?=some (some v)->i=j
 bor:∀(i:Nat) (ds:List D),Y[i]?=some (some (.bor ds))->U[i]?=B i
structure Grow(G I I':Hp):Prop where
 up:Same I I'
 new:∀b o,I' b=some o->I b=some o\/G b=none
theorem Grow.refl(G I:Hp):Grow G I I:=⟨Same.refl _,λ_ _ h=>.inl h⟩
theorem Grow.trans{I1 I2:Hp}(a:Grow G I I1)(b:Grow G I1 I2):Grow G I I2:=⟨a.up.trans b.up,λc o h=>by
 rcases b.new c o h with h1 | h1
 ·exact a.new c o h1
 ·exact .inr h1⟩
section
variable{K:PySem.W.Frag}{B:Nat->Option (Option V)}{H:Hp}{Y:Gm}
theorem Rep.ext(r:Rep K B G I H U Y)(hI:Same I I')(hH:Same H H')(iH:Same I' H')(new:∀b o,I' b=some o->I b=some o\/H b=none):Rep K B G I' H' U Y where
 iH:=iH
 gH:=r.gH.trans hH
 len:=r.len
 slot:=λi q e=>by
  obtain⟨v,e1,e2⟩:=r.slot i q e;refine⟨v,e1,?_⟩
  have mt:∀ds,Mt K G I H ds v->Mt K G I' H' ds v:=λds h=>by
   obtain⟨p,xs,h1,h2,h3,h4,h5⟩:=h;refine⟨p,xs,h1,hH _ _ h2,?_,h4,h5.mono hI⟩;cases z:I' p with
   | none=>rfl
   | some o =>
    rcases new p o z with z1 | z1
    ·rw[h3] at z1;cases z1
    ·rw[h2] at z1;cases z1
  cases q with
  | val d=>exact Is.mono hI e2
  | dic ds =>
   obtain⟨p,xs,h1,h2,h3,h4,h5⟩:=e2;refine⟨p,xs,h1,hH _ _ h2,?_,h4,h5.mono hI⟩;cases z:I' p with
   | none=>rfl
   | some o =>
    rcases new p o z with z1 | z1
    ·rw[h3] at z1;cases z1
    ·rw[h2] at z1;cases z1
  | own ds=>exact mt ds e2
  | bor ds=>exact mt ds e2
  | fro ds=>obtain⟨p,xs,f1,f2,f3,f4⟩:=e2;exact⟨p,xs,f1,hI _ _ f2,f3,f4.mono hI⟩
  | tfr ds=>exact e2.elim
 dist:=r.dist
 bor:=r.bor
theorem rN{H:Hp}{p:l_}(h:H p=none)(o:HO):Same H (upd H p o):=λb u q=>by rw[qX (sK q h)];exact q
theorem CZ{I H:Hp}{p:l_}(h:Same I H)(o:HO):Same (upd I p o) (upd H p o):=λb u q=>by
 by_cases e:b=p
 ·subst e;rw[rn] at q ⊢;exact q
 ·rw[qX e] at q ⊢;exact h b u q
theorem Rep.iFree(r:Rep K B G I H U Y){p:l_}(h:H p=none):I p=none:=r.iH.free h
theorem Rep.gFree(r:Rep K B G I H U Y){p:l_}(h:H p=none):G p=none:=r.gH.free h
theorem Rep.alloc(r:Rep K B G I H U Y){p:l_}(h:H p=none)(o:HO):Rep K B G (upd I p o) (upd H p o) U Y:=
 r.ext (rN (r.iFree h) o) (rN h o) (CZ r.iH o) λb u q=>by
  by_cases e:b=p
  ·subst e;exact .inr h
  ·rw[qX e] at q;exact .inl q
theorem Rep.growAlloc(r:Rep K B G I H U Y){p:l_}(h:H p=none)(o:HO):Grow G I (upd I p o):=⟨rN (r.iFree h) o,λb u q=>by
 by_cases e:b=p
 ·subst e;exact .inr (r.gFree h)
 ·rw[qX e] at q;exact .inl q⟩
theorem Rep.fresh(r:Rep K B G I H U Y){p:l_}(h:H p=none)(o:HO):Rep K B G I (upd H p o) U Y:=
 r.ext (Same.refl _) (rN h o) (r.iH.trans (rN h o)) λb u q=>.inl q
def Apart(U:L2.St)(Y:Gm)(p:l_):Prop:=∀(j:Nat) (r:R),Y[j]?=some (some r)->r.ptr=true->U[j]?≠some (some (.ref p))
theorem Rep.apart(r:Rep K B G I H U Y){p:l_}(h:H p=none):Apart U Y p:=λj q e m z=>by
 obtain⟨v,e1,e2⟩:=r.slot j q e;obtain⟨p',xs,h1,h2,_,_⟩:=e2.mt m;rw[e1] at z;subst h1;cases z;rw[h] at h2;cases h2
theorem Rep.freeze(r:Rep K B G I H U Y){p:l_}(h:H p=some (.lst xs))(hi:I p=none)(a:Apart U Y p):Rep K B G (upd I p (.lst xs)) H U Y where
 iH:=λb u q=>by
  by_cases e:b=p
  ·subst e;rw[rn] at q;cases q;exact h
  ·rw[qX e] at q;exact r.iH b u q
 gH:=r.gH
 len:=r.len
 slot:=λi q e=>by
  obtain⟨v,e1,e2⟩:=r.slot i q e;refine⟨v,e1,?_⟩;have up:=rN hi (.lst xs)
  have mt:q.ptr=true->∀ds,Mt K G I H ds v->Mt K G (upd I p (.lst xs)) H ds v:=λm ds h=>by
   obtain⟨p',bx,h1,h2,h3,h4,h5⟩:=h;refine⟨p',bx,h1,h2,?_,h4,h5.mono up⟩;have ne:p'≠p:=λz=>a i q e m (by rw[e1,h1,z])
   rw[qX ne];exact h3
  cases q with
  | val d=>exact Is.mono up e2
  | dic ds =>
   obtain⟨p',bx,h1,h2,h3,h4,h5⟩:=e2;refine⟨p',bx,h1,h2,?_,h4,h5.mono up⟩;have ne:p'≠p:=λz=>a i _ e rfl (by rw[e1,h1,z])
   rw[qX ne];exact h3
  | own ds=>exact mt rfl ds e2
  | bor ds=>exact mt rfl ds e2
  | fro ds=>obtain⟨p,xs,f1,f2,f3,f4⟩:=e2;exact⟨p,xs,f1,up _ _ f2,f3,f4.mono up⟩
  | tfr ds=>exact e2.elim
 dist:=r.dist
 bor:=r.bor
theorem growFreeze{G I:Hp}{p:l_}(hi:I p=none)(hg:G p=none):Grow G I (upd I p (.lst xs)):=⟨rN hi _,λb u q=>by
 by_cases e:b=p
 ·subst e;exact .inr hg
 ·rw[qX e] at q;exact .inl q⟩
theorem rG{α:Type}{l:List α}{a b:α}(h:(l.set i a)[j]?=some b):(j=i/\b=a/\i < l.length)\/(j≠i/\l[j]?=some b):=by
 by_cases e:j=i
 ·subst e;by_cases hl:j < l.length
  ·rw[Qq hl] at h;cases h;exact .inl ⟨rfl,rfl,hl⟩
  ·rw[Pv (by rw[Q1];omega)] at h;cases h
 ·rw[PJ (O4 e)] at h;exact .inr ⟨e,h⟩
theorem Rep.forget(r:Rep K B G I H U Y)(i:Nat):Rep K B G I H U (Y.set i none) where
 iH:=r.iH
 gH:=r.gH
 len:=by rw[Q1];exact r.len
 slot:=λj q e=>by
  rcases rG e with⟨_,z,_⟩ | ⟨_,z⟩
  ·cases z
  ·exact r.slot j q z
 dist:=λj k q q' v e e'=>by
  rcases rG e with⟨_,z,_⟩ | ⟨_,z⟩
  ·cases z
  rcases rG e' with⟨_,z',_⟩ | ⟨_,z'⟩
  ·cases z'
  exact r.dist j k q q' v z z'
 bor:=λj ds e=>by
  rcases rG e with⟨_,z,_⟩ | ⟨_,z⟩
  ·cases z
  ·exact r.bor j ds z
theorem Rep.learn(r:Rep K B G I H U Y){q:R}{v:V}(hv:U[i]?=some (some v))(ok:SlotOk K G I H q v)(ha:q.ptr=true->∀p,v=.ref p->∀(j:Nat) (r:R),j≠i->Y[j]?=some (some r)->r.ptr=true->U[j]?≠some (some (.ref p)))(hb:∀ds,q=.bor ds->U[i]?=B i):Rep K B G I H U (Y.set i (some q)) where
 iH:=r.iH
 gH:=r.gH
 len:=by rw[Q1];exact r.len
 slot:=λj q' e=>by
  rcases rG e with⟨rfl,z,_⟩ | ⟨_,z⟩
  ·cases z;exact⟨v,hv,ok⟩
  ·exact r.slot j q' z
 dist:=λj k q1 q2 w e e' m1 m2 s1 s2=>by
  rcases rG e with⟨rfl,z,_⟩ | ⟨n1,z⟩
  ·cases z
   rcases rG e' with⟨rfl,z',_⟩ | ⟨n2,z'⟩
   ·rfl
   ·obtain⟨p,xs,e1,_⟩:=ok.mt m1;rw[hv] at s1;cases s1;exact absurd (e1▸s2) (ha m1 p e1 k q2 n2 z' m2)
  ·rcases rG e' with⟨rfl,z',_⟩ | ⟨n2,z'⟩
   ·cases z';obtain⟨p,xs,e1,_⟩:=ok.mt m2;rw[hv] at s2;cases s2;exact absurd (e1▸s1) (ha m2 p e1 j q1 n1 z m1)
   ·exact r.dist j k q1 q2 w z z' m1 m2 s1 s2
 bor:=λj ds e=>by
  rcases rG e with⟨rfl,z,_⟩ | ⟨_,z⟩
  ·cases z;exact hb ds rfl
  ·exact r.bor j ds z
theorem Rep.store(r:Rep K B G I H U Y){q:R}{v:V}(hi:i < U.length)(ok:SlotOk K G I H q v)(ha:q.ptr=true->∀p,v=.ref p->Apart U Y p)(hb:∀ds,q≠.bor ds):Rep K B G I H (U.set i (some v)) (Y.set i (some q)):=by
 have r1:Rep K B G I H (U.set i (some v)) (Y.set i none):={
  iH:=r.iH,gH:=r.gH,len:=by rw[Q1,Q1];exact r.len
  slot:=λj q' e=>by
   rcases rG e with⟨_,z,_⟩ | ⟨n,z⟩
   ·cases z
   ·rw[PJ (O4 n)];exact r.slot j q' z
  dist:=λj k q1 q2 w e e' m1 m2 s1 s2=>by
   rcases rG e with⟨_,z,_⟩ | ⟨n1,z⟩
   ·cases z
   rcases rG e' with⟨_,z',_⟩ | ⟨n2,z'⟩
   ·cases z'
   rw[PJ (O4 n1)] at s1;rw[PJ (O4 n2)] at s2;exact r.dist j k q1 q2 w z z' m1 m2 s1 s2
  bor:=λj ds e=>by
   rcases rG e with⟨_,z,_⟩ | ⟨n,z⟩
   ·cases z
   ·rw[PJ (O4 n)];exact r.bor j ds z }
 have r2:=r1.learn (i:=i) (q:=q) (v:=v) (by rw[Qq hi]) ok (λm p e j q' n z m' s=>by
  rcases rG z with⟨_,z',_⟩ | ⟨_,z'⟩
  ·cases z'
  ·rw[PJ (O4 n)] at s
   exact ha m p e j q' z' m' s) (λds e=>absurd e (hb ds))
 rw[UT] at r2;exact r2
theorem Rep.write(r:Rep K B G I H U Y){q q':R}{p:l_}{ys:List V}{ds:List D}(hq:Y[i]?=some (some q))(hm:q.ptr=true)(hs:U[i]?=some (some (.ref p)))(h:H p=some (.lst xs))(cD:q'=.own ds\/(q'=.bor ds/\∃es,q=.bor es))(hd:IsA K I ds ys):
  Rep K B G I (upd H p (.lst ys)) U (Y.set i (some q')):=by
 obtain⟨v,e1,e2⟩:=r.slot i q hq;obtain⟨p',bx,h1,h2,h3,h4⟩:=e2.mt hm;have hp:p'=p:=by rw[hs] at e1;subst h1;cases e1;rfl
 subst hp;have bS:∀(j:Nat) (r':R),j≠i->Y[j]?=some (some r')->r'.ptr=true->U[j]?≠some (some (.ref p')):=λj r' n z m s=>n (r.dist j i r' q _ z hq m hm s hs)
 have sI:Same I (upd H p' (.lst ys)):=λb u z=>by
  have ne:b≠p':=λe=>by subst e;rw[h3] at z;cases z
  rw[qX ne];exact r.iH b u z
 have sG:Same G (upd H p' (.lst ys)):=λb u z=>by
  have ne:b≠p':=λe=>by subst e;rw[h4] at z;cases z
  rw[qX ne];exact r.gH b u z
 have r1:Rep K B G I (upd H p' (.lst ys)) U (Y.set i none):={
  iH:=sI,gH:=sG,len:=by rw[Q1];exact r.len
  slot:=λj q1 e=>by
   rcases rG e with⟨_,z,_⟩ | ⟨n,z⟩
   ·cases z
   obtain⟨w,e3,e4⟩:=r.slot j q1 z;refine⟨w,e3,?_⟩
   have mt:q1.ptr=true->∀ds,Mt K G I H ds w->Mt K G I (upd H p' (.lst ys)) ds w:=λm ds hh=>by
    obtain⟨p2,c9,g1,g2,g3,g4,g5⟩:=hh;refine⟨p2,c9,g1,?_,g3,g4,g5⟩;have ne:p2≠p':=λz2=>bS j q1 n z m (by rw[e3,g1,z2])
    rw[qX ne];exact g2
   cases q1 with
   | val d=>exact e4
   | dic ds =>
    obtain⟨p2,c9,g1,g2,g3,g4,g5⟩:=e4;refine⟨p2,c9,g1,?_,g3,g4,g5⟩;have ne:p2≠p':=λz2=>bS j _ n z rfl (by rw[e3,g1,z2])
    rw[qX ne];exact g2
   | own ds=>exact mt rfl ds e4
   | bor ds=>exact mt rfl ds e4
   | fro ds=>exact e4
   | tfr ds=>exact e4
  dist:=(r.forget i).dist
  bor:=(r.forget i).bor }
 have lv:Mt K G I (upd H p' (.lst ys)) ds (.ref p'):=⟨p',ys,rfl,rn,h3,h4,hd⟩
 have r2:=r1.learn (i:=i) (q:=q') (v:=.ref p') hs (by rcases cD with rfl | ⟨rfl,_⟩<;>exact lv) (λm p2 e j r' n z m' s=>by
  cases e
  rcases rG z with⟨_,z',_⟩ | ⟨_,z'⟩
  ·cases z'
  ·exact bS j r' n z' m' s) (λes e=>by
  rcases cD with rfl | ⟨rfl,es',rfl⟩
  ·cases e
  ·exact r.bor i es' hq)
 rw[UT] at r2;exact r2
end
end DL
variable{ys ds:List DL.D}{d:DL.D}{ag:List ((Int×Int)×DL.D)}{Y af:DL.Gm}{F:List DL.D->Option (List DL.D)}{F':DL.D->DL.D->Option DL.D}{rr:DL.R}
namespace DL
open PySem PySem.Spec PyProof.Rows L2
noncomputable abbrev M(α:Type):=Gm->Option (α×Gm)
noncomputable def ret{α:Type}(a:α):M α:=λY=>some (a,Y)
noncomputable def bnd{α β:Type}(m:M α)(f:α->M β):M β:=λY=>match m Y with
 | some (a,ac)=>f a ac
 | none=>none
noncomputable def lft{α:Type}(o:Option α):M α:=λY=>match o with
 | some a=>some (a,Y)
 | none=>none
theorem qT{α β:Type}{m:M α}{f:α->M β}{b:β}(h:bnd m f Y=some (b,af)):∃a ac,m Y=some (a,ac)/\f a ac=some (b,af):=by
 unfold bnd at h;cases e:m Y with
 | none=>rw[e] at h;cases h
 | some q=>obtain⟨a,ac⟩:=q;rw[e] at h;exact⟨a,ac,rfl,h⟩
theorem rp{α:Type}{o:Option α}{a:α}(h:lft o Y=some (a,af)):o=some a/\af=Y:=by
 unfold lft at h;cases o with
 | none=>cases h
 | some b=>cases h;exact⟨rfl,rfl⟩
section
variable (K:PySem.W.Frag)(B:Nat->Option (Option V))
def KD(G I:Hp)(U:L2.St)(af:Gm)(d:D)(Q:VK):Prop:=∀v H' I',Rep K B G I' H' U af->Grow G I I'->Is K I' d v->Q v H'
def KO(G I:Hp)(U:L2.St)(af:Gm)(ds:List D)(Q:VK):Prop:=∀p xs H' I',Rep K B G I' H' U af->Grow G I I'->H' p=some (.lst xs)->I' p=none->G p=none->Apart U af p->IsA K I' ds xs->Q (.ref p) H'
def KT(G I:Hp)(U:L2.St)(af:Gm)(b:Bool)(Q:Bool->Hp->Prop):Prop:=∀H' I',Rep K B G I' H' U af->Grow G I I'->Q b H'
def KA(G I:Hp)(U:L2.St)(af:Gm)(ds:List D)(Q:List V->Hp->Prop):Prop:=∀vs H' I',Rep K B G I' H' U af->Grow G I I'->IsA K I' ds vs->Q vs H'
noncomputable def tD(g:M D):TE:=λU H Q=>∃G I Y d af,Rep K B G I H U Y/\g Y=some (d,af)/\KD K B G I U af d Q
noncomputable def tO(g:M (List D)):TE:=λU H Q=>∃G I Y ds af,Rep K B G I H U Y/\g Y=some (ds,af)/\KO K B G I U af ds Q
noncomputable def tTD(g:M Bool):TT:=λU H Q=>∃G I Y b af,Rep K B G I H U Y/\g Y=some (b,af)/\KT K B G I U af b Q
noncomputable def tAD(g:M (List D)):TA:=λU H Q=>∃G I Y ds af,Rep K B G I H U Y/\g Y=some (ds,af)/\KA K B G I U af ds Q
end
abbrev BB:=Nat->Option (Option V)
def ED(X:Cx)(B:BB)(e:OU)(g:M D):Prop:=PE X e (tD X.K B g)
def EO(X:Cx)(B:BB)(e:OU)(g:M (List D)):Prop:=PE X e (tO X.K B g)
def TD(X:Cx)(B:BB)(e:OU)(g:M Bool):Prop:=PT X e (tTD X.K B g)
def TW(X:Cx)(B:BB)(e:OU)(g:M Bool):Prop:=PW X e (tTD X.K B g)
def AD(X:Cx)(B:BB)(es:List OU)(g:M (List D)):Prop:=PA X es (tAD X.K B g)
section
theorem PE.imp{t t':TE}(h:PE X e t)(f:∀U H Q,t' U H Q->t U H Q):PE X e t':=λaa s U H Q I q=>h aa s U H Q I (f U H Q q)
theorem PT.imp{t t':TT}(h:PT X e t)(f:∀U H Q,t' U H Q->t U H Q):PT X e t':=λaa s U H Q I q=>h aa s U H Q I (f U H Q q)
theorem PW.imp{t t':TT}(h:PW X e t)(f:∀U H Q,t' U H Q->t U H Q):PW X e t':=λwh aa s U H Q I q=>h wh aa s U H Q I (f U H Q q)
theorem PA.imp{es:List OU}{t t':TA}(h:PA X es t)(f:∀U H Q,t' U H Q->t U H Q):PA X es t':=λpos aa s U H Q I q=>h pos aa s U H Q I (f U H Q q)
end
section
variable{K:PySem.W.Frag}{B:BB}{I1 I2 H H1:Hp}{ac:Gm}{Q:VK}
theorem KD.now(k:KD K B G I U Y d Q)(r:Rep K B G I H U Y){v:V}(h:Is K I d v):Q v H:=k v H I r (Grow.refl _ _) h
theorem KD.after(k:KD K B G I U af d Q)(g:Grow G I I1):KD K B G I1 U af d Q:=λv H' I' r g' h=>k v H' I' r (g.trans g') h
theorem KO.after(k:KO K B G I U af ds Q)(g:Grow G I I1):KO K B G I1 U af ds Q:=λp xs H' I' r g'=>k p xs H' I' r (g.trans g')
theorem KT.after{b:Bool}{Q:Bool->Hp->Prop}(k:KT K B G I U af b Q)(g:Grow G I I1):KT K B G I1 U af b Q:=λH' I' r g'=>k H' I' r (g.trans g')
theorem KD.tup(k:KD K B G I U Y (.tup ds) Q)(r:Rep K B G I H U Y){p:l_}(hp:H p=none)(h:IsA K I ds xs):Q (.ref p) (upd H p (.tup xs)):=
 k _ _ _ (r.alloc hp _) (r.growAlloc hp _) (Is.tup rn (h.mono (rN (r.iFree hp) _)))
theorem KO.new(k:KO K B G I U Y ds Q)(r:Rep K B G I H U Y){p:l_}(hp:H p=none)(h:IsA K I ds xs):Q (.ref p) (upd H p (.lst xs)):=
 k p xs _ I (r.fresh hp _) (Grow.refl _ _) rn (r.iFree hp) (r.gFree hp) (r.apart hp) h
end
section
variable{B:BB}{a b c:OU}{es:List OU}{ga gb gc:M D}
noncomputable def frz(g:M (List D)):M D:=bnd g λds=>ret (.lst ds)
theorem qW{g:M (List D)}(h:EO X B e g):ED X B e (frz g):=PE.imp h λU H Q q=>by
 obtain⟨G,I,Y,d,af,r,e1,k⟩:=q;obtain⟨ds,ac,e2,e3⟩:=qT e1;cases e3;refine⟨G,I,Y,ds,_,r,e2,λp xs H' I' r' g h1 h2 h3 h4 h5=>?_⟩;exact k _ _ _ (r'.freeze h1 h2 h4) (g.trans (growFreeze h2 h3)) (Is.lst (RdK.of rn) (h5.mono (rN h2 _)))
noncomputable def nm(i:Nat):M D:=λY=>match Y[i]? with
 | some (some (.val d))=>some (d,Y)
 | some (some (.own ds))=>some (.lst ds,Y.set i (some (.val (.lst ds))))
 | some (some (.fro ds))=>some (.lst ds,Y)
 | _=>none
theorem Gn(h:PE X (.Name x pos) (tVar i)):ED X B (.Name x pos) (nm i):=PE.imp h λU H Q q=>by
 obtain⟨G,I,Y,d,af,r,e1,k⟩:=q;unfold nm at e1;cases e:Y[i]? with
 | none=>rw[e] at e1;cases e1
 | some o =>
  cases o with
  | none=>rw[e] at e1;cases e1
  | some q =>
   obtain⟨v,h1,h2⟩:=r.slot i q e;cases q with
   | val d'=>rw[e] at e1;cases e1;exact⟨v,h1,k.now r h2⟩
   | bor ds=>rw[e] at e1;cases e1
   | dic ds=>rw[e] at e1;cases e1
   | tfr ds=>rw[e] at e1;cases e1
   | fro ds=>rw[e] at e1;cases e1;obtain⟨p,xs,rfl,f1,f2,f3⟩:=h2;exact⟨_,h1,k.now r (Is.lst (RdK.of f1) f3)⟩
   | own ds =>
    rw[e] at e1;cases e1;obtain⟨p,xs,rfl,g1,g2,g3,g4⟩:=h2;refine⟨_,h1,k _ _ (upd I p (.lst xs)) ?_ (growFreeze g2 g3) (Is.lst (RdK.of rn) (g4.mono (rN g2 _)))⟩
    have ap:Apart U (Y.set i none) p:=λj q' z m s=>by
     rcases rG z with⟨_,z',_⟩ | ⟨n,z'⟩
     ·cases z'
     ·exact n (r.dist j i q' (.own ds) _ z' e m rfl s h1)
    have r1:=(r.forget i).freeze g1 g2 ap;have r2:=r1.learn (i:=i) (q:=.val (.lst ds)) h1 (Is.lst (RdK.of rn) (g4.mono (rN g2 _))) (λm=>nomatch m) (λ_ z=>nomatch z);rw[UT] at r2;exact r2
theorem ed_c{v:V}(h:PE X e (tC v))(hd:∀I,Is X.K I d v):ED X B e (ret d):=PE.imp h λU H Q q=>by
 obtain⟨G,I,Y,d',af,r,e1,k⟩:=q;cases e1;exact k.now r (hd I)
theorem pU{i j}:ED X B (.Constant (.int i) j pos) (ret (.int i)):=ed_c Lp λ_=>Is.int i
theorem sB{b j}:ED X B (.Constant (.bool b) j pos) (ret (.bl b)):=ed_c ER λ_=>Is.bl b
theorem sF{j}:ED X B (.Constant .none j pos) (ret .non):=ed_c Fj λ_=>Is.non
theorem rP{x j}:ED X B (.Constant (.str x) j pos) (ret (.str x)):=ed_c E5 λ_=>Is.str x
noncomputable def nilA:M (List D):=ret []
noncomputable def consA(g:M D)(t:M (List D)):M (List D):=bnd g λd=>bnd t λds=>ret (d::ds)
theorem gV:AD X B [] nilA:=PA.imp vh λU H Q q=>by
 obtain⟨G,I,Y,d,af,r,e1,k⟩:=q;cases e1;exact k _ _ _ r (Grow.refl _ _) IsA.nil
theorem Jc{g:M D}{t:M (List D)}(ha:ED X B e g)(hr:AD X B es t)(hs:g_ (e::es) X.env=(false,O1 e X.env)::g_ es X.env:=by rfl):AD X B (e::es) (consA g t):=
 PA.imp (ue ha hr hs) λU H Q q=>by
  obtain⟨G,I,Y,d,af,r,e1,k⟩:=q;obtain⟨d1,ac,e2,e3⟩:=qT e1;obtain⟨d2,aj,e4,e5⟩:=qT e3;cases e5;exact⟨G,I,Y,d1,ac,r,e2,λv H1 I1 r1 g1 h1=>⟨G,I1,ac,d2,_,r1,e4,λvs H2 I2 r2 g2 h2=>k _ _ _ r2 (g1.trans g2) (IsA.cons (h1.mono g2.up) h2)⟩⟩
noncomputable def lim:Nat:=1000000
theorem tF(h:n<=lim):n<=x_:=E_ h (by rw[Pf];decide)
noncomputable def tupA(t:M (List D)):M D:=bnd t λds=>lft (if ds.length<=lim then some (.tup ds) else none)
noncomputable def lstA(t:M (List D)):M (List D):=bnd t λds=>lft (if ds.length<=lim then some ds else none)
theorem rJ{α:Type}{c:Prop}[Decidable c]{a b:α}(h:(if c then some a else none)=some b):c/\b=a:=by
 by_cases hc:c
 ·rw[if_pos hc] at h;exact⟨hc,(OL h).symm⟩
 ·rw[if_neg hc] at h;cases h
theorem rA{x1}{t:M (List D)}(h:AD X B es t):ED X B (.Tuple es x1 pos) (tupA t):=PE.imp (Fi h) λU H Q q=>by
 obtain⟨G,I,Y,d,af,r,e1,k⟩:=q;obtain⟨d1,ac,e2,e3⟩:=qT e1;obtain⟨e4,rfl⟩:=rp e3;obtain⟨hl,rfl⟩:=rJ e4;refine⟨G,I,Y,d1,_,r,e2,λvs H1 I1 r1 g1 h1=>⟨?_,λp hp=>(k.after g1).tup r1 hp h1⟩⟩;rw[←h1.length];exact tF hl
theorem rq{t:M (List D)}(h:AD X B es t):EO X B (.List es pos) (lstA t):=PE.imp (L3 h) λU H Q q=>by
 obtain⟨G,I,Y,d,af,r,e1,k⟩:=q;obtain⟨d1,ac,e2,e3⟩:=qT e1;obtain⟨e4,rfl⟩:=rp e3;obtain⟨hl,rfl⟩:=rJ e4;refine⟨G,I,Y,_,_,r,e2,λvs H1 I1 r1 g1 h1=>⟨?_,λp hp=>(k.after g1).new r1 hp h1⟩⟩;rw[←h1.length];exact tF hl
def OpD(K:PySem.W.Frag)(r:R2)(F:D->D->Option D):Prop:=∀a b d,F a b=some d->∀(B:BB) (G I H:Hp) (U:L2.St) (Y:Gm) (x y:V) (Q:VK),Rep K B G I H U Y->Is K I a x->Is K I b y->KD K B G I U Y d Q->r x y H Q
def OpO(K:PySem.W.Frag)(r:R2)(F:D->D->Option (List D)):Prop:=∀a b d,F a b=some d->∀(B:BB) (G I H:Hp) (U:L2.St) (Y:Gm) (x y:V) (Q:VK),Rep K B G I H U Y->Is K I a x->Is K I b y->KO K B G I U Y d Q->r x y H Q
def CallD(K:PySem.W.Frag)(r:List V->Hp->VK->Prop)(F:List D->Option D):Prop:=∀ds d,F ds=some d->∀(B:BB) (G I H:Hp) (U:L2.St) (Y:Gm) (xs:List V) (Q:VK),Rep K B G I H U Y->IsA K I ds xs->KD K B G I U Y d Q->r xs H Q
def CallO(K:PySem.W.Frag)(r:List V->Hp->VK->Prop)(F:List D->Option (List D)):Prop:=∀ds d,F ds=some d->∀(B:BB) (G I H:Hp) (U:L2.St) (Y:Gm) (xs:List V) (Q:VK),Rep K B G I H U Y->IsA K I ds xs->KO K B G I U Y d Q->r xs H Q
noncomputable def op2{α:Type}(F:D->D->Option α)(ga gb:M D):M α:=bnd ga λx=>bnd gb λy=>lft (F x y)
noncomputable def fn1{α:Type}(F:List D->Option α)(t:M (List D)):M α:=bnd t λds=>lft (F ds)
theorem t_op{r:R2}{F:D->D->Option D}{K:PySem.W.Frag}(h:OpD K r F):∀U H Q,tD K B (op2 F ga gb) U H Q->tOp r (tD K B ga) (tD K B gb) U H Q:=λU H Q q=>by
 obtain⟨G,I,Y,d,af,r,e1,k⟩:=q;obtain⟨d1,ac,e2,e3⟩:=qT e1;obtain⟨d2,aj,e4,e5⟩:=qT e3;obtain⟨e6,rfl⟩:=rp e5;exact⟨G,I,Y,d1,ac,r,e2,λv H1 I1 r1 g1 h1=>⟨G,I1,ac,d2,_,r1,e4,λw H2 I2 r2 g2 h2=>h _ _ _ e6 B G I2 H2 U _ v w Q r2 (h1.mono g2.up) h2 (k.after (g1.trans g2))⟩⟩
theorem As{r:R2}{F:D->D->Option (List D)}{K:PySem.W.Frag}(h:OpO K r F):∀U H Q,tO K B (op2 F ga gb) U H Q->tOp r (tD K B ga) (tD K B gb) U H Q:=λU H Q q=>by
 obtain⟨G,I,Y,d,af,r,e1,k⟩:=q;obtain⟨d1,ac,e2,e3⟩:=qT e1;obtain⟨d2,aj,e4,e5⟩:=qT e3;obtain⟨e6,rfl⟩:=rp e5;exact⟨G,I,Y,d1,ac,r,e2,λv H1 I1 r1 g1 h1=>⟨G,I1,ac,d2,_,r1,e4,λw H2 I2 r2 g2 h2=>h _ _ _ e6 B G I2 H2 U _ v w Q r2 (h1.mono g2.up) h2 (k.after (g1.trans g2))⟩⟩
theorem uI{op:Operator}{r:R2}{F:D->D->Option D}(ho:OpR X (Qe op) r)(h:OpD X.K r F)(ha:ED X B a ga)(hb:ED X B b gb):ED X B (.BinOp a op b pos) (op2 F ga gb):=PE.imp (Ap ho ha hb) (t_op h)
theorem GM{op:Operator}{r:R2}{F:D->D->Option (List D)}(ho:OpR X (Qe op) r)(h:OpO X.K r F)(ha:ED X B a ga)(hb:ED X B b gb):EO X B (.BinOp a op b pos) (op2 F ga gb):=PE.imp (Ap ho ha hb) (As h)
theorem vN{r:R2}{F:D->D->Option D}(ho:OpR X (O7 op) r)(h:OpD X.K r F)(ha:ED X B a ga)(hb:ED X B b gb)(hm:Py op b=false):ED X B (.Compare a [op] [b] pos) (op2 F ga gb):=PE.imp (Bg ho ha hb hm) (t_op h)
theorem E1{r:R2}{F:D->D->Option D}(ho:IxR X r)(h:OpD X.K r F)(ha:ED X B a ga)(hb:ED X B b gb)(hs:PlainIx b:=by exact λ_ _=>rfl):ED X B (.Subscript a b pos) (op2 F ga gb):=PE.imp (Dj ho ha hb hs) (t_op h)
noncomputable def asB(d:D):Option Bool:=match d with
 | .bl b=>some b
 | _=>none
theorem yo{b:Bool}(h:asB d=some b):d=.bl b:=by
 cases d<;>simp[asB] at h
 rw[h]
noncomputable def tst(g:M D):M Bool:=bnd g λd=>lft (asB d)
theorem v3{K:PySem.W.Frag}{g:M D}{t:TE}(ht:∀U H Q,tD K B g U H Q->t U H Q):∀U H Q,tTD K B (tst g) U H Q->tTest t U H Q:=λU H Q q=>by
 obtain⟨G,I,Y,d,af,r,e1,k⟩:=q;obtain⟨d1,ac,e2,e3⟩:=qT e1;obtain⟨e4,rfl⟩:=rp e3;have:=yo e4;subst this;exact ht _ _ _ ⟨G,I,Y,_,_,r,e2,λv H1 I1 r1 g1 h1=>⟨d,r9 h1,k _ _ r1 g1⟩⟩
theorem sO{r:R2}{F:D->D->Option D}(ho:OpR X (O7 op) r)(h:OpD X.K r F)(ha:ED X B a ga)(hb:ED X B b gb)(hm:Py op b=false):TD X B (.Compare a [op] [b] pos) (tst (op2 F ga gb)):=PT.imp (Cm ho ha hb hm) (v3 (t_op h))
theorem um(ha:ED X B a ga)(he:∀bC,UW a X.env bC=(do let v ←bC;Vp a.pos;RV [v] (truthy v)):=by intros;rfl):TD X B a (tst ga):=PT.imp (JZ ha he) (v3 λ_ _ _ z=>z)
noncomputable def chn(F F':D->D->Option D)(ga gb gc:M D):M D:=bnd ga λx=>bnd gb λy=>bnd (lft (F x y)) λz=>bnd (lft (asB z)) λk=>if k then bnd gc λw=>lft (F' y w) else ret (.bl false)
theorem BP{r r':R2}{F:D->D->Option D}{K:PySem.W.Frag}(h:OpD K r F)(h':OpD K r' F'):∀U H Q,tD K B (chn F F' ga gb gc) U H Q->tChain r r' (tD K B ga) (tD K B gb) (tD K B gc) U H Q:=λU H Q q=>by
 obtain⟨G,I,Y,d,af,r,e1,k⟩:=q;obtain⟨d1,ac,e2,e3⟩:=qT e1;obtain⟨d2,aj,e4,e5⟩:=qT e3;obtain⟨d3,aR,e6,e7⟩:=qT e5;obtain⟨e8,rfl⟩:=rp e6;obtain⟨k1,aW,e9,f1⟩:=qT e7;obtain⟨f2,rfl⟩:=rp e9;have:=yo f2;subst this;refine⟨G,I,Y,d1,ac,r,e2,λv H1 I1 r1 g1 h1=>⟨G,I1,ac,d2,aW,r1,e4,λw H2 I2 r2 g2 h2=>h _ _ _ e8 B G I2 H2 U aW v w _ r2 (h1.mono g2.up) h2 λu H3 I3 r3 g3 h3=>⟨k1,r9 h3,?_⟩⟩⟩;cases k1 with
 | false=>cases f1;exact iteF (k _ _ _ r3 (g1.trans (g2.trans g3)) (Is.bl false))
 | true =>
  obtain⟨d4,dY,f3,f4⟩:=qT f1;obtain⟨f5,rfl⟩:=rp f4;exact iteT ⟨G,I3,aW,d4,_,r3,f3,λz H4 I4 r4 g4 h4=>h' _ _ _ f5 B G I4 H4 U _ w z Q r4 (h2.mono (g3.trans g4).up) h4 (k.after (g1.trans (g2.trans (g3.trans g4))))⟩
theorem Fz{r r':R2}{F:D->D->Option D}(ho:OpR X (O7 op) r)(h:OpD X.K r F)(bN:OpR X (O7 bO) r')(h':OpD X.K r' F')(ha:ED X B a ga)(hb:ED X B b gb)(hc:ED X B c gc)(hm:SN [op,bO] [b,c]=false:=by with_unfolding_all rfl):ED X B (.Compare a [op,bO] [b,c] pos) (chn F F' ga gb gc):=PE.imp (LF ho bN ha hb hc hm) (BP h h')
theorem Il{r r':R2}{F:D->D->Option D}(ho:OpR X (O7 op) r)(h:OpD X.K r F)(bN:OpR X (O7 bO) r')(h':OpD X.K r' F')(ha:ED X B a ga)(hb:ED X B b gb)(hc:ED X B c gc)(hm:SN [op,bO] [b,c]=false:=by with_unfolding_all rfl):TD X B (.Compare a [op,bO] [b,c] pos) (tst (chn F F' ga gb gc)):=PT.imp (Fc ho bN ha hb hc hm) (v3 (BP h h'))
noncomputable def andT(a b:M Bool):M Bool:=bnd a λk=>if k then b else ret false
noncomputable def orT(a b:M Bool):M Bool:=bnd a λk=>if k then ret true else b
noncomputable def notT(a:M Bool):M Bool:=bnd a λk=>ret (!k)
noncomputable def andV(a b:M D):M D:=bnd a λd=>bnd (lft (asB d)) λk=>if k then b else ret (.bl false)
noncomputable def ifV(c:M Bool)(a b:M D):M D:=bnd c λk=>if k then a else b
variable{ta tb:M Bool}
theorem ug(ha:TD X B a ta):TW X B (.BoolOp .And [a] pos) ta:=J0 ha
theorem y4(ha:TD X B a ta):TW X B (.BoolOp .Or [a] pos) ta:=Lw ha
theorem uA(ha:TD X B a ta)(hb:TW X B (.BoolOp .And (b::ak) pos) tb):TW X B (.BoolOp .And (a::b::ak) pos) (andT ta tb):=PW.imp (KZ ha hb) λU H Q q=>by
 obtain⟨G,I,Y,d,af,r,e1,k⟩:=q;obtain⟨d1,ac,e2,e3⟩:=qT e1;refine⟨G,I,Y,d1,ac,r,e2,λH1 I1 r1 g1=>?_⟩;cases d1 with
 | true=>exact iteT ⟨G,I1,ac,d,af,r1,e3,k.after g1⟩
 | false=>cases e3;exact iteF (k _ _ r1 g1)
theorem vQ(ha:TD X B a ta)(hb:TW X B (.BoolOp .Or (b::ak) pos) tb):TW X B (.BoolOp .Or (a::b::ak) pos) (orT ta tb):=PW.imp (Ft ha hb) λU H Q q=>by
 obtain⟨G,I,Y,d,af,r,e1,k⟩:=q;obtain⟨d1,ac,e2,e3⟩:=qT e1;refine⟨G,I,Y,d1,ac,r,e2,λH1 I1 r1 g1=>?_⟩;cases d1 with
 | false=>exact iteF ⟨G,I1,ac,d,af,r1,e3,k.after g1⟩
 | true=>cases e3;exact iteT (k _ _ r1 g1)
theorem TW.td(h:TW X B e ta):TD X B e ta:=h _
theorem wq(ha:TD X B a ta):TD X B (.UnaryOp .Not a pos) (notT ta):=PT.imp (L' ha) λU H Q q=>by
 obtain⟨G,I,Y,d,af,r,e1,k⟩:=q;obtain⟨d1,ac,e2,e3⟩:=qT e1;cases e3;exact⟨G,I,Y,d1,_,r,e2,λH1 I1 r1 g1=>k _ _ r1 g1⟩
theorem Am{op}(h:ED X B a ga):ED X B (.BoolOp op [a] pos) ga:=Lu h
theorem AV(ha:ED X B a ga)(hb:ED X B (.BoolOp .And (b::ak) pos) gb):ED X B (.BoolOp .And (a::b::ak) pos) (andV ga gb):=PE.imp (IC ha hb) λU H Q q=>by
 obtain⟨G,I,Y,d,af,r,e1,k⟩:=q;obtain⟨d1,ac,e2,e3⟩:=qT e1;obtain⟨k1,aj,e4,e5⟩:=qT e3;obtain⟨e6,rfl⟩:=rp e4;have:=yo e6;subst this;refine⟨G,I,Y,_,_,r,e2,λv H1 I1 r1 g1 h1=>⟨k1,r9 h1,?_⟩⟩;cases k1 with
 | true=>exact iteT ⟨G,I1,_,d,af,r1,e5,k.after g1⟩
 | false=>cases e5;exact iteF (k _ _ _ r1 g1 (Is.bl false))
theorem Ma(hc:TD X B c ta)(ha:ED X B a ga)(hb:ED X B b gb):ED X B (.IfExp c a b pos) (ifV ta ga gb):=PE.imp (Jp hc ha hb) λU H Q q=>by
 obtain⟨G,I,Y,d,af,r,e1,k⟩:=q;obtain⟨d1,ac,e2,e3⟩:=qT e1;refine⟨G,I,Y,d1,ac,r,e2,λH1 I1 r1 g1=>?_⟩;cases d1 with
 | true=>exact iteT ⟨G,I1,ac,d,af,r1,e3,k.after g1⟩
 | false=>exact iteF ⟨G,I1,ac,d,af,r1,e3,k.after g1⟩
variable{p:Pos}{id T:String}{r:List V->Hp->VK->Prop}{t:M (List D)}
theorem t_fn{F:List D->Option D}{K:PySem.W.Frag}(h:CallD K r F):∀U H Q,tD K B (fn1 F t) U H Q->tCB r (tAD K B t) U H Q:=λU H Q q=>by
 obtain⟨G,I,Y,d,af,r,e1,k⟩:=q;obtain⟨d1,ac,e2,e3⟩:=qT e1;obtain⟨e4,rfl⟩:=rp e3;exact⟨G,I,Y,d1,_,r,e2,λvs H1 I1 r1 g1 h1=>h _ _ e4 B G I1 H1 U _ vs Q r1 h1 (k.after g1)⟩
theorem yH{K:PySem.W.Frag}(h:CallO K r F):∀U H Q,tO K B (fn1 F t) U H Q->tCB r (tAD K B t) U H Q:=λU H Q q=>by
 obtain⟨G,I,Y,d,af,r,e1,k⟩:=q;obtain⟨d1,ac,e2,e3⟩:=qT e1;obtain⟨e4,rfl⟩:=rp e3;exact⟨G,I,Y,d1,_,r,e2,λvs H1 I1 r1 g1 h1=>h _ _ e4 B G I1 H1 U _ vs Q r1 h1 (k.after g1)⟩
theorem uu{F:List D->Option D}(hc:CallR X (.builtin id) r)(h:CallD X.K r F)(hg:Gl X x)(hm:X.mg x=none)(hv:P7 x=some (.builtin id))(ha:AD X B (e::es) t)(hn:x ≠ "__name__":=by decide)(bA:(x == ("__debug__":Str))=false:=by decide)(he:g_ (e::es) X.env=(false,O1 e X.env)::g_ es X.env:=by rfl)(aK:(Pa pos (g_ es X.env)).any (·.1)=false:=by rfl):ED X B (.Call (.Name x p) (e::es) [] pos) (fn1 F t):=PE.imp (wE hc hg hm hv ha hn bA he aK) (t_fn h)
theorem JF(hc:CallR X (.builtin id) r)(h:CallO X.K r F)(hg:Gl X x)(hm:X.mg x=none)(hv:P7 x=some (.builtin id))(ha:AD X B (e::es) t)(hn:x ≠ "__name__":=by decide)(bA:(x == ("__debug__":Str))=false:=by decide)(he:g_ (e::es) X.env=(false,O1 e X.env)::g_ es X.env:=by rfl)(aK:(Pa pos (g_ es X.env)).any (·.1)=false:=by rfl):EO X B (.Call (.Name x p) (e::es) [] pos) (fn1 F t):=PE.imp (wE hc hg hm hv ha hn bA he aK) (yH h)
theorem Fo{F:List D->Option D}(hc:CallR X (.type T) r)(h:CallD X.K r F)(hg:Gl X x)(hm:X.mg x=none)(hv:P7 x=some (.type T))(ha:AD X B (e::es) t)(hn:x ≠ "__name__":=by decide)(bA:(x == ("__debug__":Str))=false:=by decide)(he:g_ (e::es) X.env=(false,O1 e X.env)::g_ es X.env:=by rfl)(aK:(Pa pos (g_ es X.env)).any (·.1)=false:=by rfl):ED X B (.Call (.Name x p) (e::es) [] pos) (fn1 F t):=PE.imp (BZ hc hg hm hv ha hn bA he aK) (t_fn h)
theorem L6(hc:CallR X (.type T) r)(h:CallO X.K r F)(hg:Gl X x)(hm:X.mg x=none)(hv:P7 x=some (.type T))(ha:AD X B (e::es) t)(hn:x ≠ "__name__":=by decide)(bA:(x == ("__debug__":Str))=false:=by decide)(he:g_ (e::es) X.env=(false,O1 e X.env)::g_ es X.env:=by rfl)(aK:(Pa pos (g_ es X.env)).any (·.1)=false:=by rfl):EO X B (.Call (.Name x p) (e::es) [] pos) (fn1 F t):=PE.imp (BZ hc hg hm hv ha hn bA he aK) (yH h)
end
inductive Fl where
 | nx | rt (r:R) | bk | ct
def ResOk(K:PySem.W.Frag)(G I H:Hp)(U:L2.St)(Y:Gm):R->V->Prop
 | .val d,v=>Is K I d v
 | .own ds,v=>∃p xs,v=.ref p/\H p=some (.lst xs)/\I p=none/\G p=none/\Apart U Y p/\IsA K I ds xs
 | .bor _,_=>False
 | .fro ds,v=>∃p xs,v=.ref p/\I p=some (.lst xs)/\G p=none/\IsA K I ds xs
 | .tfr ds,v=>∃a xs,v=.ref a/\I a=some (.tup xs)/\G a=none/\IsA K I ds xs/\(∀(i:Nat) (p:l_),xs[i]?=some (V.ref p)->(∃ys,I p=some (.lst ys))->G p=none)/\(∀(i j:Nat) (p:l_),xs[i]?=some (V.ref p)->xs[j]?=some (V.ref p)->((∃ys,I p=some (.lst ys))->i=j))/\∀(i:Nat) (es:List D),ds[i]?=some (.lst es)->∃p ys,xs[i]?=some (V.ref p)/\I p=some (.lst ys)/\IsA K I es ys
 | .dic ag,v=>∃p xs,v=.ref p/\H p=some (.dT xs)/\I p=none/\G p=none/\Apart U Y p/\IsK K I ag xs
def EndAt(K:PySem.W.Frag)(G I H:Hp)(U:L2.St)(Y:Gm)(E:Ends):Fl->Prop
 | .nx=>E.nx U H
 | .bk=>E.bk U H
 | .ct=>E.ct U H
 | .rt r=>∀v,ResOk K G I H U Y r v->E.rt v H
section
variable (K:PySem.W.Frag)(B:BB)
def KS(G I:Hp)(af:Gm)(f:Fl)(E:Ends):Prop:=∀am H' I',Rep K B G I' H' am af->Grow G I I'->EndAt K G I' H' am af E f
noncomputable def tS(g:M Fl):TS:=λE U H=>∃G I Y f af,Rep K B G I H U Y/\g Y=some (f,af)/\KS K B G I af f E
def KG(m:Nat)(U:L2.St)(G I:Hp)(af:Gm)(Q:L2.St->Hp->Prop):Prop:=∀am H' I',Rep K B G I' H' am af->Grow G I I'->am.drop m=U.drop m->Q am H'
noncomputable def tGD(m:Nat)(f:D->M Unit):TG:=λv U H Q=>∃G I Y d af,Rep K B G I H U Y/\Is K I d v/\f d Y=some ((),af)/\KG K B m U G I af Q
noncomputable def tGs(m:Nat)(f:List D->M Unit):TGs:=λvs U H Q=>∃G I Y ds af,Rep K B G I H U Y/\IsA K I ds vs/\f ds Y=some ((),af)/\KG K B m U G I af Q
end
def SD(X:Cx)(B:BB)(st:Pb)(g:M Fl):Prop:=PS X st (tS X.K B g)
def SDs(X:Cx)(B:BB)(st:List Pb)(g:M Fl):Prop:=PSs X st (tS X.K B g)
def GD(X:Cx)(B:BB)(m:Nat)(tg:OU)(f:D->M Unit):Prop:=PG X tg (tGD X.K B m f)
def GDs(X:Cx)(B:BB)(m:Nat)(iO:List OU)(f:List D->M Unit):Prop:=PGs X iO (tGs X.K B m f)
section
theorem PS.imp{st:Pb}{t t':TS}(h:PS X st t)(f:∀E U H,t' E U H->t E U H):PS X st t':=λaa s U H E I q=>h aa s U H E I (f E U H q)
theorem PSs.imp{st:List Pb}{t t':TS}(h:PSs X st t)(f:∀E U H,t' E U H->t E U H):PSs X st t':=λaa s U H E I q=>h aa s U H E I (f E U H q)
theorem PG.imp{t t':TG}(h:PG X tg t)(f:∀v U H Q,t' v U H Q->t v U H Q):PG X tg t':=λaa s U H v u Q I r q=>h aa s U H v u Q I r (f v U H Q q)
theorem PGs.imp{t t':TGs}(h:PGs X iO t)(f:∀v U H Q,t' v U H Q->t v U H Q):PGs X iO t':=λaa s U H v u Q I r q=>h aa s U H v u Q I r (f v U H Q q)
theorem PI.imp{t t':TI}(h:PI X tg iter t)(f:∀U H Q,t' U H Q->t U H Q):PI X tg iter t':=λaa s U H R I q=>h aa s U H R I (f U H R q)
end
section
variable{K:PySem.W.Frag}{B:BB}{I1 H:Hp}{f:Fl}{E:Ends}
theorem KS.after(k:KS K B G I af f E)(g:Grow G I I1):KS K B G I1 af f E:=λam H' I' r g'=>k am H' I' r (g.trans g')
theorem KG.after{dA:L2.St}{Q:L2.St->Hp->Prop}(k:KG K B m U G I af Q)(g:Grow G I I1)(hs:dA.drop m=U.drop m):KG K B m dA G I1 af Q:=λam H' I' r g' z=>k am H' I' r (g.trans g') (z.trans hs)
end
section
variable{B:BB}{a b c:OU}{es:List OU}{ga gb gc:M D}{st:Pb}{ak:List Pb}{g h:M Fl}
noncomputable def seqS(g h:M Fl):M Fl:=bnd g λf=>match f with
 | .nx=>h
 | .rt r=>ret (.rt r)
 | .bk=>ret .bk
 | .ct=>ret .ct
theorem Jl:SDs X B [] (ret .nx):=PSs.imp LN λE U H q=>by
 obtain⟨G,I,Y,f,af,r,e1,k⟩:=q;cases e1;exact k U H I r (Grow.refl _ _)
theorem Jg(h:SD X B st g):SDs X B [st] g:=JE h
theorem K4(h1:SD X B st g)(h2:SDs X B ak h):SDs X B (st::ak) (seqS g h):=PSs.imp (LI h1 h2) λE U H q=>by
 obtain⟨G,I,Y,f,af,r,e1,k⟩:=q;obtain⟨f1,ac,e2,e3⟩:=qT e1;refine⟨G,I,Y,f1,ac,r,e2,λdA H1 I1 r1 g1=>?_⟩;cases f1 with
 | nx=>exact⟨G,I1,ac,f,af,r1,e3,k.after g1⟩
 | bk=>cases e3;exact k dA H1 I1 r1 g1
 | ct=>cases e3;exact k dA H1 I1 r1 g1
 | rt v=>cases e3;exact k dA H1 I1 r1 g1
theorem Af:SD X B st (λ_=>none):=PS.imp Ih λE U H q=>by
 obtain⟨G,I,Y,f,af,r,e1,k⟩:=q;cases e1
noncomputable def dropS(g:M D):M Fl:=bnd g λ_=>ret .nx
theorem rV(he:ED X B e ga)(hs:Pu e none pos.line X.env=pure false:=by rfl):SD X B (.Expr e pos) (dropS ga):=PS.imp (zR he hs) λE U H q=>by
 obtain⟨G,I,Y,f,af,r,e1,k⟩:=q;obtain⟨d1,ac,e2,e3⟩:=qT e1;cases e3;exact⟨G,I,Y,d1,_,r,e2,λv H1 I1 r1 g1 h1=>k U H1 I1 r1 g1⟩
noncomputable def retS(g:M D):M Fl:=bnd g λd=>ret (.rt (.val d))
theorem rc(he:ED X B e ga):SD X B (.Return (some e) pos) (retS ga):=PS.imp (zh he) λE U H q=>by
 obtain⟨G,I,Y,f,af,r,e1,k⟩:=q;obtain⟨d1,ac,e2,e3⟩:=qT e1;cases e3;exact⟨G,I,Y,d1,_,r,e2,λv H1 I1 r1 g1 h1=>k U H1 I1 r1 g1 v h1⟩
noncomputable def retO(g:M (List D)):M Fl:=bnd g λd=>ret (.rt (.own d))
theorem rZ{g:M (List D)}(he:EO X B e g):SD X B (.Return (some e) pos) (retO g):=PS.imp (zh he) λE U H q=>by
 obtain⟨G,I,Y,f,af,r,e1,k⟩:=q;obtain⟨d1,ac,e2,e3⟩:=qT e1;cases e3;exact⟨G,I,Y,d1,_,r,e2,λp xs H1 I1 r1 g1 h1 h2 h3 h4 h5=>k U H1 I1 r1 g1 _ ⟨p,xs,rfl,h1,h2,h3,h4,h5⟩⟩
noncomputable def ifS(c:M Bool)(a b:M Fl):M Fl:=bnd c λk=>if k then a else b
theorem IS{tc:M Bool}{sa sb:List Pb}(hc:TD X B c tc)(ha:SDs X B sa g)(hb:SDs X B sb h):SD X B (.If c sa sb pos) (ifS tc g h):=PS.imp (GO hc ha hb) λE U H q=>by
 obtain⟨G,I,Y,f,af,r,e1,k⟩:=q;obtain⟨d1,ac,e2,e3⟩:=qT e1;refine⟨G,I,Y,d1,ac,r,e2,λH1 I1 r1 g1=>?_⟩;cases d1 with
 | true=>exact iteT ⟨G,I1,ac,f,af,r1,e3,k.after g1⟩
 | false=>exact iteF ⟨G,I1,ac,f,af,r1,e3,k.after g1⟩
noncomputable def putS(i:Nat)(q:R):M Unit:=λY=>if i < Y.length then some ((),Y.set i (some q)) else none
noncomputable def tgN(i:Nat)(d:D):M Unit:=putS i (.val d)
theorem tZ{q:R}{u:Unit}(h:putS i q Y=some (u,af)):i < Y.length/\af=Y.set i (some q):=by
 unfold putS at h;obtain⟨h1,h2⟩:=rJ h;cases h2;exact⟨h1,rfl⟩
theorem A9{α:Type}:∀{l:List α}{i m:Nat}{a:α},i < m->(l.set i a).drop m=l.drop m
 | [],_,_,_,_=>rfl
 | _::_,0,m+1,_,_=>rfl
 | _::r,i+1,m+1,a,h=>by
  rw[List.set_cons_succ,Sb,Sb];exact A9 (Nat.lt_of_succ_lt_succ h)
theorem gd_n(hN:X.N.Nodup)(hi:X.N[i]?=some x:=by rfl)(hx:locB X.env.scope x=true:=by rfl)(hf:fnB X x=true:=by rfl)(nR:i < m:=by decide):GD X B m (.Name x pos) (tgN i):=
 PG.imp (Mn hN hi (locI hx) (fnI hf)) λv U H Q q=>by
  obtain⟨G,I,Y,d,af,r,hd,e1,k⟩:=q;obtain⟨hl,rfl⟩:=tZ e1;exact k _ _ I (r.store (by rw[r.len];exact hl) hd (λm=>nomatch m) (λ_ z=>nomatch z)) (Grow.refl _ _) (A9 nR)
noncomputable def tgNil(ds:List D):M Unit:=match ds with
 | []=>ret ()
 | _=>λ_=>none
noncomputable def tgCons(f:D->M Unit)(t:List D->M Unit)(ds:List D):M Unit:=match ds with
 | d::r=>bnd (f d) λ_=>t r
 | []=>λ_=>none
theorem so:GDs X B m [] tgNil:=PGs.imp Kl λv U H Q q=>by
 obtain⟨G,I,Y,ds,af,r,hd,e1,k⟩:=q;cases ds with
 | nil=>cases e1;exact⟨hd.nil_inv,k _ _ I r (Grow.refl _ _) rfl⟩
 | cons d t=>cases e1
theorem rH{f:D->M Unit}{t:List D->M Unit}(h1:GD X B m e f)(h2:GDs X B m es t)(hs:(PV (e::es) X.env).map (·.2)=R8 e X.env::(PV es X.env).map (·.2):=by rfl):GDs X B m (e::es) (tgCons f t):=PGs.imp (IR h1 h2 hs) λv U H Q q=>by
 obtain⟨G,I,Y,ds,af,r,hd,e1,k⟩:=q;cases ds with
 | nil=>cases e1
 | cons d t =>
  obtain⟨x,xs,rfl,h1,h2⟩:=hd.cons_inv;obtain⟨u,ac,e2,e3⟩:=qT e1;exact⟨x,xs,rfl,G,I,Y,d,ac,r,h1,e2,λdA H1 I1 r1 g1 z=>⟨G,I1,ac,t,af,r1,h2.mono g1.up,e3,k.after g1 z⟩⟩
noncomputable def tgTup(n:Nat)(t:List D->M Unit)(d:D):M Unit:=match d with
 | .tup ds=>if ds.length=n then t ds else λ_=>none
 | _=>λ_=>none
theorem sn{t:List D->M Unit}(hc:X.calm=true)(h:GDs X B m es t)(hn:(PV es X.env).length=n:=by rfl)(gf:(PV es X.env).findIdx? (·.1)=none:=by rfl):GD X B m (.Tuple es k pos) (tgTup n t):=
 PG.imp (LC hc h hn gf) λv U H Q q=>by
  obtain⟨G,I,Y,d,af,r,hd,e1,k⟩:=q;cases d with
  | tup ds =>
   obtain⟨a,xs,rfl,h1,h2⟩:=rm hd;unfold tgTup at e1;by_cases hl:ds.length=n
   ·simp only[hl,if_true] at e1;exact⟨a,xs,rfl,Same.sqT r.iH h1,by rw[←h2.length];exact hl,G,I,Y,ds,af,r,h2,e1,k⟩
   ·simp only[hl,if_false] at e1;cases e1
  | _=>cases e1
noncomputable def asgS(g:M D)(f:D->M Unit):M Fl:=bnd g λd=>bnd (f d) λ_=>ret .nx
theorem AL{f:D->M Unit}(he:ED X B e ga)(hg:GD X B m tg f)(hs:T4 [tg] e pos.line X.env=pure false:=by rfl)(hw:T6 [tg] e X.env=pure none:=by rfl)(h1:(PV [tg] X.env).map (·.2)=[R8 tg X.env]:=by rfl):SD X B (.Assign [tg] e pos) (asgS ga f):=PS.imp (Az he hg hs hw h1) λE U H q=>by
 obtain⟨G,I,Y,f,af,r,e1,k⟩:=q;obtain⟨d1,ac,e2,e3⟩:=qT e1;obtain⟨d2,aj,e4,e5⟩:=qT e3;cases e5;exact⟨G,I,Y,d1,ac,r,e2,λv H1 I1 r1 g1 h1=>⟨G,I1,ac,d1,_,r1,h1,e4,λaZ H2 I2 r2 g2 _=>k aZ H2 I2 r2 (g1.trans g2)⟩⟩
noncomputable def setV(i:Nat)(g:M D):M Fl:=bnd g λd=>bnd (putS i (.val d)) λ_=>ret .nx
noncomputable def setO(i:Nat)(g:M (List D)):M Fl:=bnd g λd=>bnd (putS i (.own d)) λ_=>ret .nx
theorem IM{K:PySem.W.Frag}:∀E U H,tS K B (setV i ga) E U H->tAsg (tD K B ga) (gName i) E U H:=λE U H q=>by
 obtain⟨G,I,Y,f,af,r,e1,k⟩:=q;obtain⟨d1,ac,e2,e3⟩:=qT e1;obtain⟨d2,aj,e4,e5⟩:=qT e3;cases e5;obtain⟨hl,rfl⟩:=tZ e4;exact⟨G,I,Y,d1,ac,r,e2,λv H1 I1 r1 g1 h1=>k _ H1 I1 (r1.store (by rw[r1.len];exact hl) h1 (λm=>nomatch m) (λ_ z=>nomatch z)) g1⟩
theorem Mi{K:PySem.W.Frag}{g:M (List D)}:∀E U H,tS K B (setO i g) E U H->tAsg (tO K B g) (gName i) E U H:=λE U H q=>by
 obtain⟨G,I,Y,f,af,r,e1,k⟩:=q;obtain⟨d1,ac,e2,e3⟩:=qT e1;obtain⟨d2,aj,e4,e5⟩:=qT e3;cases e5;obtain⟨hl,rfl⟩:=tZ e4;exact⟨G,I,Y,d1,ac,r,e2,λp xs H1 I1 r1 g1 h1 h2 h3 h4 h5=>k _ H1 I1 (r1.store (by rw[r1.len];exact hl) ⟨p,xs,rfl,h1,h2,h3,h5⟩ (λ_ p' z=>by cases z;exact h4) (λ_ z=>nomatch z)) g1⟩
theorem Le(hN:X.N.Nodup)(he:ED X B e ga)(hi:X.N[i]?=some x:=by rfl)(hx:locB X.env.scope x=true:=by rfl)(hs:Pu e (some (.Name x aG)) pos.line X.env=pure false:=by rfl)(hf:fnB X x=true:=by rfl):SD X B (.Assign [.Name x aG] e pos) (setV i ga):=PS.imp (vo hN hi (locI hx) he hs (fnI hf)) IM
theorem su{g:M (List D)}(hN:X.N.Nodup)(he:EO X B e g)(hi:X.N[i]?=some x:=by rfl)(hx:locB X.env.scope x=true:=by rfl)(hs:Pu e (some (.Name x aG)) pos.line X.env=pure false:=by rfl)(hf:fnB X x=true:=by rfl):SD X B (.Assign [.Name x aG] e pos) (setO i g):=PS.imp (vo hN hi (locI hx) he hs (fnI hf)) Mi
noncomputable def isMut(Y:Gm)(i:Nat):Bool:=match Y[i]? with
 | some (some r)=>r.mut
 | _=>false
noncomputable def wr(i:Nat)(F:List D->Option (List D)):M Unit:=λY=>match Y[i]? with
 | some (some (.own ds))=>match F ds with
  | some es=>some ((),Y.set i (some (.own es)))
  | none=>none
 | some (some (.bor ds))=>match F ds with
  | some es=>some ((),Y.set i (some (.bor es)))
  | none=>none
 | _=>none
theorem tH{K:PySem.W.Frag}{H:Hp}(h:isMut Y i=true)(r:Rep K B G I H U Y):∃p xs,U[i]?=some (some (.ref p))/\H p=some (.lst xs):=by
 unfold isMut at h;cases e:Y[i]? with
 | none=>rw[e] at h;cases h
 | some o =>
  cases o with
  | none=>rw[e] at h;cases h
  | some q =>
   rw[e] at h;obtain⟨v,h1,h2⟩:=r.slot i q e;cases q with
   | val d=>cases h
   | fro d=>cases h
   | tfr d=>cases h
   | dic d=>cases h
   | own d=>obtain⟨p,xs,rfl,h3,_⟩:=h2;exact⟨p,xs,h1,h3⟩
   | bor d=>obtain⟨p,xs,rfl,h3,_⟩:=h2;exact⟨p,xs,h1,h3⟩
theorem wj{K:PySem.W.Frag}{H:Hp}{u:Unit}(h:wr i F Y=some (u,af))(r:Rep K B G I H U Y):
  ∃p xs ds es,U[i]?=some (some (.ref p))/\H p=some (.lst xs)/\IsA K I ds xs/\F ds=some es/\∀ys,IsA K I es ys->Rep K B G I (upd H p (.lst ys)) U af:=by
 unfold wr at h;cases e:Y[i]? with
 | none=>rw[e] at h;cases h
 | some o =>
  cases o with
  | none=>rw[e] at h;cases h
  | some q =>
   obtain⟨v,h1,h2⟩:=r.slot i q e;cases q with
   | val d=>rw[e] at h;cases h
   | fro d=>rw[e] at h;cases h
   | tfr d=>rw[e] at h;cases h
   | dic d=>rw[e] at h;cases h
   | own ds =>
    rw[e] at h;obtain⟨p,xs,rfl,g1,g2,g3,g4⟩:=h2;cases hf:F ds with
    | none=>simp only[hf] at h;cases h
    | some es =>
     simp only[hf] at h;cases h;exact⟨p,xs,ds,es,h1,g1,g4,hf,λys hy=>r.write e rfl h1 g1 (.inl rfl) hy⟩
   | bor ds =>
    rw[e] at h;obtain⟨p,xs,rfl,g1,g2,g3,g4⟩:=h2;cases hf:F ds with
    | none=>simp only[hf] at h;cases h
    | some es =>
     simp only[hf] at h;cases h;exact⟨p,xs,ds,es,h1,g1,g4,hf,λys hy=>r.write e rfl h1 g1 (.inr ⟨rfl,ds,rfl⟩) hy⟩
noncomputable def mutS{α:Type}(i:Nat)(m:M α):M α:=λY=>if isMut Y i then m Y else none
theorem tW{α:Type}{m:M α}{r:α×Gm}(h:mutS i m Y=some r):isMut Y i=true/\m Y=some r:=by
 unfold mutS at h;by_cases hc:isMut Y i=true
 ·rw[if_pos hc] at h;exact⟨hc,h⟩
 ·rw[if_neg hc] at h;cases h
noncomputable def appF(d:D)(ds:List D):Option (List D):=if ds.length < lim then some (ds++[d]) else none
noncomputable def extF(d:D)(ds:List D):Option (List D):=match d with
 | .lst es=>if ds.length+es.length<=lim then some (ds++es) else none
 | _=>none
noncomputable def appS(i:Nat)(g:M D):M Fl:=mutS i (bnd g λd=>bnd (wr i (appF d)) λ_=>ret .nx)
noncomputable def extS(i:Nat)(g:M D):M Fl:=mutS i (bnd g λd=>bnd (wr i (extF d)) λ_=>ret .nx)
theorem xn{H:Hp}{s:d_}{l:l_}(I:Inv X aa U H s)(hH:RdK X.K H l xs):xs.length<=x_/\∃(ae:List b_) (n:Nat),Vals xs ae/\xs.length=ae.length/\s.heap.get? l=some { cls:=.type "list", data:=.seq ae.toArray n }:=by
 rcases hH with hH | ⟨ae,n,h1,h2,h3⟩
 ·obtain⟨z,ae,n,r,e⟩:=hH.ok I.hok;exact⟨z,ae,n,r,r.length,e⟩
 ·exact⟨by rw[h2.length];exact h3,ae,n,h2,h2.length,I.kIn l _ h1⟩
def rExtendR(K:PySem.W.Frag):V->List V->Hp->VK->Prop:=λx vs H Q=>∃l b xs zs,x=.ref l/\vs=[.ref b]/\H l=some (.lst xs)/\RdK K H b zs/\xs.length+zs.length<=x_/\Q .non (upd H l (.lst (xs++zs)))
theorem Ic:MtM X "list.extend" (rExtendR X.K):=by
 intro aa s U H x vs v us Q I rx rv h;obtain⟨l,b,xs,zs,rfl,rfl,hH,hB,hz,q⟩:=h;cases rx;obtain⟨u,rfl,ru⟩:=rv.one;cases ru;obtain⟨z,ae,n,r,hl,e⟩:=I.lstM hH;obtain⟨z2,bM,n2,r2,cE,e2⟩:=xn I hB;have hsz:ae.toArray.size+bM.toArray.size<=x_:=by rw[q_,q_];omega
 have jU:¬(!ae.toArray.isEmpty&&UO (ae.toArray.size+bM.toArray.size))=true:=by
  rw[notLongL hsz,Ts];exact k_
 refine U7 F.slot_list_extend ⟨_,e,rfl⟩ F.entry_list_extend (F.args_list_extend_2 _ _)
  (AutoSeq1.list_extend_list_list_0 l ae.toArray n b bM.toArray n2 jU (by rw[q_];omega) (by omega)) ⟨e,e2,?_⟩
 refine⟨.non,_,I.lset (its':=ae++bM) hH e (by simp) (r.append r2) ?_,rfl,q⟩;rw[y_];omega
theorem ub(hv:PE X (.Name x p1) (tVar i))(ha:ED X B e ga)(hs:Pu (.Call (.Attribute (.Name x p1) "append" bj) [e] [] aN) none pos.line X.env=pure false:=by rfl)(eV:g_ [e] X.env=(false,O1 e X.env)::g_ [] X.env:=by rfl)(bQ:SF (.Name x p1) "append" X.env (O1 (.Name x p1) X.env)=O1 (.Name x p1) X.env:=by rfl)(cQ:((Pa aN (g_ [e] X.env)).all (λx=>!x.1)&&(U6 aN (Tq [] X.env)).all (λx=>x.1.isSome)
   &&decide ([e].length+([]:List S3).length+(if([]:List S3).isEmpty then 0 else 1) < 30))=true:=by rfl)(bR:(bj.endLine == aN.line)=true:=by rfl)(bE:(Pa aN (g_ [] X.env)).any (·.1)=false:=by rfl):
  SD X B (.Expr (.Call (.Attribute (.Name x p1) "append" bj) [e] [] aN) pos) (appS i ga):=
 PS.imp (zR (z7 Tb PySem.F.slot_list_append PySem.F.type_list_append DR hv (ue ha vh eV) bQ cQ bR eV bE) hs) λE U H q=>by
  obtain⟨G,I,Y,f,af,r,e1,k⟩:=q;obtain⟨hm,e1⟩:=tW e1;obtain⟨d1,ac,e2,e3⟩:=qT e1;obtain⟨d2,aj,e4,e5⟩:=qT e3;cases e5;obtain⟨p,xs,h1,h2⟩:=tH hm r;refine⟨_,h1,.inl ⟨rfl,xs,SqL.of h2⟩,G,I,Y,d1,ac,r,e2,λv H1 I1 r1 g1 hd=>?_⟩;obtain⟨p',bx,ds,es,h3,h4,h5,h6,h7⟩:=wj e4 r1;have hp:p'=p:=by rw[h1] at h3;cases h3;rfl
  subst hp;obtain⟨hl,rfl⟩:=rJ h6;refine⟨p',bx,v,rfl,rfl,h4,?_,k U _ I1 (h7 _ (IsA.append h5 (IsA.cons hd IsA.nil))) g1⟩;rw[←h5.length];exact L_ hl (tF (v_ _))
theorem Aa(hv:PE X (.Name x p1) (tVar i))(ha:ED X B e ga)(hs:Pu (.Call (.Attribute (.Name x p1) "extend" bj) [e] [] aN) none pos.line X.env=pure false:=by rfl)(eV:g_ [e] X.env=(false,O1 e X.env)::g_ [] X.env:=by rfl)(bQ:SF (.Name x p1) "extend" X.env (O1 (.Name x p1) X.env)=O1 (.Name x p1) X.env:=by rfl)(cQ:((Pa aN (g_ [e] X.env)).all (λx=>!x.1)&&(U6 aN (Tq [] X.env)).all (λx=>x.1.isSome)
   &&decide ([e].length+([]:List S3).length+(if([]:List S3).isEmpty then 0 else 1) < 30))=true:=by rfl)(bR:(bj.endLine == aN.line)=true:=by rfl)(bE:(Pa aN (g_ [] X.env)).any (·.1)=false:=by rfl):
  SD X B (.Expr (.Call (.Attribute (.Name x p1) "extend" bj) [e] [] aN) pos) (extS i ga):=
 PS.imp (zR (z7 Tb PySem.F.slot_list_extend PySem.F.type_list_extend Ic hv (ue ha vh eV) bQ cQ bR eV bE) hs) λE U H q=>by
  obtain⟨G,I,Y,f,af,r,e1,k⟩:=q;obtain⟨hm,e1⟩:=tW e1;obtain⟨d1,ac,e2,e3⟩:=qT e1;obtain⟨d2,aj,e4,e5⟩:=qT e3;cases e5;obtain⟨p,xs,h1,h2⟩:=tH hm r;refine⟨_,h1,.inl ⟨rfl,xs,SqL.of h2⟩,G,I,Y,d1,ac,r,e2,λv H1 I1 r1 g1 hd=>?_⟩;obtain⟨p',bx,ds,es,h3,h4,h5,h6,h7⟩:=wj e4 r1;have hp:p'=p:=by rw[h1] at h3;cases h3;rfl
  subst hp;cases d1 with
  | lst zs =>
   obtain⟨a,ys,rfl,i1,i2⟩:=rl hd;obtain⟨hl,rfl⟩:=rJ h6;refine⟨p',a,bx,ys,rfl,rfl,h4,Same.rdK r1.iH i1,?_,k U _ I1 (h7 _ (IsA.append h5 i2)) g1⟩;rw[←h5.length,←i2.length];exact tF hl
  | _=>cases h6
noncomputable def asI(d:D):Option Int:=match d with
 | .int i=>some i
 | _=>none
theorem At{i:Int}(h:asI d=some i):d=.int i:=by
 cases d<;>simp[asI] at h
 rw[h]
noncomputable def stF(k:Int)(d:D)(ds:List D):Option (List D):=(ixN ds.length k).map λj=>ds.set j d
noncomputable def stS(i:Nat)(gi gv:M D):M Fl:=bnd gv λd=>mutS i (bnd gi λn=>bnd (lft (asI n)) λk=>bnd (wr i (stF k d)) λ_=>ret .nx)
theorem wu{gi:M D}(hv:PE X (.Name x p1) (tVar i))(hi:ED X B ie gi)(he:ED X B e ga)(ha:∀v,R8 (.Subscript (.Name x p1) ie p2) X.env v=(do
   let ov ←RV [v] (O1 (.Name x p1) X.env)
   let iv ←RV [v,ov] (O1 ie X.env)
   Vp p2
   RV [v,ov,iv] (Vr ov iv v)
   release [v,ov,iv] []):=by intros;rfl)(hs:T4 [.Subscript (.Name x p1) ie p2] e pos.line X.env=pure false:=by rfl)(hw:T6 [.Subscript (.Name x p1) ie p2] e X.env=pure none:=by rfl)(h1:(PV [.Subscript (.Name x p1) ie p2] X.env).map (·.2)=[R8 (.Subscript (.Name x p1) ie p2) X.env]:=by rfl):
  SD X B (.Assign [.Subscript (.Name x p1) ie p2] e pos) (stS i gi ga):=PS.imp (Az he (Kv hv hi HB ha) hs hw h1) λE U H q=>by
 obtain⟨G,I,Y,f,af,r,e1,k⟩:=q;obtain⟨d,ac,e2,e3⟩:=qT e1;obtain⟨hm,e3⟩:=tW e3;obtain⟨n,aj,e4,e5⟩:=qT e3;obtain⟨z,aR,e6,e7⟩:=qT e5;obtain⟨e8,rfl⟩:=rp e6;obtain⟨u,aW,f1,f2⟩:=qT e7;cases f2;have:=At e8;subst this;refine⟨G,I,Y,d,ac,r,e2,λv H1 I1 r1 g1 hd=>?_⟩;obtain⟨p,xs,h1,h2⟩:=tH hm r1;refine⟨_,h1,G,I1,ac,_,_,r1,e4,λw H2 I2 r2 g2 hw=>?_⟩;obtain⟨p',bx,ds,es,h3,h4,h5,h6,h7⟩:=wj f1 r2;have hp:p'=p:=by rw[h1] at h3;cases h3;rfl
 subst hp;unfold stF at h6;cases hj:ixN ds.length z with
 | none=>rw[hj] at h6;cases h6
 | some j =>
  rw[hj] at h6;cases h6;exact⟨p',bx,z,j,rfl,qZ hw,h4,by rw[←h5.length];exact hj,k U _ I2 (h7 _ (IsA.set (hd.mono g2.up) j h5)) (g1.trans g2)⟩
def Yields(K:PySem.W.Frag)(I:Hp)(ds:List D)(J:It):Prop:=∀(i:Nat) (H1:Hp),Same I H1 →
 (∀d,ds[i]?=some d->J.go i H1/\∀x H2,J.yld i H1 x H2->(H2=H1/\Is K I d x)\/(∃p es xs,d=.tup es/\x=.ref p/\H1 p=none/\H2=upd H1 p (.tup xs)/\IsA K I es xs))/\(ds.length<=i->J.stop i H1)
noncomputable def tI(K:PySem.W.Frag)(B:BB)(g:M (List D)):TI:=λU H R=>∃G I Y ds af,Rep K B G I H U Y/\g Y=some (ds,af)/\∀J H' I',Rep K B G I' H' U af->Grow G I I'->Yields K I' ds J->R J H'
def ITD(X:Cx)(B:BB)(tg iter:OU)(g:M (List D)):Prop:=PI X tg iter (tI X.K B g)
theorem Hf{l:OU}{tl:TE}(hl:PE X l tl):PI X tg l (λU H R=>tl U H λx H1=>(∃a,x=.ref a/\(∃xs,SqL X.K H1 a xs)/\R (Itl X.K a) H1)\/(∃a,x=.ref a/\(∃xs,SqT X.K H1 a xs)/\R (Itt X.K a) H1)):=by
 intro aa s U H R I h;refine thn (hl aa s U H _ I h) λv s1 ⟨x,H1,I1,r1,q1⟩=>?_
 rcases q1 with⟨a,e,⟨xs,hq⟩,q⟩ | ⟨a,e,⟨xs,hq⟩,q⟩
 ·subst e;cases r1;obtain⟨ae,rv,p,hz⟩:=I1.list hq;refine P9 p.isList ?_;refine⟨s1.heap.objs.size,[s1.heap.objs.size],_,_,H1,rfl,I1.kept (t':=s1.toks) λb o e=>e_ _ e,Es a _,⟨_,t_ _ rfl,rfl,rfl⟩,λb hb=>?_,q⟩;have e:b=s1.heap.objs.size:=by simpa using hb
  subst e;exact I1.fpOk (v_ _) (I1.hok.fresh (v_ _))
 ·subst e;cases r1;obtain⟨ae,rv,p,hz⟩:=I1.tuple hq;refine Uf (show s1.heap.IsTuple a ae.toArray from p) ?_;refine⟨s1.heap.objs.size,[s1.heap.objs.size],_,_,H1,rfl,I1.kept (t':=s1.toks) λb o e=>e_ _ e,KC a _,⟨_,t_ _ rfl,rfl,rfl⟩,λb hb=>?_,q⟩;have e:b=s1.heap.objs.size:=by simpa using hb
  subst e;exact I1.fpOk (v_ _) (I1.hok.fresh (v_ _))
noncomputable def seqI(d:D):Option (List D):=match d with
 | .lst ds=>some ds
 | .tup ds=>some ds
 | _=>none
noncomputable def itS(g:M D):M (List D):=bnd g λd=>lft (seqI d)
theorem rC(ha:ED X B a ga):ITD X B tg a (itS ga):=PI.imp (Hf ha) λU H R q=>by
 obtain⟨G,I,Y,ds,af,r,e1,k⟩:=q;obtain⟨d,ac,e2,e3⟩:=qT e1;obtain⟨e4,rfl⟩:=rp e3;refine⟨G,I,Y,d,_,r,e2,λv H1 I1 r1 g1 hd=>?_⟩;cases d with
 | lst es =>
  cases e4;obtain⟨l,xs,rfl,h1,h2⟩:=rl hd;refine .inl ⟨l,rfl,⟨xs,(Same.rdK r1.iH h1).sq⟩,k _ _ _ r1 g1 λi H2 s2=>⟨λd hd=>?_,λhi=>⟨xs,(Same.rdK s2 h1).sq,by rw[←h2.length];exact hi⟩⟩⟩;obtain⟨x,e5,e6⟩:=h2.get hd;refine⟨⟨xs,x,(Same.rdK s2 h1).sq,e5⟩,λy H3 hy=>.inl ⟨hy.1,?_⟩⟩;have:=hy.2 xs ((Same.rdK s2 h1).sq);rw[e5] at this;cases this;exact e6
 | tup es =>
  cases e4;obtain⟨l,xs,rfl,h1,h2⟩:=rm hd;refine .inr ⟨l,rfl,⟨xs,Same.sqT r1.iH h1⟩,k _ _ _ r1 g1 λi H2 s2=>⟨λd hd=>?_,λhi=>⟨xs,Same.sqT s2 h1,by rw[←h2.length];exact hi⟩⟩⟩;obtain⟨x,e5,e6⟩:=h2.get hd;refine⟨⟨xs,x,Same.sqT s2 h1,e5⟩,λy H3 hy=>.inl ⟨hy.1,?_⟩⟩;have:=hy.2 xs (Same.sqT s2 h1);rw[e5] at this;cases this;exact e6
 | _=>cases e4
noncomputable def rngD(lo:Int)(n:Nat):List D:=(Pk n).map λ(k:Nat)=>D.int (lo+(k:Int))
theorem DJ{K:PySem.W.Frag}(lo:Int)(n:Nat):Yields K I (rngD lo n) (Itr lo n):=λi H1 s1=>by
 refine⟨λd hd=>?_,λhi=>?_⟩
 ·unfold rngD at hd;rw[B_] at hd;cases e:(Pk n)[i]? with
  | none=>rw[e] at hd;cases hd
  | some j =>
   rw[e] at hd;cases hd;obtain⟨h1,h2⟩:=p_.mp e;rw[SG] at h2;rw[Rf] at h1;subst h2;refine⟨h1,λx H2 hy=>.inl ⟨hy.1,?_⟩⟩;rw[hy.2];exact Is.int _
 ·unfold rngD at hi;rw[w_,Rf] at hi;exact hi
noncomputable def rngI1(ds:List D):Option (List D):=match ds with
 | [.int j]=>if -1000000<=j/\j<=1000000 then some (rngD 0 j.toNat) else none
 | _=>none
noncomputable def rngI2(ds:List D):Option (List D):=match ds with
 | [.int i,.int j]=>if(-1000000<=i/\i<=1000000)/\-1000000<=j/\j<=1000000 then some (rngD i (j - i).toNat) else none
 | _=>none
theorem An{es:List D}(h:rngI1 ds=some es):∃j:Int,ds=[.int j]/\(-1000000<=j/\j<=1000000)/\es=rngD 0 j.toNat:=by
 unfold rngI1 at h;split at h
 ·obtain⟨h1,h2⟩:=rJ h;exact⟨_,rfl,h1,h2⟩
 ·cases h
theorem G0{es:List D}(h:rngI2 ds=some es):∃i j:Int,ds=[.int i,.int j]/\((-1000000<=i/\i<=1000000)/\-1000000<=j/\j<=1000000)/\es=rngD i (j - i).toNat:=by
 unfold rngI2 at h;split at h
 ·obtain⟨h1,h2⟩:=rJ h;exact⟨_,_,rfl,h1,h2⟩
 ·cases h
theorem t6{p:Pos}{t:M (List D)}(hg:Gl X "range")(hm:X.mg "range"=none)(ha:AD X B [a] t)(hs:g_ [a] X.env=[(false,O1 a X.env)]:=by rfl):ITD X B tg (.Call (.Name "range" p) [a] [] pos) (fn1 rngI1 t):=
 PI.imp (J1 hg hm ha hs) λU H R q=>by
  obtain⟨G,I,Y,ds,af,r,e1,k⟩:=q;obtain⟨d,ac,e2,e3⟩:=qT e1;obtain⟨e4,rfl⟩:=rp e3;obtain⟨j,rfl,⟨h1,h2⟩,rfl⟩:=An e4;refine⟨G,I,Y,_,_,r,e2,λvs H1 I1 r1 g1 hd=>?_⟩;obtain⟨x,rfl,hx⟩:=hd.one;exact⟨j,by rw[qZ hx],by omega,by omega,k _ _ _ r1 g1 (DJ _ _)⟩
theorem Jz{p:Pos}{t:M (List D)}(hg:Gl X "range")(hm:X.mg "range"=none)(ha:AD X B [a,b] t)(hs:g_ [a,b] X.env=[(false,O1 a X.env),(false,O1 b X.env)]:=by rfl)(bD:g_ [b] X.env=[(false,O1 b X.env)]:=by rfl):
  ITD X B tg (.Call (.Name "range" p) [a,b] [] pos) (fn1 rngI2 t):=
 PI.imp (Ix hg hm ha hs bD) λU H R q=>by
  obtain⟨G,I,Y,ds,af,r,e1,k⟩:=q;obtain⟨d,ac,e2,e3⟩:=qT e1;obtain⟨e4,rfl⟩:=rp e3;obtain⟨i,j,rfl,h1,rfl⟩:=G0 e4;refine⟨G,I,Y,_,_,r,e2,λvs H1 I1 r1 g1 hd=>?_⟩;obtain⟨x,y,rfl,hx,hy⟩:=hd.two;exact⟨i,j,by rw[qZ hx,qZ hy],by omega,k _ _ _ r1 g1 (DJ _ _)⟩
noncomputable def forM(aE:D->M Unit)(body:M Fl):List D->M Fl
 | []=>ret .nx
 | d::ds=>bnd (aE d) λ_=>bnd body λf=>match f with
  | .nx=>forM aE body ds
  | .ct=>forM aE body ds
  | .bk=>ret .nx
  | .rt r=>ret (.rt r)
noncomputable def forS(it:M (List D))(aE:D->M Unit)(body:M Fl):M Fl:=bnd it λds=>forM aE body ds
theorem JN{body:List Pb}{it:M (List D)}{aE:D->M Unit}(hp:PassesOwn (s_ X.prog X.w) X.A X.env X.xe)(hc:X.calm=true)(hi:ITD X B tg iter it)(hg:GD X B m tg aE)(hb:SDs X B body g)(hs:∀x,Pq iter X.env x=pure x:=by intros;rfl):SD X B (.For tg iter body [] pos) (forS it aE g):=PS.imp (EX hp hc hi hg hb hs) λE U H q=>by
 obtain⟨G,I,Y,f,af,r,e1,k⟩:=q;obtain⟨ds,ac,e2,e3⟩:=qT e1;refine⟨G,I,Y,ds,ac,r,e2,λJ H1 I1 r1 g1 y=>?_⟩;refine⟨λi m U H=>∃I2 aj,Rep X.K B G I2 H U aj/\Grow G I1 I2/\forM aE g (ds.drop i) aj=some (f,af)/\i<=ds.length/\m=ds.length - i,⟨ds.length,I1,ac,r1,Grow.refl _ _,by simpa using e3,O5 _,rfl⟩,?_⟩;rintro i m' aZ H2 ⟨I2,aj,r2,g2,e4,ba,rfl⟩;obtain⟨yg,ys⟩:=y i H2 (g2.up.trans r2.iH);by_cases bB:i < ds.length
 ·have hd:ds.drop i=ds[i]::ds.drop (i+1):=O3 bB;obtain⟨go,yld⟩:=yg ds[i] (f_ bB);rw[hd] at e4;obtain⟨u,aR,e5,e6⟩:=qT e4;obtain⟨fl,aW,e7,e8⟩:=qT e6;refine .inr ⟨go,λam H'=>∃I3,Rep X.K B G I3 H' am aW/\Grow G I1 I3/\(fl=.nx\/fl=.ct),λam H' ⟨I3,r3,g3,hf⟩=>⟨ds.length - (i+1),by omega,I3,aW,r3,g3,?_,bB,rfl⟩,λx H3 hy=>?_⟩
  ·rcases hf with rfl | rfl<;>exact e8
  ·have lA:∀I3,Rep X.K B G I3 H3 aZ aj->Grow G I2 I3->Is X.K I3 ds[i] x->tGD X.K B m aE x aZ H3 λaZ H2=>tS X.K B g { E with nx:=λam H'=>∃I3,Rep X.K B G I3 H' am aW/\Grow G I1 I3/\(fl=.nx\/fl=.ct),ct:=λam H'=>∃I3,Rep X.K B G I3 H' am aW/\Grow G I1 I3/\(fl=.nx\/fl=.ct),bk:=E.nx } aZ H2:=by
    intro I3 r3 g3 hx;refine⟨G,I3,aj,ds[i],aR,r3,hx,e5,λlB H4 I4 r4 g4 _=>⟨G,I4,aR,fl,aW,r4,e7,λeW H5 I5 r5 g5=>?_⟩⟩;have gg:Grow G I1 I5:=g2.trans (g3.trans (g4.trans g5));cases fl with
    | nx=>exact⟨I5,r5,gg,.inl rfl⟩
    | ct=>exact⟨I5,r5,gg,.inr rfl⟩
    | bk=>cases e8;exact k eW H5 I5 r5 (g1.trans gg)
    | rt v=>cases e8;exact k eW H5 I5 r5 (g1.trans gg)
   rcases yld x H3 hy with⟨rfl,hx⟩ | ⟨p,es,xs,dC,rfl,dE,rfl,hx⟩
   ·exact lA I2 r2 (Grow.refl _ _) (hx.mono g2.up)
   ·refine lA _ (r2.alloc dE _) (r2.growAlloc dE _) ?_;rw[dC];exact Is.tup rn ((hx.mono g2.up).mono (rN (r2.iFree dE) _))
 ·have bX:i=ds.length:=by omega
  subst bX;rw[List.drop_length] at e4;cases e4;exact .inl ⟨ys (v_ _),k aZ H2 I2 r2 (g1.trans g2)⟩
end
noncomputable def fin:List R->Gm->Option (List R)
 | [],_=>some []
 | .val d::rs,_::Y=>match fin rs Y with
  | some l=>some (.val d::l)
  | none=>none
 | .bor _::rs,some (.bor ds)::Y=>match fin rs Y with
  | some l=>some (.bor ds::l)
  | none=>none
 | _,_=>none
noncomputable def flR:Fl->Option R
 | .rt r=>some r
 | .nx=>some (.val .non)
 | _=>none
noncomputable def fnD1(n:Nat)(body:M Fl)(rs:List R):Option (R×List R):=
 match body (rs.map some++OZ (n - rs.length) none) with
 | some (f,af)=>match flR f with
  | some r=>match fin rs af with
   | some l=>some (r,l)
   | none=>none
  | none=>none
 | none=>none
noncomputable def fnD(n ar:Nat)(body:M Fl)(rs:List R):Option (R×List R):=if rs.length=ar then fnD1 n body rs else none
noncomputable def noOwn:R->Bool
 | .own _=>false
 | _=>true
noncomputable def vB(vs:List V):BB:=λi=>(vs.map some)[i]?
noncomputable def spD(K:PySem.W.Frag)(g:List R->Option (R×List R)):Sp:=λvs H Q _=>∃(G I:Hp) (rs:List R) (r:R) (aL:List R),Rep K (vB vs) G I H (vs.map some) (rs.map some)/\rs.all noOwn=true/\g rs=some (r,aL) ∧
 ∀v H' I',Rep K (vB vs) G I' H' (vs.map some) (aL.map some)->Grow G I I'->ResOk K G I' H' (vs.map some) (aL.map some) r v->Q v H'
theorem zN:∀{rs l:List R}{Y:Gm},fin rs Y=some l->l.length=rs.length/\∀(i:Nat) (r:R),l[i]?=some r->(∃d,r=.val d/\rs[i]?=some (.val d))\/(∃ds,r=.bor ds/\Y[i]?=some (some (.bor ds)))
 | [],l,Y,h=>by
  rw[fin] at h;cases h;exact⟨rfl,λi r e=>by simp at e⟩
 | .val d::rs,l,[],h=>by simp[fin] at h
 | .bor d::rs,l,[],h=>by simp[fin] at h
 | .own d::rs,l,Y,h=>by cases Y<;>simp[fin] at h
 | .fro d::rs,l,Y,h=>by cases Y<;>simp[fin] at h
 | .tfr d::rs,l,Y,h=>by cases Y<;>simp[fin] at h
 | .dic d::rs,l,Y,h=>by cases Y<;>simp[fin] at h
 | .val d::rs,l,o::Y,h=>by
  rw[fin] at h;cases e:fin rs Y with
  | none=>rw[e] at h;cases h
  | some l' =>
   rw[e] at h;cases h;obtain⟨h1,h2⟩:=zN e;refine⟨by simp[h1],λi r er=>?_⟩;cases i with
   | zero=>simp at er;subst er;exact .inl ⟨d,rfl,rfl⟩
   | succ i =>
    rcases h2 i r (by simpa using er) with⟨d',e1,e2⟩ | ⟨ds,e1,e2⟩
    ·exact .inl ⟨d',e1,by simpa using e2⟩
    ·exact .inr ⟨ds,e1,by simpa using e2⟩
 | .bor d::rs,l,none::Y,h=>by simp[fin] at h
 | .bor d::rs,l,some (.val x)::Y,h=>by simp[fin] at h
 | .bor d::rs,l,some (.own x)::Y,h=>by simp[fin] at h
 | .bor d::rs,l,some (.fro x)::Y,h=>by simp[fin] at h
 | .bor d::rs,l,some (.tfr x)::Y,h=>by simp[fin] at h
 | .bor d::rs,l,some (.dic x)::Y,h=>by simp[fin] at h
 | .bor d::rs,l,some (.bor x)::Y,h=>by
  rw[fin] at h;cases e:fin rs Y with
  | none=>rw[e] at h;cases h
  | some l' =>
   rw[e] at h;cases h;obtain⟨h1,h2⟩:=zN e;refine⟨by simp[h1],λi r er=>?_⟩;cases i with
   | zero=>simp at er;subst er;exact .inr ⟨x,rfl,rfl⟩
   | succ i =>
    rcases h2 i r (by simpa using er) with⟨d',e1,e2⟩ | ⟨ds,e1,e2⟩
    ·exact .inl ⟨d',e1,by simpa using e2⟩
    ·exact .inr ⟨ds,e1,by simpa using e2⟩
theorem getMap{α β:Type}{f:α->β}{l:List α}{b:β}(h:(l.map f)[i]?=some b):∃a,l[i]?=some a/\b=f a:=by
 rw[B_] at h;cases e:l[i]? with
 | none=>rw[e] at h;cases h
 | some a=>rw[e] at h;exact⟨a,rfl,(OL h).symm⟩
theorem wI{α:Type}{l:List α}{a:α}(h:(l.map some++OZ n (none:Option α))[i]?=some (some a)):l[i]?=some a:=by
 by_cases hi:i < (l.map some).length
 ·rw[P8 hi] at h;obtain⟨b,e1,e2⟩:=getMap h;cases e2;exact e1
 ·rw[Pt (by omega),Qg] at h;split at h<;>cases h
section
variable{P:C_}{w:J_}{K:PySem.W.Frag}
theorem rf{st:Pb}{N ps:List Str}(F:Fun K x qual st f fd)(S:FnScope N ps (defScope st))(g:M Fl)(hb:∀(aA:b_) (A:PB) (outer:List Env) (s:d_) (H:Hp) (E:XK) (B:BB),Room k (A.deeper (S0 qual (defScope st) s.heap.objs.size f aA)) →
   SDs (cxOf CX0 P w K mg base N qual (defScope st) f aA A outer s H E).nox B (defBody st) g):FnOk P w K mg base CX0 (k+1) f fd ps (spD K (fnD N.length ps.length g)):=by
 refine F.ok S (λvs H Q E h=>?_) (λaA A outer s H vs Q E hr h=>?_)
 ·obtain⟨_,_,rs,_,_,h1,_,h2,_⟩:=h;unfold fnD at h2;by_cases hc:rs.length=ps.length
  ·rw[←hc];simpa using h1.len
  ·rw[if_neg hc] at h2;cases h2
 ·obtain⟨G,I,rs,r,aL,h2,h3,h4,h5⟩:=h;have hl:vs.length=rs.length:=by simpa using h2.len
  refine⟨_,hb aA A outer s H E (λi=>(L2.start N vs)[i]?) hr,?_⟩;unfold fnD at h4
  have hc:rs.length=ps.length:=by
   by_cases hc:rs.length=ps.length
   ·exact hc
   ·rw[if_neg hc] at h4;cases h4
  rw[if_pos hc] at h4;unfold fnD1 at h4;cases e1:g (rs.map some++OZ (N.length - rs.length) none) with
  | none=>rw[e1] at h4;cases h4
  | some q =>
   obtain⟨fl,af⟩:=q;rw[e1] at h4;dsimp only at h4;cases e2:flR fl with
   | none=>rw[e2] at h4;cases h4
   | some rr =>
    rw[e2] at h4;dsimp only at h4;cases e3:fin rs af with
    | none=>rw[e3] at h4;cases h4
    | some l =>
     rw[e3] at h4;obtain⟨rfl,rfl⟩:rr=r/\l=aL:=by cases h4;exact⟨rfl,rfl⟩
     have iP:∀{i:Nat}{v:V},vs[i]?=some v->(L2.start N vs)[i]?=some (some v):=λ{i v} e=>by
      unfold L2.start;rw[P8 (by rw[w_];exact(p_.mp e).1),B_,e];rfl
     have jV:∀{i:Nat}{v:V},(L2.start N vs)[i]?=some (some v)->vs[i]?=some v:=λ{i v} e=>wI e
     have lC:Rep K (λi=>(L2.start N vs)[i]?) G I H (L2.start N vs) (rs.map some++OZ (N.length - rs.length) none):={
      iH:=h2.iH,gH:=h2.gH
      len:=by unfold L2.start;rw[y_,y_,w_,w_,OR,OR,hl]
      slot:=λi q e=>by
       have e':=wI e;obtain⟨v,e4,e5⟩:=h2.slot i q (by rw[B_,e'];rfl);obtain⟨v',e6,e7⟩:=getMap e4;cases e7;exact⟨v,iP e6,e5⟩
      dist:=λi j q q' v e e' m m' s1 s2=>h2.dist i j q q' v (by rw[B_,wI e];rfl) (by rw[B_,wI e'];rfl) m m' (by rw[B_,jV s1];rfl) (by rw[B_,jV s2];rfl)
      bor:=λi ds e=>rfl }
     obtain⟨f1,f2⟩:=zN e3
     -- behind the body
     have back:∀{am:L2.St}{H' I':Hp},Rep K (λi=>(L2.start N vs)[i]?) G I' H' am af->Grow G I I'->Rep K (vB vs) G I' H' (vs.map some) (l.map some):=λ{am H' I'} r' g'=>{
      iH:=r'.iH,gH:=r'.gH
      len:=by rw[w_,w_,f1,hl]
      slot:=λi q e=>by
       obtain⟨q',e4,e5⟩:=getMap e;cases e5
       rcases f2 i q e4 with⟨d,rfl,e6⟩ | ⟨ds,rfl,e6⟩
       ·obtain⟨v,e7,e8⟩:=h2.slot i (.val d) (by rw[B_,e6];rfl);exact⟨v,e7,Is.mono g'.up e8⟩
       ·obtain⟨v,e7,e8⟩:=r'.slot i _ e6;have e9:=r'.bor i ds e6;rw[e7] at e9;exact⟨v,by rw[B_,jV e9.symm];rfl,e8⟩
      dist:=λi j q q' v e e' m m' s1 s2=>by
       obtain⟨_,e4,e5⟩:=getMap e;cases e5;obtain⟨_,e6,e7⟩:=getMap e';cases e7
       rcases f2 i q e4 with⟨d,rfl,_⟩ | ⟨ds,rfl,e8⟩
       ·cases m
       rcases f2 j q' e6 with⟨d,rfl,_⟩ | ⟨dZ,rfl,e9⟩
       ·cases m'
       obtain⟨v1,a1,_⟩:=getMap s1;obtain⟨v2,a2,a3⟩:=getMap s2;have b1:=r'.bor i ds e8;have b2:=r'.bor j dZ e9;rename_i b3;cases b3;cases a3;rw[iP a1] at b1;rw[iP a2] at b2;exact r'.dist i j _ _ v e8 e9 rfl rfl b1 b2
      bor:=λi ds e=>rfl }
     have ap:∀{am:L2.St}{H' I':Hp}{p:l_},Rep K (λi=>(L2.start N vs)[i]?) G I' H' am af->Apart am af p->Apart (vs.map some) (l.map some) p:=λ{am H' I' p} r' a i q e m z=>by
      obtain⟨_,e4,e5⟩:=getMap e;cases e5
      rcases f2 i q e4 with⟨d,rfl,_⟩ | ⟨ds,rfl,e8⟩
      ·cases m
      obtain⟨v1,a1,a2⟩:=getMap z;cases a2;exact a i _ e8 rfl ((r'.bor i ds e8).trans (iP a1))
     refine⟨G,I,_,fl,af,lC,e1,λam H' I' r' g'=>?_⟩;cases fl with
     | nx=>cases e2;exact h5 _ H' I' (back r' g') g' (show Is K I' D.non V.non from Is.non)
     | bk=>cases e2
     | ct=>cases e2
     | rt r0 =>
      cases e2;intro v hv;refine h5 v H' I' (back r' g') g' ?_;cases rr with
      | val d=>exact hv
      | bor d=>exact hv
      | fro d=>exact hv
      | tfr d=>exact hv
      | dic d =>
       obtain⟨p,xs,b1,b2,b3,b4,b5,b6⟩:=hv;exact⟨p,xs,b1,b2,b3,b4,ap r' b5,b6⟩
      | own d =>
       obtain⟨p,xs,b1,b2,b3,b4,b5,b6⟩:=hv;exact⟨p,xs,b1,b2,b3,b4,ap r' b5,b6⟩
end
mutual
noncomputable def noL:D->Bool
 | .tup ds=>noLA ds
 | .lst _=>false
 | _=>true
noncomputable def noLA:List D->Bool
 | []=>true
 | d::ds=>noL d&&noLA ds
end
noncomputable def tupOf(I0 I:Hp):Hp:=λb=>match I0 b with
 | some o=>some o
 | none=>match I b with
  | some (.lst _)=>none
  | o=>o
theorem AM:Same I0 (tupOf I0 I):=λb o e=>by unfold tupOf;rw[e]
theorem Ac(h:tupOf I0 I b=some o):I0 b=some o\/(I0 b=none/\I b=some o/\∀xs,o≠.lst xs):=by
 unfold tupOf at h;cases e:I0 b with
 | some o'=>rw[e] at h;cases h;exact .inl rfl
 | none =>
  rw[e] at h;cases e1:I b with
  | none=>rw[e1] at h;cases h
  | some o' =>
   rw[e1] at h;cases o'<;>first | (cases h;exact .inr ⟨rfl,rfl,λxs z=>by cases z⟩) | cases h
theorem Fm(s:Same I0 I)(h:I b=some o)(n:∀xs,o≠.lst xs):tupOf I0 I b=some o:=by
 unfold tupOf;cases e:I0 b with
 | some o'=>rw[s b o' e] at h;exact h
 | none =>
  simp only[h];split
  ·rename_i z;cases z;exact absurd rfl (n _)
  ·rfl
mutual
theorem FZ{K:PySem.W.Frag}{I0 I:Hp}(s:Same I0 I):∀(d:D) (v:V),noL d=true->Is K I d v->Is K (tupOf I0 I) d v
 | .non,_,_,h=>by rw[Is] at h ⊢;exact h
 | .bl _,_,_,h=>by rw[Is] at h ⊢;exact h
 | .int _,_,_,h=>by rw[Is] at h ⊢;exact h
 | .str _,_,_,h=>by rw[Is] at h ⊢;exact h
 | .lst _,_,n,_=>by simp[noL] at n
 | .tup ds,v,n,h=>by
  rw[noL] at n;obtain⟨a,xs,rfl,h1,h2⟩:=uQ h;exact Is.tup (Fm s h1 λxs z=>by cases z) (zc s ds xs n h2)
theorem zc{K:PySem.W.Frag}{I0 I:Hp}(s:Same I0 I):∀(ds:List D) (xs:List V),noLA ds=true->IsA K I ds xs->IsA K (tupOf I0 I) ds xs
 | [],xs,_,h=>by rw[h.nil_inv];exact IsA.nil
 | d::ds,xs,n,h=>by
  rw[noLA,OP] at n;obtain⟨x,r,rfl,h1,h2⟩:=h.cons_inv;exact IsA.cons (FZ s d x n.1 h1) (zc s ds r n.2 h2)
end
section
variable{B:BB}{es:List OU}{p:Pos}{ps:List Str}{g:List R->Option (R×List R)}{t:M (List D)}
noncomputable def cvF(g:List R->Option (R×List R))(ds:List D):Option D:=match g (ds.map .val) with
 | some (.val d,_)=>some d
 | some (.fro d,_)=>some (.lst d)
 | _=>none
noncomputable def coF(g:List R->Option (R×List R))(ds:List D):Option (List D):=match g (ds.map .val) with
 | some (.own d,_)=>some d
 | some (.fro d,_)=>if noLA d=true then some d else none
 | _=>none
theorem vg{K:PySem.W.Frag}{H:Hp}{vs:List V}(r:Rep K B G I H U Y)(h:IsA K I ds vs):Rep K (vB vs) H I H (vs.map some) ((ds.map R.val).map some) where
 iH:=r.iH
 gH:=Same.refl _
 len:=by rw[w_,w_,w_,h.length]
 slot:=λi q e=>by
  obtain⟨_,e1,e2⟩:=getMap e;cases e2;obtain⟨d,e3,rfl⟩:=getMap e1;obtain⟨v,e4,e5⟩:=h.get e3;exact⟨v,by rw[B_,e4];rfl,e5⟩
 dist:=λi j q q' v e e' m=>by
  obtain⟨_,e1,e2⟩:=getMap e;cases e2;obtain⟨d,e3,rfl⟩:=getMap e1;cases m
 bor:=λi ds e=>rfl
theorem u7(ds:List D):(ds.map R.val).all noOwn=true:=by
 induction ds with
 | nil=>rfl
 | cons d r ih=>rw[F_,Qh,ih];rfl
theorem zX{K:PySem.W.Frag}{B':BB}{H:Hp}{am:L2.St}(r:Rep K B G I H U Y)(r':Rep K B' H I' H' am af)(g':Grow H I I'):Rep K B G I' H' U Y/\Grow G I I':=
 ⟨r.ext g'.up r'.gH r'.iH g'.new,g'.up,λb o e=>(g'.new b o e).imp (λz=>z) λz=>r.gFree z⟩
theorem t_cv{K:PySem.W.Frag}{E:XK}:∀U H Q,tD K B (fn1 (cvF g) t) U H Q->tCall (spD K g) [] E (tAD K B t) U H Q:=λU H Q q=>by
 obtain⟨G,I,Y,d,af,r,e1,kk⟩:=q;obtain⟨ds,ac,e2,e3⟩:=qT e1;obtain⟨e4,rfl⟩:=rp e3;refine⟨G,I,Y,ds,_,r,e2,λvs H1 I1 r1 g1 h1=>?_⟩;show spD K g (vs++[]) H1 Q E;rw[PY];unfold cvF at e4;cases e5:g (ds.map .val) with
 | none=>rw[e5] at e4;cases e4
 | some q =>
  obtain⟨rr,aL⟩:=q;rw[e5] at e4;cases rr with
  | val d' =>
   cases e4;refine⟨H1,I1,ds.map .val,.val d,aL,vg r1 h1,u7 ds,e5,λv H' I' r' g' hv=>?_⟩;obtain⟨r2,g2⟩:=zX r1 r' g';exact kk v H' I' r2 (g1.trans g2) hv
  | fro d' =>
   cases e4;refine⟨H1,I1,ds.map .val,.fro d',aL,vg r1 h1,u7 ds,e5,λv H' I' r' g' hv=>?_⟩;obtain⟨r2,g2⟩:=zX r1 r' g';obtain⟨p,xs,rfl,f1,_,f3⟩:=hv;exact kk _ H' I' r2 (g1.trans g2) (Is.lst (RdK.of f1) f3)
  | own _=>cases e4
  | bor _=>cases e4
  | dic _=>cases e4
  | tfr _=>cases e4
theorem t_co{K:PySem.W.Frag}{E:XK}:∀U H Q,tO K B (fn1 (coF g) t) U H Q->tCall (spD K g) [] E (tAD K B t) U H Q:=λU H Q q=>by
 obtain⟨G,I,Y,d,af,r,e1,kk⟩:=q;obtain⟨ds,ac,e2,e3⟩:=qT e1;obtain⟨e4,rfl⟩:=rp e3;refine⟨G,I,Y,ds,_,r,e2,λvs H1 I1 r1 g1 h1=>?_⟩;show spD K g (vs++[]) H1 Q E;rw[PY];unfold coF at e4;cases e5:g (ds.map .val) with
 | none=>rw[e5] at e4;cases e4
 | some q =>
  obtain⟨rr,aL⟩:=q;rw[e5] at e4;cases rr with
  | own d' =>
   cases e4;refine⟨H1,I1,ds.map .val,.own d,aL,vg r1 h1,u7 ds,e5,λv H' I' r' g' hv=>?_⟩;obtain⟨r2,g2⟩:=zX r1 r' g';obtain⟨q,xs,rfl,b2,b3,b4,b5,b6⟩:=hv;exact kk q xs H' I' r2 (g1.trans g2) b2 b3 (r1.gFree b4) (r1.apart b4) b6
  | fro d' =>
   obtain⟨nl,e4⟩:=rJ e4;subst e4;refine⟨H1,I1,ds.map .val,.fro d,aL,vg r1 h1,u7 ds,e5,λv H' I' r' g' hv=>?_⟩;obtain⟨p,xs,rfl,f1,f2,f3⟩:=hv
   have new:∀b o,tupOf I1 I' b=some o->I1 b=some o\/H1 b=none:=λb o e=>by
    rcases Ac e with z | ⟨_,z,_⟩
    ·exact .inl z
    ·exact g'.new b o z
   have r2:Rep K B G (tupOf I1 I') H' U _:=r1.ext AM r'.gH (λb o e=>by
    rcases Ac e with z | ⟨_,z,_⟩
    ·exact r'.iH b o (g'.up b o z)
    ·exact r'.iH b o z) new
   refine kk p xs H' (tupOf I1 I') r2 (g1.trans ⟨AM,λb o e=>(new b o e).imp (λz=>z) λz=>r1.gFree z⟩) (r'.iH p _ f1) ?_ (r1.gFree f2) (r1.apart f2) (zc g'.up _ _ nl f3);cases e:tupOf I1 I' p with
   | none=>rfl
   | some o =>
    rcases Ac e with z | ⟨_,z,zn⟩
    ·rw[r1.iFree f2] at z;cases z
    ·rw[f1] at z;cases z;exact absurd rfl (zn _)
  | tfr _=>cases e4
  | val _=>cases e4
  | bor _=>cases e4
  | dic _=>cases e4
variable {ql:Nat}{b:OU}
theorem ra(F:FnOk X.prog X.w X.K X.mg X.base CX0 k f fd ps (spD X.K g))(hr:Room k X.A)(hg:Gl X x)(hm:X.mg x=some (.ref f))(hk:Qw X.K (.ref f)=true)(hb:Binds X.K fd ps [])(ha:AD X B (e::es) t)(bA:(x == ("__debug__":Str))=false:=by decide)(he:g_ (e::es) X.env=(false,O1 e X.env)::g_ es X.env:=by rfl)(aK:(Pa pos (g_ es X.env)).any (·.1)=false:=by rfl):
  ED X B (.Call (.Name x p) (e::es) [] pos) (fn1 (cvF g) t):=PE.imp (wg F hr hg hm hk hb .nil pass0 ha bA he aK) t_cv
theorem rB(F:FnOk X.prog X.w X.K X.mg X.base CX0 k f fd ps (spD X.K g))(hr:Room k X.A)(hg:Gl X x)(hm:X.mg x=some (.ref f))(hk:Qw X.K (.ref f)=true)(hb:Binds X.K fd ps [])(ha:AD X B (e::es) t)(bA:(x == ("__debug__":Str))=false:=by decide)(he:g_ (e::es) X.env=(false,O1 e X.env)::g_ es X.env:=by rfl)(aK:(Pa pos (g_ es X.env)).any (·.1)=false:=by rfl):
  EO X B (.Call (.Name x p) (e::es) [] pos) (fn1 (coF g) t):=PE.imp (wg F hr hg hm hk hb .nil pass0 ha bA he aK) t_co
noncomputable def hide(H:Hp)(p:l_):Hp:=λb=>if b=p then none else H b
theorem DP{H:Hp}{p:l_}:hide H p p=none:=by unfold hide;rw[if_pos rfl]
theorem sY{H:Hp}{p b:l_}(h:b≠p):hide H p b=H b:=by unfold hide;rw[if_neg h]
theorem Mj{H:Hp}{p:l_}:Same (hide H p) H:=λb o e=>by
 by_cases h:b=p
 ·subst h;rw[DP] at e;cases e
 ·rw[sY h] at e;exact e
noncomputable def bcF(g:List R->Option (R×List R))(c ds:List D):Option (R×List D):=match g (.bor c::ds.map .val) with
 | some (r,.bor c'::_)=>some (r,c')
 | _=>none
noncomputable def callB(i:Nat)(g:List R->Option (R×List R))(t:M (List D)):M R:=mutS i (bnd t λds=>λac=>match ac[i]? with
 | some (some (.own c))=>match bcF g c ds with
  | some (r,c')=>some (r,ac.set i (some (.own c')))
  | none=>none
 | some (some (.bor c))=>match bcF g c ds with
  | some (r,c')=>some (r,ac.set i (some (.bor c')))
  | none=>none
 | _=>none)
noncomputable def asV(r:R):Option D:=match r with
 | .val d=>some d
 | _=>none
noncomputable def asO(r:R):Option (List D):=match r with
 | .own d=>some d
 | _=>none
noncomputable def cbV(i:Nat)(g:List R->Option (R×List R))(t:M (List D)):M D:=bnd (callB i g t) λr=>lft (asV r)
noncomputable def cbO(i:Nat)(g:List R->Option (R×List R))(t:M (List D)):M (List D):=bnd (callB i g t) λr=>lft (asO r)
theorem Rep.extBut{K:PySem.W.Frag}{H:Hp}(r:Rep K B G I H U Y){q:l_}(ap:Apart U Y q)(gq:G q=none)(iq:I q=none)(qm:I' q=none)(hI:Same I I')(hH:∀b o,H b=some o->b≠q->H' b=some o)(iH:Same I' H')(new:∀b o,I' b=some o->I b=some o\/H b=none\/b=q):Rep K B G I' H' U Y where
 iH:=iH
 gH:=λb o e=>hH b o (r.gH b o e) (λz=>by subst z;rw[gq] at e;cases e)
 len:=r.len
 slot:=λi qr e=>by
  obtain⟨v,e1,e2⟩:=r.slot i qr e;refine⟨v,e1,?_⟩
  have mt:qr.ptr=true->∀ds,Mt K G I H ds v->Mt K G I' H' ds v:=λm ds h=>by
   obtain⟨p2,xs,h1,h2,h3,h4,h5⟩:=h;have ne:p2≠q:=λz=>ap i qr e m (by rw[e1,h1,z])
   refine⟨p2,xs,h1,hH _ _ h2 ne,?_,h4,h5.mono hI⟩;cases z:I' p2 with
   | none=>rfl
   | some o =>
    rcases new p2 o z with z1 | z1 | z1
    ·rw[h3] at z1;cases z1
    ·rw[h2] at z1;cases z1
    ·exact absurd z1 ne
  cases qr with
  | val d=>exact Is.mono hI e2
  | dic ds =>
   obtain⟨p2,xs,h1,h2,h3,h4,h5⟩:=e2;have ne:p2≠q:=λz=>ap i _ e rfl (by rw[e1,h1,z])
   refine⟨p2,xs,h1,hH _ _ h2 ne,?_,h4,h5.mono hI⟩;cases z:I' p2 with
   | none=>rfl
   | some o =>
    rcases new p2 o z with z1 | z1 | z1
    ·rw[h3] at z1;cases z1
    ·rw[h2] at z1;cases z1
    ·exact absurd z1 ne
  | own ds=>exact mt rfl ds e2
  | bor ds=>exact mt rfl ds e2
  | fro ds=>obtain⟨p,xs,f1,f2,f3,f4⟩:=e2;exact⟨p,xs,f1,hI _ _ f2,f3,f4.mono hI⟩
  | tfr ds=>exact e2.elim
 dist:=r.dist
 bor:=r.bor
theorem borrow{K:PySem.W.Frag}{H:Hp}{q q':R}{c c':List D}{ws:List V}{Q:VK}{E:XK}(r:Rep K B G I H U Y)(hq:Y[i]?=some (some q))(hc:(q=.own c/\q'=.own c')\/(q=.bor c/\q'=.bor c'))(hd:IsA K I ds ws)(gE:U[i]?=some (some v0))(hg:bcF g c ds=some (rr,c'))(k:∀v H' I',Rep K B G I' H' U (Y.set i (some q'))->Grow G I I'->ResOk K G I' H' U (Y.set i (some q')) rr v->Q v H'):spD K g (v0::ws) H Q E:=by
 obtain⟨v,e1,e2⟩:=r.slot i q hq;rw[gE] at e1;cases e1;have hm:q.ptr=true:=by rcases hc with⟨rfl,_⟩ | ⟨rfl,_⟩<;>rfl
 have mt:Mt K G I H c v0:=by rcases hc with⟨rfl,_⟩ | ⟨rfl,_⟩<;>exact e2
 obtain⟨a,xs,rfl,h1,h2,h3,h4⟩:=mt;unfold bcF at hg;cases e3:g (.bor c::ds.map .val) with
 | none=>rw[e3] at hg;cases hg
 | some z =>
  obtain⟨r0,aL⟩:=z;rw[e3] at hg;cases aL with
  | nil=>cases hg
  | cons y aL =>
   cases y with
   | val _=>cases hg
   | own _=>cases hg
   | fro _=>cases hg
   | tfr _=>cases hg
   | dic _=>cases hg
   | bor c2 =>
    cases hg;refine⟨hide H a,I,.bor c::ds.map .val,rr,.bor c'::aL,?_,by rw[Qh,u7];rfl,e3,λv H' I' r' g' hv=>?_⟩
    ·have rv:=vg r hd
     exact {
      iH:=r.iH,gH:=Mj
      len:=by rw[F_,F_,OQ,OQ,rv.len]
      slot:=λj qr e=>by
       cases j with
       | zero=>cases e;exact⟨_,rfl,a,xs,rfl,h1,h2,DP,h4⟩
       | succ j =>
        obtain⟨w,e4,e5⟩:=rv.slot j qr (by simpa using e);refine⟨w,by simpa using e4,?_⟩;have e9:((ds.map R.val).map some)[j]?=some (some qr):=e;obtain⟨z,f1,f2⟩:=getMap e9;cases f2;obtain⟨d,f3,rfl⟩:=getMap f1;exact e5
      dist:=λj l qr qo w e e' m m' s1 s2=>by
       have only:∀{j:Nat}{qr:R},((R.bor c::ds.map R.val).map some)[j]?=some (some qr)->qr.ptr=true->j=0:=λ{j qr} e m=>by
        cases j with
        | zero=>rfl
        | succ j =>
         have e9:((ds.map R.val).map some)[j]?=some (some qr):=e;obtain⟨z,f1,f2⟩:=getMap e9;cases f2;obtain⟨d,f3,rfl⟩:=getMap f1;cases m
       rw[only e m,only e' m']
      bor:=λj es e=>rfl }
    ·obtain⟨w,e4,e5⟩:=r'.slot 0 (.bor c') rfl;cases e4;obtain⟨a',bx,e6,f1,f2,f3,f4⟩:=e5;cases e6
     have da:Apart U (Y.set i none) a:=λj r1 z m s=>by
      rcases rG z with⟨_,z',_⟩ | ⟨n,z'⟩
      ·cases z'
      ·exact n (r.dist j i r1 q _ z' hq m hm s gE)
     have r1:=(r.forget i).extBut (q:=a) da h3 h2 f2 g'.up (λb o e n=>r'.gH b o (by rw[sY n];exact e)) r'.iH (λb o e=>by
      rcases g'.new b o e with z | z
      ·exact .inl z
      ·by_cases n:b=a
       ·exact .inr (.inr n)
       ·rw[sY n] at z;exact .inr (.inl z))
     have r2:=r1.learn (i:=i) (q:=q') (v:=.ref a) gE (by rcases hc with⟨_,rfl⟩ | ⟨_,rfl⟩<;>exact⟨a,bx,rfl,f1,f2,h3,f4⟩) (λm p2 e j r' n z m' s=>by
      cases e;exact da j r' z m' s) (λes z=>by
      rcases hc with⟨_,rfl⟩ | ⟨rfl,rfl⟩
      ·cases z
      ·exact r.bor i c hq)
     rw[UT] at r2
     have g2:Grow G I I':=⟨g'.up,λb o e=>by
      rcases g'.new b o e with z | z
      ·exact .inl z
      ·by_cases n:b=a
       ·subst n;exact .inr h3
       ·rw[sY n] at z;exact .inr (r.gFree z)⟩
     refine k v H' I' r2 g2 ?_;cases rr with
     | val d=>exact hv
     | bor d=>exact hv
     | tfr d =>
      obtain⟨p2,ys,b1,b2,b3,b4,b5,b6⟩:=hv;have ne:p2≠a:=λz=>by rw[z,f2] at b2;cases b2
      rw[sY ne] at b3;refine⟨p2,ys,b1,b2,r.gFree b3,b4,λi p e1 e2=>?_,b6⟩;have b5:=b5 i p e1 e2;obtain⟨zs,e2⟩:=e2;have ne:p≠a:=λz=>by rw[z,f2] at e2;cases e2
      rw[sY ne] at b5;exact r.gFree b5
     | fro d =>
      obtain⟨p2,ys,b1,b2,b3,b4⟩:=hv;have ne:p2≠a:=λz=>by rw[z,f2] at b2;cases b2
      rw[sY ne] at b3;exact⟨p2,ys,b1,b2,r.gFree b3,b4⟩
     | dic d =>
      obtain⟨p2,ys,b1,b2,b3,b4,b5,b6⟩:=hv;have ne:p2≠a:=λz=>b5 0 (.bor c') rfl rfl (by rw[z];rfl)
      rw[sY ne] at b4;refine⟨p2,ys,b1,b2,b3,r.gFree b4,λj r3 z m s=>?_,b6⟩
      rcases rG z with⟨rfl,z',_⟩ | ⟨n,z'⟩
      ·rw[gE] at s;cases s;exact ne rfl
      ·exact r.apart b4 j r3 z' m s
     | own d =>
      obtain⟨p2,ys,b1,b2,b3,b4,b5,b6⟩:=hv;have ne:p2≠a:=λz=>b5 0 (.bor c') rfl rfl (by rw[z];rfl)
      rw[sY ne] at b4;refine⟨p2,ys,b1,b2,b3,r.gFree b4,λj r3 z m s=>?_,b6⟩
      rcases rG z with⟨rfl,z',_⟩ | ⟨n,z'⟩
      ·rw[gE] at s;cases s;exact ne rfl
      ·exact r.apart b4 j r3 z' m s
theorem B0{t:M (List D)}(h:callB i g t Y=some (rr,af)):isMut Y i=true/\∃ds ac q q' c c',t Y=some (ds,ac)/\ac[i]?=some (some q)/\((q=.own c/\q'=.own c')\/(q=.bor c/\q'=.bor c'))/\bcF g c ds=some (rr,c')/\af=ac.set i (some q'):=by
 obtain⟨hm,h⟩:=tW h;obtain⟨ds,ac,e1,e2⟩:=qT h;refine⟨hm,ds,ac,?_⟩;cases e:ac[i]? with
 | none=>simp only[e] at e2;cases e2
 | some o =>
  cases o with
  | none=>simp only[e] at e2;cases e2
  | some q =>
   cases q with
   | val d=>simp only[e] at e2;cases e2
   | fro d=>simp only[e] at e2;cases e2
   | tfr d=>simp only[e] at e2;cases e2
   | dic d=>simp only[e] at e2;cases e2
   | own c =>
    simp only[e] at e2;cases e3:bcF g c ds with
    | none=>simp only[e3] at e2;cases e2
    | some z =>
     obtain⟨r0,c'⟩:=z;simp only[e3] at e2;cases e2;exact⟨.own c,.own c',c,c',e1,rfl,.inl ⟨rfl,rfl⟩,e3,rfl⟩
   | bor c =>
    simp only[e] at e2;cases e3:bcF g c ds with
    | none=>simp only[e3] at e2;cases e2
    | some z =>
     obtain⟨r0,c'⟩:=z;simp only[e3] at e2;cases e2;exact⟨.bor c,.bor c',c,c',e1,rfl,.inr ⟨rfl,rfl⟩,e3,rfl⟩
theorem EW{K:PySem.W.Frag}{E:XK}:∀U H Q,tD K B (cbV i g t) U H Q->tCall (spD K g) [] E (tCons (tVar i) (tAD K B t)) U H Q:=λU H Q q=>by
 obtain⟨G,I,Y,d,af,r,e1,kk⟩:=q;obtain⟨rr,gF,e2,e3⟩:=qT e1;obtain⟨e4,rfl⟩:=rp e3;obtain⟨hm,ds,ac,q,q',c,c',f1,f2,f3,f4,rfl⟩:=B0 e2;obtain⟨a,xs,h1,h2⟩:=tH hm r;refine⟨_,h1,G,I,Y,ds,ac,r,f1,λws H1 I1 r1 g1 hd=>?_⟩;show spD K g ((.ref a::ws)++[]) H1 Q E;rw[PY];refine borrow r1 f2 f3 hd h1 f4 λv H' I' r' g' hv=>?_
 cases rr with
 | val d'=>cases e4;exact kk v H' I' r' (g1.trans g') hv
 | own _=>cases e4
 | bor _=>cases e4
 | fro _=>cases e4
 | tfr _=>cases e4
 | dic _=>cases e4
theorem Mr{K:PySem.W.Frag}{E:XK}:∀U H Q,tO K B (cbO i g t) U H Q->tCall (spD K g) [] E (tCons (tVar i) (tAD K B t)) U H Q:=λU H Q q=>by
 obtain⟨G,I,Y,d,af,r,e1,kk⟩:=q;obtain⟨rr,gF,e2,e3⟩:=qT e1;obtain⟨e4,rfl⟩:=rp e3;obtain⟨hm,ds,ac,q,q',c,c',f1,f2,f3,f4,rfl⟩:=B0 e2;obtain⟨a,xs,h1,h2⟩:=tH hm r;refine⟨_,h1,G,I,Y,ds,ac,r,f1,λws H1 I1 r1 g1 hd=>?_⟩;show spD K g ((.ref a::ws)++[]) H1 Q E;rw[PY];refine borrow r1 f2 f3 hd h1 f4 λv H' I' r' g' hv=>?_
 cases rr with
 | own d' =>
  cases e4;obtain⟨p2,ys,rfl,b2,b3,b4,b5,b6⟩:=hv;exact kk p2 ys H' I' r' (g1.trans g') b2 b3 b4 b5 b6
 | val _=>cases e4
 | bor _=>cases e4
 | fro _=>cases e4
 | tfr _=>cases e4
 | dic _=>cases e4
theorem rD(F:FnOk X.prog X.w X.K X.mg X.base CX0 k f fd ps (spD X.K g))(hr:Room k X.A)(hg:Gl X x)(hm:X.mg x=some (.ref f))(hk:Qw X.K (.ref f)=true)(hb:Binds X.K fd ps [])(hv:PE X (.Name y py) (tVar i))(ha:AD X B es t)(bA:(x == ("__debug__":Str))=false:=by decide)(he:g_ (.Name y py::es) X.env=(false,O1 (.Name y py) X.env)::g_ es X.env:=by rfl)(aK:(Pa pos (g_ es X.env)).any (·.1)=false:=by rfl):
  ED X B (.Call (.Name x p) (.Name y py::es) [] pos) (cbV i g t):=PE.imp (wg F hr hg hm hk hb .nil pass0 (ue hv ha he) bA he aK) EW
theorem Lx(F:FnOk X.prog X.w X.K X.mg X.base CX0 k f fd ps (spD X.K g))(hr:Room k X.A)(hg:Gl X x)(hm:X.mg x=some (.ref f))(hk:Qw X.K (.ref f)=true)(hb:Binds X.K fd ps [])(hv:PE X (.Name y py) (tVar i))(ha:AD X B es t)(bA:(x == ("__debug__":Str))=false:=by decide)(he:g_ (.Name y py::es) X.env=(false,O1 (.Name y py) X.env)::g_ es X.env:=by rfl)(aK:(Pa pos (g_ es X.env)).any (·.1)=false:=by rfl):
  EO X B (.Call (.Name x p) (.Name y py::es) [] pos) (cbO i g t):=PE.imp (wg F hr hg hm hk hb .nil pass0 (ue hv ha he) bA he aK) Mr
end
end DL
variable{it:DL.M (List DL.D)}{body:DL.M DL.Fl}{aE:DL.D->DL.M Unit}{B':DL.BB}{gl gh:DL.M (Option Int)}{ts:DL.M Bool}{gv el:DL.M DL.D}
namespace DL
open PySem PySem.Spec PyProof.Rows L2
noncomputable def relab(sc cp:R5):R5:={ sc with names:=sc.names.map λ(n,k)=>if(k == .free&&cp.kind == .function&&cp.names.lookup n == some .cell) then(n,.cell) else(n,k) }
noncomputable def clo(cells:List (Str×l_)):List (Str×Pi)->List (Str×l_)->List (Str×l_)
 | [],ah=>ah
 | (n,k)::r,ah=>if k == .free then clo cells r ((n,(cells.lookup n).getD 0)::ah) else clo cells r ah
theorem Bt{env:Env}(f:Str×Pi->List (Str×l_)->Sem (ForInStep (List (Str×l_))))(hf:∀name kind cs,f (name,kind) cs=if kind == .free then(do let a ←cellOf env name;pure (.yield ((name,a)::cs))) else pure (.yield cs)):
  ∀(names:List (Str×Pi)) (ah:List (Str×l_)),(∀n,(n,Pi.free)∈names->∃c,env.cells.lookup n=some c)->(forIn names ah f:Sem _)=pure (clo env.cells names ah)
 | [],ah,_=>by rw[Q7];rfl
 | (n,k)::r,ah,h=>by
  rw[PZ,hf];unfold clo;have ih:=λlD=>Bt f hf r lD (λn hn=>h n (h_ _ hn))
  by_cases hk:(k == Pi.free)=true
  ·rw[if_pos hk,if_pos hk];have bp:k=.free:=by simpa using hk
   subst bp;obtain⟨c,hc⟩:=h n j_;have e:cellOf env n=pure c:=by unfold cellOf;rw[hc]
   rw[e,hc];simp only[pure_bind,Option.getD_some];exact ih _
  ·rw[if_neg hk,if_neg hk];simp only[pure_bind];exact ih _
theorem Ci(h:∀n,(n,Pi.free)∈scope.names->∃c,env.cells.lookup n=some c):closureFor scope env=pure (clo env.cells scope.names []):=by
 unfold closureFor;dsimp only;rw[Bt (env:=env) _ (λname kind cs=>by cases hk:kind == Pi.free<;>simp[hk]) scope.names [] h];rfl
theorem wK{cells:List (Str×l_)}:∀{names:List (Str×Pi)}{ah:List (Str×l_)}{x:Str}{c:l_},(x,c)∈clo cells names ah->(x,c)∈ah\/((x,Pi.free)∈names/\c=(cells.lookup x).getD 0)
 | [],ah,x,c,h=>.inl h
 | (n,k)::r,ah,x,c,h=>by
  unfold clo at h;by_cases hk:(k == Pi.free)=true
  ·rw[if_pos hk] at h;have bp:k=.free:=by simpa using hk
   subst bp
   rcases wK h with z | ⟨z1,z2⟩
   ·rcases r_.mp z with z | z
    ·cases z;exact .inr ⟨j_,rfl⟩
    ·exact .inl z
   ·exact .inr ⟨h_ _ z1,z2⟩
  ·rw[if_neg hk] at h
   rcases wK h with z | ⟨z1,z2⟩
   ·exact .inl z
   ·exact .inr ⟨h_ _ z1,z2⟩
theorem yj{cells:List (Str×l_)}:∀{names:List (Str×Pi)}{ah:List (Str×l_)}{x:Str},((x,Pi.free)∈names\/∃c,ah.lookup x=some c)->∃c,(clo cells names ah).lookup x=some c
 | [],ah,x,h=>by
  rcases h with h | h
  ·cases h
  ·exact h
 | (n,k)::r,ah,x,h=>by
  unfold clo
  have push:∀c0:l_,(∃c,ah.lookup x=some c)->∃c,((n,c0)::ah).lookup x=some c:=λc0 ⟨c,hc⟩=>by
   rw[List.lookup_cons];cases x == n
   ·exact⟨c,hc⟩
   ·exact⟨c0,rfl⟩
  by_cases hk:(k == Pi.free)=true
  ·rw[if_pos hk];refine yj ?_
   rcases h with h | h
   ·rcases r_.mp h with z | z
    ·cases z;exact .inr ⟨_,by rw[List.lookup_cons,beq_self_eq_true]⟩
    ·exact .inl z
   ·exact .inr (push _ h)
  ·rw[if_neg hk];refine yj ?_
   rcases h with h | h
   ·rcases r_.mp h with z | z
    ·cases z;exact absurd (by rfl) hk
    ·exact .inl z
   ·exact .inr h
structure CompScope(cp sc:R5)(N N':List Str)(m:Nat):Prop where
 kind:sc.kind=.function
 nocell:∀y∈sc.names,y.2≠.cell
 locals:∀y∈sc.names,y.2=.local->sc.names.lookup y.1=some .local
 free:∀y∈sc.names,y.2=.free->cp.names.lookup y.1=some .cell\/cp.names.lookup y.1=some .free
 nd:N'.Nodup
 len:N'.length=m+N.length
 up:∀p∈(N'.drop m).zip N,((relab sc cp).names.lookup p.1=none)\/(p.1=p.2/\(relab sc cp).names.lookup p.1≠some .local)
noncomputable def cxC(X:Cx)(scope:R5)(N':List Str)(C:l_)(s:d_)(H:Hp)(ex:List l_):Cx:=
 { X with N:=N',s₀:=s,H₀:=H,env:=compEnvC scope (clo X.env.cells scope.names []) C X.env,outer:=X.stack,stack:=X.stack,ex:=ex,fn:=λ_=>false,pn:=[],xe:=λ_ _=>False }
def PTs(X:Cx)(a9:List OU)(t:TT):Prop:=
 ∀(aa:List (l_×Obj)) (s:d_) (U:L2.St) (H:Hp) (Q:Bool->Hp->Prop),Inv X aa U H s->t U H Q →
  o_ (s_ X.prog X.w) X.A (forIn a9 true λc r=>if r=true then do let ok ←UW c X.env (O1 c X.env);pure (U_ ok) else pure (U_ r)) (TP X aa U Q) X.xe s
theorem K':PTs X [] (λ_ H Q=>Q true H):=λaa s U H Q I h=>wpAny_tests_nil ⟨H,I,h⟩
theorem J9{c:OU}{t:TT}(h:PT X c t):PTs X [c] t:=λaa s U H Q I q=>wpAny_tests_one (h aa s U H Q I q)
abbrev calm(P:C_)(w:J_)(A:PB){α:Type}(m:Sem α)(Q:α->d_->Prop)(s:d_):Prop:=o_ (s_ P w) A m Q (λ_ _=>False) s
theorem calm.on{P:C_}{w:J_}{α β:Type}{m:Sem α}{f:α->Sem β}{Q:α->d_->Prop}{K:β->d_->Prop}{E:b_->d_->Prop}{s:d_}(h:calm P w A m Q s)(k:∀a s',Q a s'->o_ (s_ P w) A (f a) K E s'):o_ (s_ P w) A (m >>= f) K E s:=
 a_ (Pp h k λ_ _ no=>no.elim)
def TurnMeets(P:C_)(w:J_)(A:PB)(cq iQ:b_)(tg bg:OU)(a9:List OU)(env:Env)(UL aM:d_->Prop)(s:d_):Prop:=
 calm P w A (QF cq) (λeX s=>match eX with
  | none=>aM s
  | some v=>calm P w A (QX tg cq v) (λ_ s=>calm P w A (R8 tg env v) (λ_ s =>
    calm P w A (forIn a9 true λc r=>if r=true then do let ok ←UW c env (O1 c env);pure (U_ ok) else pure (U_ r)) (λjW s =>
     cond jW (calm P w A (O1 bg env) (λx s=>calm P w A (call (.builtin "list.append") [iQ,x]) (λ_ s=>UL s) s) s) (UL s)) s) s) s) s
theorem Ii{P:C_}{w:J_}{aM:Result->d_->Prop}{s:d_}{bg jX:OU}{sc:R5}{aU:Pos}{cq iQ:b_}(W:Nat->d_->Prop)(gG:∀left s,W left s->TurnMeets P w A cq iQ tg bg a9 env (λs'=>∃Va,Va < left/\W Va s') (aM (.ok .next)) s)(left:Nat)(start:W left s):
  Ra (s_ P w) A (.compLoop (.ListComp bg [⟨tg,jX,a9,0⟩] sc aU) 0 cq iQ env) aM s:=by
 refine codeAny_loop rfl W (λleft s here=>?_) left start;have turn:=gG left s here;unfold TurnMeets at turn;refine wpAny_noted ?_;rw[compTurn_list];refine a_ (T3 (turn.on λeX s1 h1=>?_));cases eX with
 | none=>exact c_ h1
 | some v=>exact calm.on h1 λ_ _ h2=>calm.on h2 λ_ _ h3=>calm.on h3 λjW s4 h4=>match jW,h4 with
  | false,h4=>c_ (And.intro rfl h4)
  | true,h4=>a_ (calm.on h4 λ_ _ h5=>calm.on h5 λ_ _ h6=>c_ (c_ (And.intro rfl h6)))
def Clear(X:Cx)(aa:List (l_×Obj))(H:Hp)(C:l_):Prop:=H C=none/\C≠X.env.locals/\X.s₀.heap.objs.size<=C/\(∀x c,X.env.cells.lookup x=some c->c≠C)/\∀p∈X.pn++aa,p.1≠C
theorem Inv.clear{H:Hp}{s:d_}{C:l_}(I:Inv X aa U H s)(c:Clear X aa H C)(hs:I_.SameBut C s.heap h'):Inv X aa U H { s with heap:=h' }:=
 I.turned (t':=s.toks) (λb o hb e=>(hs.2 b hb).trans e) c.1 c.2.1 (.inr c.2.2.1) c.2.2.2.1 c.2.2.2.2
def CompW(m:Nat)(J:It)(g:TG)(tt:TT)(te:TE)(U:L2.St)(H1:Hp)(p:l_)(Q:VK):Prop:=
 ∃W:Nat->Nat->L2.St->Hp->Prop,(∃n,W 0 n (OZ m none++U) (upd H1 p (.lst [])))/\∀i n am H',W i n am H' →
  (J.stop i H'/\Q (.ref p) H')\/(J.go i H'/\∀x H2,J.yld i H' x H2->g x am H2 λaZ H3=>tt aZ H3 λb H4 =>
   if b=true then te aZ H4 λy H5=>∃ah,H5 p=some (.lst ah)/\ah.length < x_/\∃n',n' < n/\W (i+1) n' aZ (upd H5 p (.lst (ah++[y])))
   else ∃n',n' < n/\W (i+1) n' aZ H4)
section
variable{bg:OU}{N':List Str}{g:TG}{tt:TT}{te:TE}
theorem CN{it:l_}{tn:Nat->I_->Prop}{J:It}{Q:VK}{E:b_->d_->Prop}(S:CompScope X.env.scope scope X.N N' m)(hc:X.calm=true)(hg:∀C s H ex,PG (cxC X scope N' C s H ex) tg g)(ht:∀C s H ex,PTs (cxC X scope N' C s H ex) a9 tt)(he:∀C s H ex,PE (cxC X scope N' C s H ex) bg te)(I2:Inv X aa U H2 s2)(T:Turn X.prog X.w X.K tg J fp it tn)(dR:tn 0 s2.heap)(f2:∀b∈fp,FpOk X aa H2 b)(hw:∀p,H2 p=none->CompW m J g tt te U H2 p Q):
  o_ (s_ X.prog X.w) X.A (Vv []) (λah s3=>o_ (s_ X.prog X.w) X.A (newFunctionEnv scope X.env.globals (clo X.env.cells scope.names []) [] X.env.qual none .none (some X.env)) (λcS s4 =>
   Ra (s_ X.prog X.w) X.A (.compStart (.ListComp bg [⟨tg,iter,a9,0⟩] scope pos) 0 (.ref it) ah { cS with scope:=relabel scope X.env })
    (λr s'=>match r with | .ok _=>∃p H' mm,ah=.ref p/\s'.heap.Ns cS.locals mm/\Inv X aa U H' s'/\Clear X aa H' cS.locals/\Q (.ref p) H' | .error _=>False) s4) E s3) E s2:=by
 refine M_ (wpAny_newFunctionEnv S.nocell (by intro y hy;simp at hy) (λh1 jD jE=>?_) S.kind);dsimp only at jD jE ⊢
 -- the new list
 have hp:H2 s2.heap.objs.size=none:=I2.hok.fresh (v_ _);obtain⟨W,⟨n0,w0⟩,turn⟩:=hw _ hp;obtain⟨p,hP⟩:∃p,p=s2.heap.objs.size:=⟨_,rfl⟩;obtain⟨s3,jY⟩:∃s3:d_,s3={ s2 with heap:=s2.heap.push { cls:=.type "list", dict:=none,data:=.seq ([]:List b_).toArray } }:=⟨_,rfl⟩;obtain⟨C,hC⟩:∃C,C=s3.heap.objs.size:=⟨_,rfl⟩;obtain⟨H3,jZ⟩:∃H3,H3=upd H2 p (.lst []):=⟨_,rfl⟩;have h3:s3.heap=s2.heap.push { cls:=.type "list", dict:=none,data:=.seq ([]:List b_).toArray }:=by rw[jY]
 have gI:h1.Ns C (λx=>([]:List (Str×b_)).reverse.lookup x):=by rw[hC,h3];exact jD
 have nS:I_.SameBut C (s3.heap.push { cls:=.type "dict", data:=.dict #[] }) h1:=by rw[hC,h3];exact jE
 rw[←hP] at hp;have nT:W 0 n0 (OZ m none++U) H3:=by rw[jZ,hP];exact w0
 have j0:∀i n am H',W i n am H'->(J.stop i H'/\Q (.ref p) H')\/(J.go i H'/\∀x H2,J.yld i H' x H2->g x am H2 λaZ H3=>tt aZ H3 λb H4 =>
   if b=true then te aZ H4 λy H5=>∃ah,H5 p=some (.lst ah)/\ah.length < x_/\∃n',n' < n/\W (i+1) n' aZ (upd H5 p (.lst (ah++[y])))
   else ∃n',n' < n/\W (i+1) n' aZ H4):=by rw[hP];exact turn
 have I3:Inv X aa U H3 s3:=by
  rw[jZ,jY,hP];exact I2.laid (t':=s2.toks) (λb u e=>e_ _ e) (v_ _) ⟨O5 _,[],0,.nil,t_ _ rfl⟩
 have fK:tn 0 s3.heap:=T.keep _ _ _ dR λb _ o e=>by rw[h3];exact e_ _ e
 have f3:∀b∈fp,FpOk X aa H3 b:=λb hb=>by
  obtain⟨a0,a1⟩:=f2 b hb;refine⟨?_,a1⟩;obtain⟨o,e,_⟩:=T.obj _ _ dR b hb
  have ne:b≠p:=λz=>by
   have:=H_ e;rw[←hP,z] at this;exact PR _ this
  rw[jZ,qX ne];exact a0
 -- the block's context
 have bw:∀x c,(clo X.env.cells scope.names []).lookup x=some c->X.env.cells.lookup x=some c:=λx c e=>by
  rcases wK (mem_of_lookup e) with z | ⟨z1,z2⟩
  ·cases z
  ·obtain⟨c',aJ⟩:=I2.ok.has x (S.free _ z1 rfl);rw[aJ] at z2;rw[z2];exact aJ
 have fB:Clear X aa H3 C:=by
  refine⟨?_,?_,?_,λx c e z=>?_,λq hq z=>?_⟩
  ·exact I3.hok.fresh (Ur hC.symm)
  ·have:=I3.lt;rw[←hC] at this;exact Q_ this
  ·have:=I3.sz;rw[←hC] at this;exact this
  ·obtain⟨v,q⟩:=I3.cell x c e;have:=q.lt;rw[←hC,z] at this;exact PR _ this
  ·have:=H_ (I3.pin q hq).1;rw[←hC,z] at this;exact PR _ this
 have old:∀b o,s3.heap.get? b=some o->h1.get? b=some o:=λb o e=>by
  have ne:b≠C:=λz=>by have:=H_ e;rw[←hC,z] at this;exact PR _ this
  exact(nS.2 b ne).trans (e_ _ e)
 have ok:(cxC X scope N' C s3 H3 fp).Ok:=by
  refine⟨I3.ok.mod,S.kind,I3.ok.glob,I3.ok.blt,Ur hC.symm,λx y c e1 e2=>I3.ok.inj x y c (bw x c e1) (bw y c e2),λx hx=>?_,λx c z=>(nomatch z),λz=>I3.ok.hd z,I3.ok.frames,.inl rfl,λb hb=>⟨λz=>?_,λx c e=>(f3 b hb).2.2.2.2.1 x c (bw x c e)⟩,I3.bs,E_ I3.ok.bsz I3.sz,λb o e hb=>?_,λb hb z=>?_,I3.stack,λb hb=>I3.stkFree b hb⟩
  ·-- has
   have de:(relab scope X.env.scope).names.lookup x=some .cell\/(relab scope X.env.scope).names.lookup x=some .free:=hx
   have mem:∃k,(x,k)∈(relab scope X.env.scope).names/\(k=Pi.cell\/k=Pi.free):=by
    rcases de with z | z
    ·exact⟨_,mem_of_lookup z,.inl rfl⟩
    ·exact⟨_,mem_of_lookup z,.inr rfl⟩
   obtain⟨k,hm,hk⟩:=mem;obtain⟨⟨n1,k1⟩,dF,e1⟩:=z_.mp hm;refine yj (.inl ?_);dsimp only at e1;by_cases hcond:(k1 == Pi.free&&X.env.scope.kind == ScopeKind.function&&X.env.scope.names.lookup n1 == some Pi.cell)=true
   ·rw[if_pos hcond] at e1;cases e1
    have:k1=.free:=by
     simp only[OP,beq_iff_eq] at hcond;exact hcond.1.1
    rw[←this];exact dF
   ·rw[if_neg hcond] at e1;cases e1
    rcases hk with rfl | rfl
    ·exact absurd rfl (S.nocell _ dF)
    ·exact dF
  ·obtain⟨o,e,_⟩:=T.obj _ _ fK b hb;have:=H_ e;rw[←hC] at this;have z':b=C:=z;rw[z'] at this;exact PR _ this
  ·obtain⟨a0,a1,a2,a3,_⟩:=f3 b hb
   rcases a3 with z | z
   ·exact I3.ok.noex b o e z
   ·exact absurd (L_ (H_ e) (E_ I3.ok.bsz z)) (PR _)
  ·have z':=I3.stkSub b z;obtain⟨a0,a1,a2,_⟩:=f3 b hb
   rcases r_.mp z' with e | e
   ·exact a1 e
   ·exact a2 e
 -- the block's first state
 have I4:Inv (cxC X scope N' C s3 H3 fp) [] (OZ m none++U) H3 { s3 with heap:=h1,toks:=s3.toks+([]:List (Str×b_)).length }:=by
  obtain⟨mo,qp,ls⟩:=I3.loc;refine⟨ok,rfl,I3.bare,Un.kept old,⟨_,gI,λi x v e1 e2 e3=>?_⟩,λx c e=>?_,fB.1,λx c e=>I3.freeC x c (bw x c e),λq hq=>absurd (show q∈([]:List (l_×Obj)) from hq) (by simp),I3.hok.kept old,?_⟩
  ·have hi:m<=i:=by
    by_cases z:m<=i
    ·exact z
    ·rw[P8 (by rw[OR];omega),Qg] at e2;split at e2<;>cases e2
   rw[Pt (by rw[OR];exact hi),OR] at e2;have eY:N'[i]?=some x:=e1
   have bX:i - m < X.N.length:=by
    have:=(p_.mp eY).1;rw[S.len] at this;omega
   have e4:(N'.drop m)[i - m]?=some x:=by rw[RC];rw[show m+(i - m)=i from by omega];exact eY
   have e5:X.N[i - m]?=some X.N[i - m]:=f_ bX;have e6:((N'.drop m).zip X.N)[i - m]?=some (x,X.N[i - m]):=by rw[QT];exact⟨e4,e5⟩
   have lE:Vis (relab scope X.env.scope) x:=e3
   rcases S.up _ (K_ e6) with z | ⟨z1,z2⟩
   ·have z':(relab scope X.env.scope).names.lookup x=none:=z
    rcases lE with y | y | y<;>rw[z'] at y<;>cases y
   ·have nU:x=X.N[i - m]:=z1;have nV:(relab scope X.env.scope).names.lookup x≠some .local:=z2
    have lF:(relab scope X.env.scope).names.lookup x=some .cell\/(relab scope X.env.scope).names.lookup x=some .free:=by
     rcases lE with y | y | y
     ·exact absurd y nV
     ·exact .inl y
     ·exact .inr y
    obtain⟨c,fO⟩:=ok.has x lF;have nW:=bw x c fO
    -- the name in the def's own frame
    have mem:(x,Pi.free)∈scope.names:=by
     rcases wK (mem_of_lookup fO) with y | ⟨y,_⟩
     ·cases y
     ·exact y
    have lG:Vis X.env.scope x:=by
     rcases S.free _ mem rfl with y | y
     ·exact .inr (.inl y)
     ·exact .inr (.inr y)
    obtain⟨u,ru,l⟩:=ls (i - m) x v (by rw[e5,←nU]) e2 lG;refine⟨u,ru,.inr ⟨lF,c,fO,?_⟩⟩
    rcases l with⟨k,_⟩ | ⟨_,c',e',z'⟩
    ·have k':X.env.scope.names.lookup x=some .local:=k
     rcases S.free _ mem rfl with y | y<;>(have y':X.env.scope.names.lookup x=_:=y;rw[k'] at y';cases y')
    ·rw[nW] at e';cases e';exact z'.keeps old
  ·obtain⟨v,q⟩:=I3.cell x c (bw x c e);exact⟨v,q.keeps old⟩
  ·show(OZ m none++U).length=N'.length;rw[y_,OR,S.len,I3.len]
 have cN:∀{H':Hp},(∀b∈fp,H' b=none)->∀b∈fp,FpOk (cxC X scope N' C s3 H3 fp) [] H' b:=λ{H'} hn b hb=>by
  refine⟨hn b hb,(ok.exf b hb).1,ok.exfs b hb,.inl hb,(ok.exf b hb).2,λq hq=>absurd (show q∈([]:List (l_×Obj)) from hq) (by simp)⟩
 -- what stands behind the block
 have back:∀{am:L2.St}{H':Hp}{s':d_},Inv (cxC X scope N' C s3 H3 fp) [] am H' s'->Inv X aa U H' s'/\Clear X aa H' C:=λ{am H' s'} J'=>by
  refine⟨I3.call' J'.os J'.base J'.hok J'.bare λb hb=>?_,J'.free,fB.2⟩;obtain⟨a0,a1,a2,a3,a4,a5⟩:=f3 b hb;exact⟨a3,a1,a4,a5⟩
 have bV:∀s4:d_,s4={ s3 with heap:=h1,toks:=s3.toks+([]:List (Str×b_)).length } →
   Ra (s_ X.prog X.w) X.A (.compLoop (.ListComp bg [⟨tg,iter,a9,0⟩] scope pos) 0 (.ref it) (.ref p) (compEnvC scope (clo X.env.cells scope.names []) C X.env))
    (λr s'=>match r with | .ok _=>∃p' H' mm,b_.ref p=.ref p'/\s'.heap.Ns C mm/\Inv X aa U H' s'/\Clear X aa H' C/\Q (.ref p') H' | .error _=>False) s4:=by
  rintro s4 rfl;refine Ii (λn s'=>∃i am H',Inv (cxC X scope N' C s3 H3 fp) [] am H' s'/\tn i s'.heap/\(∀b∈fp,H' b=none)/\W i n am H') ?_ n0 ⟨0,_,_,I4,T.keep _ _ _ fK λb _ o e=>old b o e,λb hb=>(f3 b hb).1,nT⟩;rintro n s5 ⟨i,eW,H5,I5,fL,iJ,w5⟩;show TurnMeets _ _ _ _ _ _ _ _ _ _ _ _;unfold TurnMeets
  rcases j0 i n eW H5 w5 with⟨stop,qn⟩ | ⟨go,step⟩
  ·refine Pp (T.done (cxC X scope N' C s3 H3 fp) rfl rfl rfl hc i [] s5 eW H5 (λ_ _=>False) I5 (cN iJ) fL stop) (λr s6 ⟨hr,I6⟩=>?_) λ_ _ z=>z
   subst hr;obtain⟨mm,nX,_⟩:=I6.loc;obtain⟨b1,b2⟩:=back I6;exact⟨p,H5,mm,rfl,nX,b1,b2,qn⟩
  ·refine Pp (T.item (cxC X scope N' C s3 H3 fp) rfl rfl rfl hc i [] s5 eW H5 (λ_ _=>False) I5 (cN iJ) fL go) (λr s6 ⟨u,hr,h6⟩=>?_) λ_ _ z=>z
   subst hr;refine Pp h6 (λ_ s7 ⟨x,H7,I7,r7,y7,j3,nY⟩=>?_) λ_ _ z=>z
   have nZ:=I7.pinned (cN nY) (T.obj _ _ j3);refine Pp (hg C s3 H3 fp _ s7 eW H7 x u _ nZ r7 (step x H7 y7)) (λ_ s8 ⟨gJ,H8,I8,q8⟩=>?_) λ_ _ z=>z
   refine Pp (ht C s3 H3 fp _ s8 gJ H8 _ I8 q8) (λok s9 ⟨H9,I9,q9⟩=>?_) λ_ _ z=>z
   have UL:∀{lH:L2.St}{Ha:Hp}{sa:d_},Inv (cxC X scope N' C s3 H3 fp) ([]++pinsAt fp s7.heap) lH Ha sa->tn (i+1) sa.heap/\(∀b∈fp,Ha b=none):=λ{lH Ha sa} Ia=>by
    refine⟨T.keep _ _ _ j3 λb hb o e=>(Ia.pin (b,o) (OH _ (OH _ (v9 hb e)))).1,λb hb=>?_⟩;obtain⟨o,e,d⟩:=T.obj _ _ j3 b hb;exact(Ia.pin (b,o) (OH _ (OH _ (v9 hb e)))).2.1
   cases ok with
   | false =>
    rw[if_neg k_] at q9;obtain⟨n',fZ,w9⟩:=q9;obtain⟨a1,a2⟩:=UL I9;exact⟨n',fZ,i+1,gJ,H9,I9.unpinned,a1,a2,w9⟩
   | true =>
    rw[if_pos rfl] at q9;refine Pp (he C s3 H3 fp _ s9 gJ H9 _ I9 q9) (λxv n3 ⟨y,lI,n4,n5,ah,lJ,hl,n',fZ,n6⟩=>?_) λ_ _ z=>z
    refine Pp (DR (X:=cxC X scope N' C s3 H3 fp) _ n3 gJ lI (.ref p) [y] (.ref p) [xv] (λ_ H'=>H'=upd lI p (.lst (ah++[y]))) n4 rfl (.cons n5 .nil) ⟨p,ah,y,rfl,rfl,lJ,hl,rfl⟩) (λ_ qq ⟨qt,qu,lK,_,n9⟩=>?_) λ_ _ z=>z
    subst n9;obtain⟨a1,a2⟩:=UL lK;exact⟨n',fZ,i+1,gJ,_,lK.unpinned,a1,a2,n6⟩
 subst hC;subst jY;subst hP;refine codeAny_compStart_list ?_ (T.self X.A 0 _ _ _ (T.keep _ _ _ fK λb _ o e=>old b o e) ?_)
 ·exact bV _ rfl
 ·exact bV _ rfl
end
section
variable{bg:OU}{N':List Str}{g:TG}{tt:TT}{te:TE}{wi:TI}
noncomputable def tComp(m:Nat)(wi:TI)(g:TG)(tt:TT)(te:TE):TE:=λU H Q=>wi U H λJ H1=>∀p,H1 p=none->CompW m J g tt te U H1 p Q
theorem EG(S:CompScope X.env.scope scope X.N N' m)(hc:X.calm=true)(hi:PI X tg iter wi)(hg:∀C s H ex,PG (cxC X scope N' C s H ex) tg g)(ht:∀C s H ex,PTs (cxC X scope N' C s H ex) a9 tt)(he:∀C s H ex,PE (cxC X scope N' C s H ex) bg te)(hs:∀x,Pq iter X.env x=pure x:=by intros;rfl):PE X (.ListComp bg [⟨tg,iter,a9,0⟩] scope pos) (tComp m wi g tt te):=by
 intro aa s U H Q I h;rw[eval_ListComp];refine SH (use:=none) rfl hs (Ci λn hn=>I.ok.has n (S.free _ hn rfl)) S.kind S.locals (thn (hi aa s U H _ I h) λxv s1 h1=>thn h1 λiI s2 h2=>?_);obtain⟨it,fp,tn,J,H2,e,I2,T,dR,f2,hw⟩:=h2;subst e;refine thn (CN (pos:=pos) (iter:=iter) S hc hg ht he I2 T dR f2 hw) λah s3 h3=>thn h3 λcS s4 h4=>QN h4 λr s5 h5=>?_
 cases r with
 | error x=>exact h5.elim
 | ok fl =>
  obtain⟨p,H5,mm,rfl,hn,I5,cl,q⟩:=h5;exact⟨mm,hn,λh' df=>⟨.ref p,H5,Inv.clear I5 cl df,rfl,q⟩⟩
theorem Cg(S:CompScope X.env.scope scope X.N N' m)(hc:X.calm=true)(hN:X.N.Nodup)(ba:X.N[i]?=some y)(hy:X.env.scope.names.lookup y=some .local)(hi:PI X tg iter wi)(hg:∀C s H ex,PG (cxC X scope N' C s H ex) tg g)(ht:∀C s H ex,PTs (cxC X scope N' C s H ex) a9 tt)(he:∀C s H ex,PE (cxC X scope N' C s H ex) bg te)(gK:Pu (.ListComp bg [⟨tg,iter,a9,0⟩] scope pos) (some (.Name y py)) cz.line X.env=pure true)(hs:∀x,Pq iter X.env x=pure x:=by intros;rfl):PS X (.Assign [.Name y py] (.ListComp bg [⟨tg,iter,a9,0⟩] scope pos) cz) (tAsg (tComp m wi g tt te) (gName i)):=by
 intro aa s U H D I h;rw[exec_Assign_Name_used _ _ _ _ gK];refine a_ (T3 (a_ ?_));show o_ _ X.A (do let _ ←comprehension (.ListComp bg [⟨tg,iter,a9,0⟩] scope pos) scope X.env _ (Vv []) false (O1 iter X.env) (some (R8 (.Name y py) X.env))) _ _ s
 refine a_ (thn (SH (use:=some (R8 (.Name y py) X.env)) (Q:=λ_ s'=>SP X aa D .next s') rfl hs (Ci λn hn=>I.ok.has n (S.free _ hn rfl)) S.kind S.locals
  (thn (hi aa s U H _ I h) λxv s1 h1=>thn h1 λiI s2 h2=>?_)) λ_ s' hq=>c_ (c_ hq))
 obtain⟨it,fp,tn,J,H2,e,I2,T,dR,f2,hw⟩:=h2;subst e;refine thn (CN (pos:=pos) (iter:=iter) S hc hg ht he I2 T dR f2 hw) λah s3 h3=>thn h3 λcS s4 h4=>QN h4 λr s5 h5=>?_
 cases r with
 | error x=>exact h5.elim
 | ok fl =>
  obtain⟨p,H5,mm,rfl,hn,I5,cl,q⟩:=h5;show o_ _ X.A (R8 (.Name y py) X.env (.ref p)) _ _ s5;refine Uk (Ca (v:=.ref p) I5 hN ba (.inl hy) rfl (λs6 I6 ⟨a,oe,ha⟩=>?_) (.inr hy))
  have fJ:cS.locals≠a:=by
   rcases ha with rfl | ha
   ·exact cl.2.1
   ·exact λz=>cl.2.2.2.1 y a ha z.symm
  refine⟨mm,hn.sameBut oe fJ,λh' df=>?_⟩;have og:Clear X aa H5 cS.locals:=cl;exact⟨_,H5,Inv.clear I6 og df,q⟩
end
noncomputable def inC{α:Type}(m:Nat)(g:M α):M α:=λY=>match g (OZ m none++Y) with
 | some (a,af)=>some (a,af.drop m)
 | none=>none
noncomputable def compM(aE:D->M Unit)(ts:M Bool)(el:M D):List D->M (List D)
 | []=>ret []
 | d::ds=>bnd (aE d) λ_=>bnd ts λb=>if b then bnd el λx=>bnd (compM aE ts el ds) λr=>ret (x::r) else compM aE ts el ds
noncomputable def compO(m:Nat)(it:M (List D))(aE:D->M Unit)(ts:M Bool)(el:M D):M (List D):=bnd it λds=>if ds.length<=lim then inC m (compM aE ts el ds) else λ_=>none
noncomputable def bUp(m:Nat)(B:BB):BB:=λi=>if i < m then none else B (i - m)
theorem Fx{α:Type}{g:M α}{a:α}(h:inC m g Y=some (a,af)):∃ac,g (OZ m none++Y)=some (a,ac)/\af=ac.drop m:=by
 unfold inC at h;cases e:g (OZ m none++Y) with
 | none=>rw[e] at h;cases h
 | some q=>obtain⟨b,ac⟩:=q;rw[e] at h;cases h;exact⟨ac,rfl,rfl⟩
section
variable{K:PySem.W.Frag}{B:BB}{H:Hp}{am:L2.St}
theorem uy{α:Type}{l:List (Option α)}{m:Nat}{a:α}(h:(OZ m (none:Option α)++l)[i]?=some (some a)):m<=i/\l[i - m]?=some (some a):=by
 by_cases hi:m<=i
 ·rw[Pt (by rw[OR];exact hi),OR] at h;exact⟨hi,h⟩
 ·rw[P8 (by rw[OR];omega),Qg] at h;split at h<;>cases h
theorem DI{α:Type}{l:List (Option α)}{m:Nat}(hi:m<=i):(OZ m (none:Option α)++l)[i]?=l[i - m]?:=by
 rw[Pt (by rw[OR];exact hi),OR]
theorem Rep.up(r:Rep K B G I H U Y)(m:Nat):Rep K (bUp m B) G I H (OZ m none++U) (OZ m none++Y) where
 iH:=r.iH
 gH:=r.gH
 len:=by rw[y_,y_,OR,OR,r.len]
 slot:=λi q e=>by
  obtain⟨hi,e1⟩:=uy e;obtain⟨v,e2,e3⟩:=r.slot _ q e1;exact⟨v,by rw[DI hi];exact e2,e3⟩
 dist:=λi j q q' v e e' mm j4 s1 s2=>by
  obtain⟨hi,e1⟩:=uy e;obtain⟨hj,e2⟩:=uy e';have:=r.dist _ _ q q' v e1 e2 mm j4 (uy s1).2 (uy s2).2;omega
 bor:=λi ds e=>by
  obtain⟨hi,e1⟩:=uy e;rw[DI hi,r.bor _ ds e1];unfold bUp;rw[if_neg (by omega)]
theorem Rep.down(r:Rep K (bUp m B) G I H am af)(hs:am.drop m=U):Rep K B G I H U (af.drop m):=by
 subst hs
 exact {
  iH:=r.iH,gH:=r.gH
  len:=by rw[RJ,RJ,r.len]
  slot:=λi q e=>by
   rw[RC] at e;obtain⟨v,e2,e3⟩:=r.slot _ q e;exact⟨v,by rw[RC];exact e2,e3⟩
  dist:=λi j q q' v e e' mm j4 s1 s2=>by
   rw[RC] at e e' s1 s2;have:=r.dist _ _ q q' v e e' mm j4 s1 s2;omega
  bor:=λi ds e=>by
   rw[RC] at e ⊢;rw[r.bor _ ds e];unfold bUp;rw[if_neg (by omega)]
   congr 1
   omega }
theorem Rep.guard(r:Rep K B G I H U Y){p:l_}(h:H p=none)(o:HO):Rep K B (upd G p o) I (upd H p o) U Y where
 iH:=r.iH.trans (rN h o)
 gH:=CZ r.gH o
 len:=r.len
 slot:=λi q e=>by
  obtain⟨v,e1,e2⟩:=r.slot i q e;refine⟨v,e1,?_⟩
  have mt:∀ds,Mt K G I H ds v->Mt K (upd G p o) I (upd H p o) ds v:=λds hh=>by
   obtain⟨p2,xs,h1,h2,h3,h4,h5⟩:=hh;have ne:p2≠p:=sK h2 h;exact⟨p2,xs,h1,by rw[qX ne];exact h2,h3,by rw[qX ne];exact h4,h5⟩
  cases q with
  | val d=>exact e2
  | dic ds =>
   obtain⟨p2,xs,h1,h2,h3,h4,h5⟩:=e2;have ne:p2≠p:=sK h2 h;exact⟨p2,xs,h1,by rw[qX ne];exact h2,h3,by rw[qX ne];exact h4,h5⟩
  | own ds=>exact mt ds e2
  | bor ds=>exact mt ds e2
  | tfr ds=>exact e2.elim
  | fro ds =>
   obtain⟨p2,xs,f1,f2,f3,f4⟩:=e2;have ne:p2≠p:=sK (r.iH _ _ f2) h;exact⟨p2,xs,f1,f2,by rw[qX ne];exact f3,f4⟩
 dist:=r.dist
 bor:=r.bor
theorem Rep.reguard{p:l_}{o':HO}(r:Rep K B (upd G p o) I H U Y)(hi:I p=none):Rep K B (upd G p o') I (upd H p o') U Y where
 iH:=λb u q=>by
  have ne:b≠p:=λz=>by subst z;rw[hi] at q;cases q
  rw[qX ne];exact r.iH b u q
 gH:=λb u q=>by
  by_cases e:b=p
  ·subst e;rw[rn] at q ⊢;exact q
  ·rw[qX e] at q ⊢;exact r.gH b u (by rw[qX e];exact q)
 len:=r.len
 slot:=λi q e=>by
  obtain⟨v,e1,e2⟩:=r.slot i q e;refine⟨v,e1,?_⟩
  have mt:∀ds,Mt K (upd G p o) I H ds v->Mt K (upd G p o') I (upd H p o') ds v:=λds hh=>by
   obtain⟨p2,xs,h1,h2,h3,h4,h5⟩:=hh;have ne:p2≠p:=λz=>by subst z;rw[rn] at h4;cases h4
   rw[qX ne] at h4;exact⟨p2,xs,h1,by rw[qX ne];exact h2,h3,by rw[qX ne];exact h4,h5⟩
  cases q with
  | val d=>exact e2
  | dic ds =>
   obtain⟨p2,xs,h1,h2,h3,h4,h5⟩:=e2;have ne:p2≠p:=λz=>by subst z;rw[rn] at h4;cases h4
   rw[qX ne] at h4;exact⟨p2,xs,h1,by rw[qX ne];exact h2,h3,by rw[qX ne];exact h4,h5⟩
  | own ds=>exact mt ds e2
  | bor ds=>exact mt ds e2
  | tfr ds=>exact e2.elim
  | fro ds =>
   obtain⟨p2,xs,f1,f2,f3,f4⟩:=e2;have ne:p2≠p:=λz=>by rw[z,hi] at f2;cases f2
   rw[qX ne] at f3;exact⟨p2,xs,f1,f2,by rw[qX ne];exact f3,f4⟩
 dist:=r.dist
 bor:=r.bor
theorem Rep.unguard{p:l_}(r:Rep K B (upd G p o) I H U Y)(hg:G p=none):Rep K B G I H U Y/\Apart U Y p:=by
 have ap:Apart U Y p:=λj q e mm s=>by
  obtain⟨v,e1,e2⟩:=r.slot j q e;obtain⟨p2,xs,h1,h2,h3,h4⟩:=e2.mt mm;rw[e1,h1] at s;cases s;rw[rn] at h4;cases h4
 refine⟨{ iH:=r.iH,gH:=(rN hg o).trans r.gH,len:=r.len,slot:=λi q e=>?_,dist:=r.dist,bor:=r.bor },ap⟩;obtain⟨v,e1,e2⟩:=r.slot i q e;refine⟨v,e1,?_⟩
 have mt:∀ds,Mt K (upd G p o) I H ds v->Mt K G I H ds v:=λds hh=>by
  obtain⟨p2,xs,h1,h2,h3,h4,h5⟩:=hh;have ne:p2≠p:=λz=>by subst z;rw[rn] at h4;cases h4
  rw[qX ne] at h4;exact⟨p2,xs,h1,h2,h3,h4,h5⟩
 cases q with
 | val d=>exact e2
 | dic ds =>
  obtain⟨p2,xs,h1,h2,h3,h4,h5⟩:=e2;have ne:p2≠p:=λz=>by subst z;rw[rn] at h4;cases h4
  rw[qX ne] at h4;exact⟨p2,xs,h1,h2,h3,h4,h5⟩
 | own ds=>exact mt ds e2
 | bor ds=>exact mt ds e2
 | tfr ds=>exact e2.elim
 | fro ds =>
  obtain⟨p2,xs,f1,f2,f3,f4⟩:=e2;have ne:p2≠p:=λz=>by rw[z,rn] at f3;cases f3
  rw[qX ne] at f3;exact⟨p2,xs,f1,f2,f3,f4⟩
theorem Grow.unguard{p:l_}(g:Grow (upd G p o) I I'):Grow G I I':=⟨g.up,λb u q=>by
 rcases g.new b u q with z | z
 ·exact .inl z
 ·by_cases e:b=p
  ·subst e;rw[rn] at z;cases z
  ·rw[qX e] at z;exact .inr z⟩
theorem Grow.keepsOut{p:l_}(g:Grow (upd G p o) I I')(hi:I p=none):I' p=none:=by
 cases e:I' p with
 | none=>rfl
 | some u =>
  rcases g.new p u e with z | z
  ·rw[hi] at z;cases z
  ·rw[rn] at z;cases z
end
section
variable{B:BB}{bg:OU}{N':List Str}
def TDs(X:Cx)(B:BB)(a9:List OU)(g:M Bool):Prop:=PTs X a9 (tTD X.K B g)
theorem sy:TDs X B [] (ret true):=λaa s U H Q I h=>K' aa s U H Q I (by
 obtain⟨G,I,Y,b,af,r,e1,k⟩:=h;cases e1
 exact k _ _ r (Grow.refl _ _))
theorem sH{c:OU}{g:M Bool}(h:TD X B c g):TDs X B [c] g:=J9 h
theorem yC{K:PySem.W.Frag}:∀U H Q,tO K B (compO m it aE ts el) U H Q->tComp m (tI K B it) (tGD K (bUp m B) m aE) (tTD K (bUp m B) ts) (tD K (bUp m B) el) U H Q:=λU H Q q=>by
 obtain⟨G,I,Y,rs,af,r,e1,k⟩:=q;obtain⟨ds,ac,e2,e3⟩:=qT e1;by_cases fC:ds.length<=lim
 case neg=>rw[if_neg fC] at e3;cases e3
 rw[if_pos fC] at e3;obtain⟨cF,e4,rfl⟩:=Fx e3;refine⟨G,I,Y,ds,ac,r,e2,λJ H1 I1 r1 g1 y p hp=>?_⟩;have gp:=r1.gFree hp;have ip:=r1.iFree hp
 refine⟨λi n am H'=>∃ah ad I2 aj ak,Rep K (bUp m B) (upd G p (.lst ah)) I2 H' am aj/\Grow G I1 I2/\I2 p=none/\IsA K I2 ad ah/\am.drop m=U/\compM aE ts el (ds.drop i) aj=some (ak,cF)/\ad++ak=rs/\ad.length<=i/\i<=ds.length/\n=ds.length - i,
  ⟨ds.length,[],[],I1,_,rs,(r1.up m).guard hp _,Grow.refl _ _,ip,IsA.nil,by rw[List.drop_append_of_le_length (by simp),Rg (by simp),List.nil_append],by simpa using e4,rfl,O5 _,O5 _,rfl⟩,?_⟩
 rintro i n aZ H2 ⟨ah,ad,I2,aj,ak,r2,g2,j5,ha,hs,e5,rfl,qv,hi,rfl⟩;obtain⟨yg,ys⟩:=y i H2 (g2.up.trans r2.iH);by_cases bB:i < ds.length
 ·have hd:ds.drop i=ds[i]::ds.drop (i+1):=O3 bB;obtain⟨go,yld⟩:=yg ds[i] (f_ bB);rw[hd,compM] at e5;obtain⟨u,aR,e6,e7⟩:=qT e5;obtain⟨b,aW,e8,e9⟩:=qT e7;refine .inr ⟨go,λx H3 hy=>?_⟩
  have main:∀I3,Rep K (bUp m B) (upd G p (.lst ah)) I3 H3 aZ aj->Grow (upd G p (.lst ah)) I2 I3->Is K I3 ds[i] x->tGD K (bUp m B) m aE x aZ H3 λaZ H3=>tTD K (bUp m B) ts aZ H3 λb H4 =>
    if b=true then tD K (bUp m B) el aZ H4 λy H5=>∃ah,H5 p=some (.lst ah)/\ah.length < x_/\∃n',n' < ds.length - i/\∃acc_1 ad_1 I2 aj rest_1,Rep K (bUp m B) (upd G p (.lst acc_1)) I2 (upd H5 p (.lst (ah++[y]))) aZ aj/\Grow G I1 I2/\I2 p=none/\IsA K I2 ad_1 acc_1/\aZ.drop m=U/\compM aE ts el (ds.drop (i+1)) aj=some (rest_1,cF)/\ad_1++rest_1=ad++ak/\ad_1.length<=i+1/\i+1<=ds.length/\n'=ds.length - (i+1)
    else ∃n',n' < ds.length - i/\∃ah ad_1 I2 aj rest_1,Rep K (bUp m B) (upd G p (.lst ah)) I2 H4 aZ aj/\Grow G I1 I2/\I2 p=none/\IsA K I2 ad_1 ah/\aZ.drop m=U/\compM aE ts el (ds.drop (i+1)) aj=some (rest_1,cF)/\ad_1++rest_1=ad++ak/\ad_1.length<=i+1/\i+1<=ds.length/\n'=ds.length - (i+1):=by
   intro I3 r3 g3 hx;refine⟨_,I3,aj,ds[i],aR,r3,hx,e6,λlB H4 I4 r4 g4 oh=>⟨_,I4,aR,b,aW,r4,e8,λH5 I5 r5 g5=>?_⟩⟩;have iR:=g3.trans (g4.trans g5);have df:lB.drop m=U:=oh.trans hs;cases b with
   | false =>
    refine iteF ⟨ds.length - (i+1),by omega,ah,ad,I5,aW,ak,r5,g2.trans iR.unguard,iR.keepsOut j5,ha.mono iR.up,df,by simpa using e9,rfl,by omega,bB,rfl⟩
   | true =>
    simp only[if_true] at e9;obtain⟨xd,dY,f1,f2⟩:=qT e9;obtain⟨rr,gL,f3,f4⟩:=qT f2;cases f4;refine iteT ⟨_,I5,aW,xd,dY,r5,f1,λyv H6 I6 r6 g6 oj=>⟨ah,r6.gH _ _ rn,?_,ds.length - (i+1),by omega,ah++[yv],ad++[xd],I6,dY,rr,?_⟩⟩
    ·rw[←ha.length];have h1:lim < x_:=by rw[Pf];decide
     omega
    ·have j6:=iR.trans g6;have lM:=j6.keepsOut j5;exact⟨r6.reguard lM,g2.trans j6.unguard,lM,IsA.append (ha.mono j6.up) (IsA.cons oj IsA.nil),df,f3,by rw[P_];rfl,by rw[y_,Qx];omega,bB,rfl⟩
  rcases yld x H3 hy with⟨rfl,hx⟩ | ⟨p2,es,xs,dC,rfl,dE,rfl,hx⟩
  ·exact main I2 r2 (Grow.refl _ _) (hx.mono g2.up)
  ·refine main _ (r2.alloc dE _) (r2.growAlloc dE _) ?_;rw[dC];exact Is.tup rn ((hx.mono g2.up).mono (rN (r2.iFree dE) _))
 ·have bX:i=ds.length:=by omega
  subst bX;rw[List.drop_length] at e5;cases e5;rw[PY] at k;refine .inl ⟨ys (v_ _),?_⟩;have rd:=Rep.down r2 hs;obtain⟨ru,ap⟩:=rd.unguard gp;exact k p ah H2 I2 ru (g1.trans g2) (r2.gH _ _ rn) j5 gp ap ha
theorem rQ(S:CompScope X.env.scope scope X.N N' m)(hc:X.calm=true)(hi:ITD X B tg iter it)(hg:∀C s H ex,GD (cxC X scope N' C s H ex) (bUp m B) m tg aE)(ht:∀C s H ex,TDs (cxC X scope N' C s H ex) (bUp m B) a9 ts)(he:∀C s H ex,ED (cxC X scope N' C s H ex) (bUp m B) bg el)(hs:∀x,Pq iter X.env x=pure x:=by intros;rfl):EO X B (.ListComp bg [⟨tg,iter,a9,0⟩] scope pos) (compO m it aE ts el):=PE.imp (EG (g:=tGD X.K (bUp m B) m aE) (tt:=tTD X.K (bUp m B) ts) (te:=tD X.K (bUp m B) el) S hc hi hg ht he hs) yC
theorem yU(S:CompScope X.env.scope scope X.N N' m)(hc:X.calm=true)(hN:X.N.Nodup)(hi:ITD X B tg iter it)(hg:∀C s H ex,GD (cxC X scope N' C s H ex) (bUp m B) m tg aE)(ht:∀C s H ex,TDs (cxC X scope N' C s H ex) (bUp m B) a9 ts)(he:∀C s H ex,ED (cxC X scope N' C s H ex) (bUp m B) bg el)(ba:X.N[i]?=some y:=by rfl)(hy:X.env.scope.names.lookup y=some .local:=by rfl)(gK:Pu (.ListComp bg [⟨tg,iter,a9,0⟩] scope pos) (some (.Name y py)) cz.line X.env=pure true:=by rfl)(hs:∀x,Pq iter X.env x=pure x:=by intros;rfl):SD X B (.Assign [.Name y py] (.ListComp bg [⟨tg,iter,a9,0⟩] scope pos) cz) (setV i (frz (compO m it aE ts el))):=PS.imp (Cg (g:=tGD X.K (bUp m B) m aE) (tt:=tTD X.K (bUp m B) ts) (te:=tD X.K (bUp m B) el) S hc hN ba hy hi hg ht he gK hs) λE U H q=>by
 obtain⟨G,I,Y,f,af,r,e1,k⟩:=q;obtain⟨d1,ac,e2,e3⟩:=qT e1;obtain⟨d2,aj,e4,e5⟩:=qT e3;cases e5;obtain⟨hl,rfl⟩:=tZ e4;obtain⟨ds,aR,e6,e7⟩:=qT e2;cases e7;refine yC U H _ ⟨G,I,Y,ds,_,r,e6,λp xs H1 I1 r1 g1 h1 h2 h3 h4 h5=>?_⟩;refine k _ H1 _ ((r1.freeze h1 h2 h4).store (by rw[r1.len];exact hl) (Is.lst (RdK.of rn) (h5.mono (rN h2 _))) (λm=>nomatch m) (λ_ z=>nomatch z)) (g1.trans (growFreeze h2 h3))
end
mutual
noncomputable def deq:D->D->Bool
 | .non,.non=>true
 | .bl a,.bl b=>a == b
 | .bl a,.int j=>(if a then(1:Int) else 0) == j
 | .int i,.bl b=>i == (if b then(1:Int) else 0)
 | .int i,.int j=>i == j
 | .str x,.str y=>x == y
 | .tup xs,.tup ys=>deqA xs ys
 | .lst xs,.lst ys=>deqA xs ys
 | _,_=>false
noncomputable def deqA:List D->List D->Bool
 | [],[]=>true
 | x::xs,y::ys=>deq x y&&deqA xs ys
 | _,_=>false
end
mutual
noncomputable def dep:D->Nat
 | .tup xs=>depA xs+1
 | .lst xs=>depA xs+1
 | _=>0
noncomputable def depA:List D->Nat
 | []=>0
 | x::xs=>max (dep x) (depA xs)
end
mutual
theorem sg:∀a:D,deq a a=true
 | .non=>by rw[deq]
 | .bl b=>by rw[deq];exact beq_self_eq_true b
 | .int b=>by rw[deq];exact beq_self_eq_true b
 | .str b=>by rw[deq];exact beq_self_eq_true b
 | .tup xs=>by rw[deq];exact u9 xs
 | .lst xs=>by rw[deq];exact u9 xs
theorem u9:∀a:List D,deqA a a=true
 | []=>by rw[deqA]
 | x::xs=>by rw[deqA,sg x,u9 xs];rfl
end
theorem sM:∀{xs:List D}{x:D},x∈xs->dep x<=depA xs
 | y::ys,x,h=>by
  rw[depA]
  rcases r_.mp h with rfl | h
  ·omega
  ·have:=sM h;omega
theorem vO:∀(xs ys:List D),((Pk (min xs.length ys.length)).all (λj=>deq (xs.getD j .non) (ys.getD j .non))&&(xs.length == ys.length))=deqA xs ys
 | [],[]=>by rw[deqA];rfl
 | [],y::ys=>by rw[deqA]<;>simp
 | x::xs,[]=>by rw[deqA]<;>simp
 | x::xs,y::ys=>by
  have ih:=vO xs ys;have e:min (x::xs).length (y::ys).length=min xs.length ys.length+1:=by simp only[OQ];omega
  rw[deqA,←ih,e,QC,Qh,List.all_map]
  have e2:((x::xs).length == (y::ys).length)=(xs.length == ys.length):=by
   simp only[OQ];cases h:xs.length == ys.length
   ·simp at h ⊢;omega
   ·simp at h ⊢;omega
  rw[e2,Bool.and_assoc];rfl
theorem G9{xs:List D}(h:xs.length≠ys.length):deqA xs ys=false:=by
 rw[←vO];have:(xs.length == ys.length)=false:=by simpa using h
 rw[this,Ts]
section
variable{H:Hp}{s:d_}
theorem IsA.getU{K:PySem.W.Frag}(h:IsA K I ds xs)(r:Vals xs us)(hj:j < us.toArray.size):∃v,RelV v us.toArray[j]/\Is K I (ds.getD j .non) v:=by
 have h1:=h.length;have h2:=r.length;have bq:j < us.length:=by simpa using hj
 have hd:ds[j]?=some ds[j]:=f_ (by omega);obtain⟨v,e1,e2⟩:=h.get hd;obtain⟨u,e3,e4⟩:=r.get e1
 have e5:us.toArray[j]=u:=by
  rw[f_ bq] at e3;simpa using e3
 refine⟨v,by rw[e5];exact e4,?_⟩;rw[i_,hd];exact e2
theorem rdL{K:PySem.W.Frag}(h:RdK K H a xs):SqL K H a xs:=h.sq
mutual
theorem vm(I:Inv X aa U H s):∀{a b:D}{v:V},Is X.K H a v->Is X.K H b v->a=b
 | .non,b,v,h,h'=>by
  have e:=sv h;subst e;cases b<;>first | rfl | (rw[Is] at h';obtain⟨_,_,e,_⟩:=h';cases e) | (rw[Is] at h';cases h')
 | .bl x,b,v,h,h'=>by
  have e:=r9 h;subst e;cases b<;>first | (rw[Is] at h';obtain⟨_,_,e,_⟩:=h';cases e) | (rw[Is] at h';cases h';rfl) | (rw[Is] at h';cases h')
 | .int x,b,v,h,h'=>by
  have e:=qZ h;subst e;cases b<;>first | (rw[Is] at h';obtain⟨_,_,e,_⟩:=h';cases e) | (rw[Is] at h';cases h';rfl) | (rw[Is] at h';cases h')
 | .str x,b,v,h,h'=>by
  have e:=sr h;subst e;cases b<;>first | (rw[Is] at h';obtain⟨_,_,e,_⟩:=h';cases e) | (rw[Is] at h';cases h';rfl) | (rw[Is] at h';cases h')
 | .tup ds,b,v,h,h'=>by
  obtain⟨p,xs,rfl,h1,h2⟩:=rm h;cases b with
  | tup es =>
   obtain⟨p',bx,e,h3,h4⟩:=rm h';cases e;have:=I.tuple_inj h1 h3;subst this;rw[yW I h2 h4]
  | lst es =>
   obtain⟨p',bx,e,h3,h4⟩:=rl h';cases e;obtain⟨i1,_,t1,_⟩:=I.tuple h1;obtain⟨i2,_,t2,_⟩:=I.list (rdL h3);exact absurd rfl (ne_of_list_tuple t2.isList t1)
  | _=>rw[Is] at h';cases h'
 | .lst ds,b,v,h,h'=>by
  obtain⟨p,xs,rfl,h1,h2⟩:=rl h;cases b with
  | lst es =>
   obtain⟨p',bx,e,h3,h4⟩:=rl h';cases e;have:=I.list_inj (rdL h1) (rdL h3);subst this;rw[yW I h2 h4]
  | tup es =>
   obtain⟨p',bx,e,h3,h4⟩:=rm h';cases e;obtain⟨i1,_,t1,_⟩:=I.tuple h3;obtain⟨i2,_,t2,_⟩:=I.list (rdL h1);exact absurd rfl (ne_of_list_tuple t2.isList t1)
  | _=>rw[Is] at h';cases h'
theorem yW(I:Inv X aa U H s):∀{a b:List D}{v:List V},IsA X.K H a v->IsA X.K H b v->a=b
 | [],b,v,h,h'=>by
  have e:=h.nil_inv;subst e;cases b with
  | nil=>rfl
  | cons d r=>obtain⟨_,_,e,_⟩:=h'.cons_inv;cases e
 | d::ds,b,v,h,h'=>by
  obtain⟨x,r,rfl,h1,h2⟩:=h.cons_inv;cases b with
  | nil=>have:=h'.nil_inv;cases this
  | cons e es =>
   obtain⟨x',r',e',h3,h4⟩:=h'.cons_inv;cases e';rw[vm I h1 h3,yW I h2 h4]
end
open PySem.SeqAt in
theorem BU(I:Inv X aa U H s)(hu:A.units < PK){a b:D}{x y:V}{v:b_}(ha:Is X.K H a x)(hb:Is X.K H b y)(ru:RelV x u)(rv:RelV y v)(ht:∀xs ys,a=.tup xs->b=.tup ys->RcAt A s u v (deq a b)/\Vn A s u v (deq a b)/\UH A s u v (!deq a b))(hl:∀xs ys,a=.lst xs->b=.lst ys->RcAt A s u v (deq a b)/\Vn A s u v (deq a b)/\UH A s u v (!deq a b)):RcAt A s u v (deq a b)/\Vn A s u v (deq a b)/\UH A s u v (!deq a b):=by
 cases a with
 | non =>
  have e:=sv ha;subst e;cases ru;cases b with
  | non=>have e:=sv hb;subst e;cases rv;rw[deq];exact⟨.none_none,.same _,.none_none⟩
  | bl j=>have e:=r9 hb;subst e;cases rv;rw[deq]<;>first | exact⟨.none_bool _,.none_bool _,.none_bool _⟩ | (intros;contradiction)
  | int j=>have e:=qZ hb;subst e;obtain⟨t,rfl⟩:=rv;rw[deq]<;>first | exact⟨.none_int _ _,.none_int _ _,.none_int _ _⟩ | (intros;contradiction)
  | str j=>have e:=sr hb;subst e;obtain⟨t,rfl⟩:=rv;rw[deq]<;>first | exact⟨.none_str _ _,.none_str _ _,.none_str _ _⟩ | (intros;contradiction)
  | tup j =>
   obtain⟨p,xs,rfl,h1,h2⟩:=rm hb;cases rv;obtain⟨ae,_,t,_⟩:=I.tuple h1;rw[deq]<;>first | exact⟨.none_tuple t hu,.none_tuple t hu,.none_tuple t hu⟩ | (intros;contradiction)
  | lst j =>
   obtain⟨p,xs,rfl,h1,h2⟩:=rl hb;cases rv;obtain⟨ae,_,t,_⟩:=I.list (rdL h1);have t:=t.isList;rw[deq]<;>first | exact⟨.none_list t hu,.none_list t hu,.none_list t hu⟩ | (intros;contradiction)
 | bl i =>
  have e:=r9 ha;subst e;cases ru;cases b with
  | non=>have e:=sv hb;subst e;cases rv;rw[deq]<;>first | exact⟨.bool_none _,.bool_none _,.bool_none _⟩ | (intros;contradiction)
  | bl j=>have e:=r9 hb;subst e;cases rv;rw[deq];exact⟨.bool_bool _ _,.bool_bool _ _,.bool_bool _ _⟩
  | int j=>have e:=qZ hb;subst e;obtain⟨t,rfl⟩:=rv;rw[deq];exact⟨.bool_int _ _ _,.bool_int _ _ _,.bool_int _ _ _⟩
  | str j=>have e:=sr hb;subst e;obtain⟨t,rfl⟩:=rv;rw[deq]<;>first | exact⟨.bool_str _ _ _,.bool_str _ _ _,.bool_str _ _ _⟩ | (intros;contradiction)
  | tup j =>
   obtain⟨p,xs,rfl,h1,h2⟩:=rm hb;cases rv;obtain⟨ae,_,t,_⟩:=I.tuple h1;rw[deq]<;>first | exact⟨.bool_tuple _ t hu,.bool_tuple _ t hu,.bool_tuple _ t hu⟩ | (intros;contradiction)
  | lst j =>
   obtain⟨p,xs,rfl,h1,h2⟩:=rl hb;cases rv;obtain⟨ae,_,t,_⟩:=I.list (rdL h1);have t:=t.isList;rw[deq]<;>first | exact⟨.bool_list _ t hu,.bool_list _ t hu,.bool_list _ t hu⟩ | (intros;contradiction)
 | int i =>
  have e:=qZ ha;subst e;obtain⟨t0,rfl⟩:=ru;cases b with
  | non=>have e:=sv hb;subst e;cases rv;rw[deq]<;>first | exact⟨.int_none _ _,.int_none _ _,.int_none _ _⟩ | (intros;contradiction)
  | bl j=>have e:=r9 hb;subst e;cases rv;rw[deq];exact⟨.int_bool _ _ _,.int_bool _ _ _,.int_bool _ _ _⟩
  | int j=>have e:=qZ hb;subst e;obtain⟨t,rfl⟩:=rv;rw[deq];exact⟨.int_int _ _ _ _,.int_int _ _ _ _,.int_int _ _ _ _⟩
  | str j=>have e:=sr hb;subst e;obtain⟨t,rfl⟩:=rv;rw[deq]<;>first | exact⟨.int_str _ _ _ _,.int_str _ _ _ _,.int_str _ _ _ _⟩ | (intros;contradiction)
  | tup j =>
   obtain⟨p,xs,rfl,h1,h2⟩:=rm hb;cases rv;obtain⟨ae,_,t,_⟩:=I.tuple h1;rw[deq]<;>first | exact⟨.int_tuple _ _ t hu,.int_tuple _ _ t hu,.int_tuple _ _ t hu⟩ | (intros;contradiction)
  | lst j =>
   obtain⟨p,xs,rfl,h1,h2⟩:=rl hb;cases rv;obtain⟨ae,_,t,_⟩:=I.list (rdL h1);have t:=t.isList;rw[deq]<;>first | exact⟨.int_list _ _ t hu,.int_list _ _ t hu,.int_list _ _ t hu⟩ | (intros;contradiction)
 | str i =>
  have e:=sr ha;subst e;obtain⟨t0,rfl⟩:=ru;cases b with
  | non=>have e:=sv hb;subst e;cases rv;rw[deq]<;>first | exact⟨.str_none _ _,.str_none _ _,.str_none _ _⟩ | (intros;contradiction)
  | bl j=>have e:=r9 hb;subst e;cases rv;rw[deq]<;>first | exact⟨.str_bool _ _ _,.str_bool _ _ _,.str_bool _ _ _⟩ | (intros;contradiction)
  | int j=>have e:=qZ hb;subst e;obtain⟨t,rfl⟩:=rv;rw[deq]<;>first | exact⟨.str_int _ _ _ _,.str_int _ _ _ _,.str_int _ _ _ _⟩ | (intros;contradiction)
  | str j=>have e:=sr hb;subst e;obtain⟨t,rfl⟩:=rv;rw[deq];exact⟨.str_str _ _ _ _,.str_str _ _ _ _,.str_str _ _ _ _⟩
  | tup j =>
   obtain⟨p,xs,rfl,h1,h2⟩:=rm hb;cases rv;obtain⟨ae,_,t,_⟩:=I.tuple h1;rw[deq]<;>first | exact⟨.str_tuple _ _ t hu,.str_tuple _ _ t hu,.str_tuple _ _ t hu⟩ | (intros;contradiction)
  | lst j =>
   obtain⟨p,xs,rfl,h1,h2⟩:=rl hb;cases rv;obtain⟨ae,_,t,_⟩:=I.list (rdL h1);have t:=t.isList;rw[deq]<;>first | exact⟨.str_list _ _ t hu,.str_list _ _ t hu,.str_list _ _ t hu⟩ | (intros;contradiction)
 | tup i =>
  obtain⟨q,ys,rfl,g1,g2⟩:=rm ha;cases ru;obtain⟨aY,_,t',_⟩:=I.tuple g1;cases b with
  | non=>have e:=sv hb;subst e;cases rv;rw[deq]<;>first | exact⟨.tuple_none t' hu,.tuple_none t' hu,.tuple_none t' hu⟩ | (intros;contradiction)
  | bl j=>have e:=r9 hb;subst e;cases rv;rw[deq]<;>first | exact⟨.tuple_bool _ t' hu,.tuple_bool _ t' hu,.tuple_bool _ t' hu⟩ | (intros;contradiction)
  | int j=>have e:=qZ hb;subst e;obtain⟨t,rfl⟩:=rv;rw[deq]<;>first | exact⟨.tuple_int _ _ t' hu,.tuple_int _ _ t' hu,.tuple_int _ _ t' hu⟩ | (intros;contradiction)
  | str j=>have e:=sr hb;subst e;obtain⟨t,rfl⟩:=rv;rw[deq]<;>first | exact⟨.tuple_str _ _ t' hu,.tuple_str _ _ t' hu,.tuple_str _ _ t' hu⟩ | (intros;contradiction)
  | tup j=>exact ht _ _ rfl rfl
  | lst j =>
   obtain⟨p,xs,rfl,h1,h2⟩:=rl hb;cases rv;obtain⟨ae,_,t,_⟩:=I.list (rdL h1);have t:=t.isList;rw[deq]<;>first | exact⟨.tuple_list t' t hu,.tuple_list t' t hu,.tuple_list t' t hu⟩ | (intros;contradiction)
 | lst i =>
  obtain⟨q,ys,rfl,g1,g2⟩:=rl ha;cases ru;obtain⟨aY,_,t',_⟩:=I.list (rdL g1);have t':=t'.isList;cases b with
  | non=>have e:=sv hb;subst e;cases rv;rw[deq]<;>first | exact⟨.list_none t' hu,.list_none t' hu,.list_none t' hu⟩ | (intros;contradiction)
  | bl j=>have e:=r9 hb;subst e;cases rv;rw[deq]<;>first | exact⟨.list_bool _ t' hu,.list_bool _ t' hu,.list_bool _ t' hu⟩ | (intros;contradiction)
  | int j=>have e:=qZ hb;subst e;obtain⟨t,rfl⟩:=rv;rw[deq]<;>first | exact⟨.list_int _ _ t' hu,.list_int _ _ t' hu,.list_int _ _ t' hu⟩ | (intros;contradiction)
  | str j=>have e:=sr hb;subst e;obtain⟨t,rfl⟩:=rv;rw[deq]<;>first | exact⟨.list_str _ _ t' hu,.list_str _ _ t' hu,.list_str _ _ t' hu⟩ | (intros;contradiction)
  | lst j=>exact hl _ _ rfl rfl
  | tup j =>
   obtain⟨p,xs,rfl,h1,h2⟩:=rm hb;cases rv;obtain⟨ae,_,t,_⟩:=I.tuple h1;rw[deq]<;>first | exact⟨.list_tuple t' t hu,.list_tuple t' t hu,.list_tuple t' t hu⟩ | (intros;contradiction)
open PySem.SeqAt in
theorem uB(I:Inv X aa U H s):∀(n:Nat) (A:PB),A.units+n < PK->∀(a b:D) (x y:V) (u v:b_),dep a<=n\/dep b<=n->Is X.K H a x->Is X.K H b y->RelV x u->RelV y v->RcAt A s u v (deq a b)/\Vn A s u v (deq a b)/\UH A s u v (!deq a b):=by
 intro n
 induction n with
 | zero =>
  intro A hu a b x y u v hd ha hb ru rv;refine BU I (by omega) ha hb ru rv (λxs ys e1 e2=>?_) (λxs ys e1 e2=>?_)<;>(subst e1;subst e2;rw[dep,dep] at hd;omega)
 | succ n ih =>
  intro A hu a b x y u v hd ha hb ru rv;have eZ:A.in1.units+n < PK:=by show A.units+1+n < PK;omega
  refine BU I (by omega) ha hb ru rv (λds es e1 e2=>?_) (λds es e1 e2=>?_)
  ·subst e1;subst e2;obtain⟨p,xs,rfl,h1,h2⟩:=rm ha;obtain⟨q,ys,rfl,h3,h4⟩:=rm hb;cases ru;cases rv;obtain⟨ae,r1,t1,_⟩:=I.tuple h1;obtain⟨aY,r2,t2,_⟩:=I.tuple h3;have l1:ae.toArray.size=ds.length:=by rw[q_,←r1.length,h2.length]
   have l2:aY.toArray.size=es.length:=by rw[q_,←r2.length,h4.length]
   have hk:∀j (g1:j < ae.toArray.size) (g2:j < aY.toArray.size),Vn A.in1 s ae.toArray[j] aY.toArray[j] (deq (ds.getD j .non) (es.getD j .non)):=λj g1 g2=>by
    obtain⟨v1,q1,q2⟩:=h2.getU r1 g1;obtain⟨v2,q3,q4⟩:=h4.getU r2 g2;refine(ih A.in1 eZ _ _ _ _ _ _ ?_ q2 q4 q1 q3).2.1
    have m1:ds.getD j .non∈ds:=by
     rw[i_,f_ (by omega)];exact Pg _
    have m2:es.getD j .non∈es:=by
     rw[i_,f_ (by omega)];exact Pg _
    have k1:=sM m1;have k2:=sM m2;rw[dep,dep] at hd;omega
   have re:((Pk (min ae.toArray.size aY.toArray.size)).all (λj=>deq (ds.getD j .non) (es.getD j .non))&&ae.toArray.size == aY.toArray.size)=deqA ds es:=by
    rw[l1,l2];exact vO ds es
   have R1:=RcAt.tuples (A:=A) t1 t2 (by omega) hk;have R3:=UH.tuples (A:=A) t1 t2 (by omega) hk;rw[re] at R1 R3;have ed:deq (.tup ds) (.tup es)=deqA ds es:=by rw[deq]
   rw[ed];refine⟨R1,?_,R3⟩;by_cases hpq:p=q
   ·subst hpq;have:=vm I ha hb;cases this;rw[u9];exact .same _
   ·exact .of_refs hpq R1
  ·subst e1;subst e2;obtain⟨p,xs,rfl,h1,h2⟩:=rl ha;obtain⟨q,ys,rfl,h3,h4⟩:=rl hb;cases ru;cases rv;obtain⟨ae,r1,t1,_⟩:=I.list (rdL h1);obtain⟨aY,r2,t2,_⟩:=I.list (rdL h3);have t1:=t1.isList;have t2:=t2.isList;have l1:ae.toArray.size=ds.length:=by rw[q_,←r1.length,h2.length]
   have l2:aY.toArray.size=es.length:=by rw[q_,←r2.length,h4.length]
   have ed:deq (.lst ds) (.lst es)=deqA ds es:=by rw[deq]
   rw[ed]
   have fin:RcAt A s (.ref p) (.ref q) (deqA ds es)/\UH A s (.ref p) (.ref q) (!deqA ds es):=by
    by_cases hl:ds.length=es.length
    ·have hk:∀j (g1:j < ae.toArray.size) (g2:j < aY.toArray.size),Vn A.in1 s ae.toArray[j] aY.toArray[j] (deq (ds.getD j .non) (es.getD j .non)):=λj g1 g2=>by
      obtain⟨v1,q1,q2⟩:=h2.getU r1 g1;obtain⟨v2,q3,q4⟩:=h4.getU r2 g2;refine(ih A.in1 eZ _ _ _ _ _ _ ?_ q2 q4 q1 q3).2.1
      have m1:ds.getD j .non∈ds:=by
       rw[i_,f_ (by omega)];exact Pg _
      have m2:es.getD j .non∈es:=by
       rw[i_,f_ (by omega)];exact Pg _
      have k1:=sM m1;have k2:=sM m2;rw[dep,dep] at hd;omega
     have re:(Pk ae.toArray.size).all (λj=>deq (ds.getD j .non) (es.getD j .non))=deqA ds es:=by
      rw[←vO ds es,l1,hl,Nat.min_self,beq_self_eq_true,Ua]
     have R1:=RcAt.lists (A:=A) t1 t2 (by omega) (by omega) hk;have R3:=UH.lists (A:=A) t1 t2 (by omega) (by omega) hk;rw[re] at R1 R3;exact⟨R1,R3⟩
    ·rw[G9 hl];have dG:(ae.toArray.size != aY.toArray.size)=true:=by rw[l1,l2];simpa using hl
     exact⟨.lists_lengths t1 t2 dG (by omega),.lists_lengths t1 t2 dG (by omega)⟩
   refine⟨fin.1,?_,fin.2⟩;by_cases hpq:p=q
   ·subst hpq;have:=vm I ha hb;cases this;rw[u9];exact .same _
   ·exact .of_refs hpq fin.1
noncomputable def rEqD(K:PySem.W.Frag)(neg:Bool):R2:=λx y H Q=>∃a b,Is K H a x/\Is K H b y/\(dep a<=100\/dep b<=100)/\Q (.bl (if neg then !deq a b else deq a b)) H
theorem xp(hu:X.A.units+100 < PK):OpR X (O7 .Eq) (rEqD X.K false):=by
 intro aa s U H x y v u Q I rx ry h;obtain⟨a,b,h1,h2,h3,q⟩:=h;exact(uB I 100 X.A hu a b x y v u h3 h1 h2 rx ry).1 _ _ _ _ ⟨.bl (deq a b),H,I,rfl,q⟩
theorem yF(hu:X.A.units+100 < PK):OpR X (O7 .NotEq) (rEqD X.K true):=by
 intro aa s U H x y v u Q I rx ry h;obtain⟨a,b,h1,h2,h3,q⟩:=h;exact(uB I 100 X.A hu a b x y v u h3 h1 h2 rx ry).2.2 _ _ _ _ ⟨.bl (!deq a b),H,I,rfl,q⟩
noncomputable def rInD(K:PySem.W.Frag)(neg:Bool):R2:=λx y H Q=>∃a ds,Is K H a x/\(Is K H (.lst ds) y\/Is K H (.tup ds) y)/\(dep a<=99)/\Q (.bl (if neg then !ds.any (λd=>deq d a) else ds.any λd=>deq d a)) H
theorem Mm{K:PySem.W.Frag}{f:D->Bool}{e:b_->Bool}(h:IsA K H ds xs)(r:Vals xs us)(hf:∀d v u,d∈ds->Is K H d v->RelV v u->e u=f d):us.any e=ds.any f:=by
 induction ds generalizing xs us with
 | nil=>have:=h.nil_inv;subst this;cases r;rfl
 | cons d ds ih =>
  obtain⟨x,xr,rfl,h1,h2⟩:=h.cons_inv;cases r with
  | cons r1 r2 =>
   rw[RK,RK,hf d _ _ j_ h1 r1,ih h2 r2 λd v u hd=>hf d v u (h_ _ hd)]
theorem BI(hu:X.A.units+100 < PK){aa:List (l_×Obj)}{U:L2.St}{H:Hp}{s:d_}{x y:V}{v:b_}{Q:VK}(I:Inv X aa U H s)(rx:RelV x v)(ry:RelV y u)(h:rInD X.K neg x y H Q):
  ∃(ae:Array b_) (e:b_->Bool) (l:l_),u=.ref l/\(s.heap.IsList l ae\/s.heap.IsTuple l ae)/\(∀z,z∈ae->PySem.SeqAt.EqAt X.A.in1 s z v (e z))/\Q (.bl (if neg then !ae.any e else ae.any e)) H:=by
 obtain⟨a,ds,h1,h2,h3,q⟩:=h;have eZ:X.A.in1.units+99 < PK:=by show X.A.units+1+99 < PK;omega
 -- every item has ae data: e reads it fP
 have key:∀(xs:List V) (ae:List b_),IsA X.K H ds xs->Vals xs ae->∃e:b_->Bool,(∀z,z∈ae.toArray->PySem.SeqAt.EqAt X.A.in1 s z v (e z))/\ae.toArray.any e=ds.any λd=>deq d a:=by
  intro xs ae ha r
  have ex:∀z:b_,∃b:Bool,∀d w,d∈ds->Is X.K H d w->RelV w z->b=deq d a:=λz=>by
   by_cases hz:∃d w,d∈ds/\Is X.K H d w/\RelV w z
   ·obtain⟨d,w,hd,hi,hr⟩:=hz;refine⟨deq d a,λd' w' cg ba om=>?_⟩;have:=RelV.inj hr om;subst this;rw[vm I hi ba]
   ·exact⟨false,λd w hd hi hr=>absurd ⟨d,w,hd,hi,hr⟩ hz⟩
  refine⟨λz=>(ex z).choose,λz hz=>?_,?_⟩
  ·have oo:z∈ae:=by simpa using hz
   obtain⟨j,hj,ej⟩:=List.mem_iff_getElem.mp oo;obtain⟨w,q1,q2⟩:=ha.getU r (j:=j) (by simpa using hj)
   have lN:RelV w z:=by
    have:ae.toArray[j]'(by simpa using hj)=z:=by simpa using ej
    rw[←this];exact q1
   have hm:ds.getD j .non∈ds:=by
    have l1:=ha.length;have l2:=r.length;rw[i_,f_ (by omega)];exact Pg _
   show PySem.SeqAt.EqAt X.A.in1 s z v (ex z).choose;rw[(ex z).choose_spec _ w hm q2 lN];exact(uB I 99 X.A.in1 eZ _ a w x z v (.inr h3) q2 h1 lN rx).2.1
  ·have:ae.toArray.any (λz=>(ex z).choose)=ae.any (λz=>(ex z).choose):=by simp
   rw[this];exact Mm ha r λd w z hd hi hr=>(ex z).choose_spec d w hd hi hr
 rcases h2 with h2 | h2
 ·obtain⟨l,xs,rfl,g1,g2⟩:=rl h2;cases ry;obtain⟨ae,r,t,_⟩:=I.list (rdL g1);obtain⟨e,k1,k2⟩:=key xs ae g2 r;exact⟨ae.toArray,e,l,rfl,.inl t.isList,k1,by rw[k2];exact q⟩
 ·obtain⟨l,xs,rfl,g1,g2⟩:=rm h2;cases ry;obtain⟨ae,r,t,_⟩:=I.tuple g1;obtain⟨e,k1,k2⟩:=key xs ae g2 r;exact⟨ae.toArray,e,l,rfl,.inr t,k1,by rw[k2];exact q⟩
theorem BV(hu:X.A.units+100 < PK):OpR X (O7 .In) (rInD X.K false):=by
 intro aa s U H x y v u Q I rx ry h;obtain⟨ae,e,l,rfl,hl,he,q⟩:=BI hu I rx ry h
 rcases hl with hl | hl
 ·exact PySem.SeqAt.in_listAt e hl he ⟨.bl (ae.any e),H,I,rfl,q⟩
 ·exact PySem.SeqAt.in_tupleAt e hl he ⟨.bl (ae.any e),H,I,rfl,q⟩
theorem Kj(hu:X.A.units+100 < PK):OpR X (O7 .NotIn) (rInD X.K true):=by
 intro aa s U H x y v u Q I rx ry h;obtain⟨ae,e,l,rfl,hl,he,q⟩:=BI hu I rx ry h
 rcases hl with hl | hl
 ·exact PySem.SeqAt.notIn_listAt e hl he ⟨.bl (!ae.any e),H,I,rfl,q⟩
 ·exact PySem.SeqAt.notIn_tupleAt e hl he ⟨.bl (!ae.any e),H,I,rfl,q⟩
end
end DL
set_option exponentiation.threshold 2000
namespace DL
open PySem PySem.Spec PyProof.Rows L2
noncomputable def intF(C:Int->Int->Bool)(g:Int->Int->D)(a b:D):Option D:=match a,b with
 | .int i,.int j=>if C i j then some (g i j) else none
 | _,_=>none
theorem xS{g:Int->Int->D}{a b:D}(h:intF C g a b=some d):∃i j,a=.int i/\b=.int j/\C i j=true/\d=g i j:=by
 unfold intF at h;split at h
 ·obtain⟨h1,h2⟩:=rJ h;exact⟨_,_,rfl,rfl,h1,h2⟩
 ·cases h
noncomputable def tt2(_ _:Int):Bool:=true
theorem od_I{K:PySem.W.Frag}{C:Int->Int->Prop}{c:Int->Int->Bool}{g:Int->Int->Int}(hc:∀i j,c i j=true->C i j):OpD K (rI C λi j=>.int (g i j)) (intF c λi j=>.int (g i j)):=λa b d e B G I H U Y x y Q r hx hy k=>by
 obtain⟨i,j,rfl,rfl,h,rfl⟩:=xS e;exact⟨i,j,qZ hx,qZ hy,hc i j h,k.now r (Is.int _)⟩
theorem LZ{K:PySem.W.Frag}{g:Int->Int->Int}:OpD K (rI0 λi j=>.int (g i j)) (intF tt2 λi j=>.int (g i j)):=λa b d e B G I H U Y x y Q r hx hy k=>by
 obtain⟨i,j,rfl,rfl,h,rfl⟩:=xS e;exact⟨i,j,qZ hx,qZ hy,k.now r (Is.int _)⟩
theorem tu{K:PySem.W.Frag}{g:Int->Int->Bool}:OpD K (rI0 λi j=>.bl (g i j)) (intF tt2 λi j=>.bl (g i j)):=λa b d e B G I H U Y x y Q r hx hy k=>by
 obtain⟨i,j,rfl,rfl,h,rfl⟩:=xS e;exact⟨i,j,qZ hx,qZ hy,k.now r (Is.bl _)⟩
noncomputable def subI:D->D->Option D:=intF tt2 λi j=>.int (i - j)
noncomputable def mulI:D->D->Option D:=intF (λi j=>decide ((-(2 ^ 64) < i/\i < 2 ^ 64)\/(-(2 ^ 64) < j/\j < 2 ^ 64))) λi j=>.int (i*j)
noncomputable def modI:D->D->Option D:=intF (λ_ j=>decide (0 < j)) λi j=>.int (i % j)
noncomputable def divI:D->D->Option D:=intF (λ_ j=>decide (0 < j/\j < 2 ^ 200)) λi j=>.int (i / j)
noncomputable def powI:D->D->Option D:=intF (λi j=>decide (0<=j/\j<=1000000/\i.natAbs < 2 ^ 64)) λi j=>.int (i ^ j.toNat)
noncomputable def ltI:D->D->Option D:=intF tt2 λi j=>.bl (decide (i < j))
noncomputable def leI:D->D->Option D:=intF tt2 λi j=>.bl (decide (i<=j))
noncomputable def gtI:D->D->Option D:=intF tt2 λi j=>.bl (decide (j < i))
noncomputable def geI:D->D->Option D:=intF tt2 λi j=>.bl (decide (j<=i))
section
variable{B:BB}{a b c:OU}{es:List OU}{ga gb gc:M D}
theorem u6(ha:ED X B a ga)(hb:ED X B b gb):ED X B (.BinOp a .Sub b pos) (op2 subI ga gb):=uI EV LZ ha hb
theorem sA(ha:ED X B a ga)(hb:ED X B b gb):ED X B (.BinOp a .Mult b pos) (op2 mulI ga gb):=uI Jb (od_I (C:=CMul) λi j h=>(of_decide_eq_true h:_\/_)) ha hb
theorem sL(ha:ED X B a ga)(hb:ED X B b gb):ED X B (.BinOp a .Mod b pos) (op2 modI ga gb):=uI Ku (od_I λi j h=>of_decide_eq_true h) ha hb
theorem xZ(ha:ED X B a ga)(hb:ED X B b gb):ED X B (.BinOp a .Pow b pos) (op2 powI ga gb):=uI IZ (od_I (C:=CPow) λi j h=>(of_decide_eq_true h:_/\_/\_)) ha hb
def CDivW(i j:Int):Prop:=0 < j/\j < 2 ^ 200
theorem EZ:OpR X (Qe .FloorDiv) (rI CDivW λi j=>.int (i / j)):=opI λi j _ _ _ _ _ hc q=>by
 have h1:(0:Int) < j:=hc.1
 have h2:j.natAbs < 2 ^ 200:=by
  have:=hc.2;omega
 have h4:j.natAbs.log2 < 9000:=by
  have h5:j.natAbs.log2 < 200:=(Nat.log2_lt (by omega)).mpr h2;omega
 refine floordiv_int (by omega) ?_ (.inl (PyProof.noPylong_of_log2 h4));rw[Int.fdiv_eq_ediv_of_nonneg _ (Us h1)];exact q
theorem Hm(ha:ED X B a ga)(hb:ED X B b gb):ED X B (.BinOp a .FloorDiv b pos) (op2 divI ga gb):=uI EZ (od_I (C:=CDivW) λi j h=>(of_decide_eq_true h:_/\_)) ha hb
theorem B9(ha:ED X B a ga)(hb:ED X B b gb):ED X B (.Compare a [.LtE] [b] pos) (op2 leI ga gb):=vN w4 tu ha hb (nomark _)
theorem uY(ha:ED X B a ga)(hb:ED X B b gb):TD X B (.Compare a [.Lt] [b] pos) (tst (op2 ltI ga gb)):=sO Dk tu ha hb (nomark _)
theorem yL(ha:ED X B a ga)(hb:ED X B b gb):TD X B (.Compare a [.Gt] [b] pos) (tst (op2 gtI ga gb)):=sO Kn tu ha hb (nomark _)
theorem Gv(ha:ED X B a ga)(hb:ED X B b gb):TD X B (.Compare a [.GtE] [b] pos) (tst (op2 geI ga gb)):=sO Hh tu ha hb (nomark _)
theorem J3(ha:ED X B a ga)(hb:ED X B b gb)(hc:ED X B c gc)(hm:SN [.LtE,.LtE] [b,c]=false:=by with_unfolding_all rfl):ED X B (.Compare a [.LtE,.LtE] [b,c] pos) (chn leI leI ga gb gc):=Fz w4 tu w4 tu ha hb hc hm
theorem Ks(ha:ED X B a ga)(hb:ED X B b gb)(hc:ED X B c gc)(hm:SN [.LtE,.Lt] [b,c]=false:=by with_unfolding_all rfl):TD X B (.Compare a [.LtE,.Lt] [b,c] pos) (tst (chn leI ltI ga gb gc)):=Il w4 tu Dk tu ha hb hc hm
noncomputable def eqF(neg:Bool)(a b:D):Option D:=if dep a<=100\/dep b<=100 then some (.bl (if neg then !deq a b else deq a b)) else none
theorem xi{K:PySem.W.Frag}:OpD K (rEqD K neg) (eqF neg):=λa b d e B G I H U Y x y Q r hx hy k=>by
 obtain⟨h1,rfl⟩:=rJ e;exact⟨a,b,hx.mono r.iH,hy.mono r.iH,h1,k.now r (Is.bl _)⟩
variable {kr:Nat}
theorem hu100(hr:Room k A):A.units+100 < PK:=by have:=hr.un;omega
theorem Ex(hr:Room kr X.A)(ha:ED X B a ga)(hb:ED X B b gb):ED X B (.Compare a [.Eq] [b] pos) (op2 (eqF false) ga gb):=vN (xp (hu100 hr)) xi ha hb (nomark _)
theorem Iv(hr:Room kr X.A)(ha:ED X B a ga)(hb:ED X B b gb):ED X B (.Compare a [.NotEq] [b] pos) (op2 (eqF true) ga gb):=vN (yF (hu100 hr)) xi ha hb (nomark _)
theorem sh(hr:Room kr X.A)(ha:ED X B a ga)(hb:ED X B b gb):TD X B (.Compare a [.Eq] [b] pos) (tst (op2 (eqF false) ga gb)):=sO (xp (hu100 hr)) xi ha hb (nomark _)
theorem rX(hr:Room kr X.A)(ha:ED X B a ga)(hb:ED X B b gb):TD X B (.Compare a [.NotEq] [b] pos) (tst (op2 (eqF true) ga gb)):=sO (yF (hu100 hr)) xi ha hb (nomark _)
noncomputable def inF(neg:Bool)(a b:D):Option D:=match seqI b with
 | some ds=>if dep a<=99 then some (.bl (if neg then !ds.any (λd=>deq d a) else ds.any λd=>deq d a)) else none
 | none=>none
theorem y3{K:PySem.W.Frag}:OpD K (rInD K neg) (inF neg):=λa b d e B G I H U Y x y Q r hx hy k=>by
 unfold inF at e;cases b with
 | lst ds =>
  obtain⟨h1,rfl⟩:=rJ e;exact⟨a,ds,hx.mono r.iH,.inl (hy.mono r.iH),h1,k.now r (Is.bl _)⟩
 | tup ds =>
  obtain⟨h1,rfl⟩:=rJ e;exact⟨a,ds,hx.mono r.iH,.inr (hy.mono r.iH),h1,k.now r (Is.bl _)⟩
 | _=>cases e
theorem HK(hr:Room kr X.A)(ha:ED X B a ga)(hb:ED X B b gb)(hm:Py .In b=false:=by rfl):ED X B (.Compare a [.In] [b] pos) (op2 (inF false) ga gb):=vN (BV (hu100 hr)) y3 ha hb hm
theorem uT(hr:Room kr X.A)(ha:ED X B a ga)(hb:ED X B b gb)(hm:Py .In b=false:=by rfl):TD X B (.Compare a [.In] [b] pos) (tst (op2 (inF false) ga gb)):=sO (BV (hu100 hr)) y3 ha hb hm
theorem AY(hr:Room kr X.A)(ha:ED X B a ga)(hb:ED X B b gb)(hm:Py .NotIn b=false:=by rfl):TD X B (.Compare a [.NotIn] [b] pos) (tst (op2 (inF true) ga gb)):=sO (Kj (hu100 hr)) y3 ha hb hm
noncomputable def rCatTT(K:PySem.W.Frag):R2:=λx y H Q=>∃a b xs ys,x=.ref a/\y=.ref b/\SqT K H a xs/\SqT K H b ys/\xs.length+ys.length<=x_ ∧
 (xs=[]->Q (.ref b) H)/\(xs≠[]->ys=[]->Q (.ref a) H)/\(xs≠[]->ys≠[]->∀p,H p=none->Q (.ref p) (upd H p (.tup (xs++ys))))
theorem LX:OpR X (Qe .Add) (rCatTT X.K):=by
 intro aa s U H x y v u Q I rx ry h;obtain⟨a,b,xs,ys,rfl,rfl,ha,hb,hz,q0,q1,q2⟩:=h;cases rx;cases ry;obtain⟨ae,r1,p1,_⟩:=I.tuple ha;obtain⟨bM,r2,p2,_⟩:=I.tuple hb;by_cases hx:xs=[]
 ·subst hx;cases r1;obtain⟨⟨cls,dd,data,sl⟩,ho,hc,n,hd⟩:=id p1;obtain⟨⟨lh,iK,data2,iL⟩,eT,dB,n2,dC⟩:=id p2;simp only at hc hd dB dC;subst hc hd dB dC
  exact Um ⟨_,ho,rfl⟩ ⟨_,eT,rfl⟩ SO T7 Tn S_ (SQ _ _)
   (tuple_addW0 a b _ bM.toArray n n2 dd iK sl iL (by simp)) ⟨ho,eT,⟨.ref b,H,I,rfl,q0 rfl⟩⟩
 ·exact He aa s U H (.ref a) (.ref b) _ _ Q I rfl rfl ⟨a,b,xs,ys,rfl,rfl,ha,hb,hx,hz,q1 hx,q2 hx⟩
noncomputable def addF(a b:D):Option D:=match a,b with
 | .int i,.int j=>some (.int (i+j))
 | .tup xs,.tup ys=>if xs.length+ys.length<=lim then some (.tup (xs++ys)) else none
 | .str x,.str y=>if x.length+y.length<=lim then some (.str (x++y)) else none
 | _,_=>none
theorem IsA.ne_nil{K:PySem.W.Frag}(h:IsA K I ds xs):xs=[]↔ds=[]:=by
 have:=h.length;constructor
 ·intro e;subst e;exact O8.mp this
 ·intro e;subst e;exact O8.mp this.symm
theorem rz(ha:ED X B a ga)(hb:ED X B b gb):ED X B (.BinOp a .Add b pos) (op2 addF ga gb):=uI ((Gh.or LX).or GW) (λa b d e B G I H U Y x y Q r hx hy k=>by
 unfold addF at e;split at e
 ·cases e;exact .inl (.inl ⟨_,_,qZ hx,qZ hy,k.now r (Is.int _)⟩)
 ·obtain⟨hl,rfl⟩:=rJ e;obtain⟨p,xs,rfl,h1,h2⟩:=uQ hx;obtain⟨q,ys,rfl,h3,h4⟩:=uQ hy;refine .inl (.inr ⟨p,q,xs,ys,rfl,rfl,Same.sqT r.iH (SqT.of h1),Same.sqT r.iH (SqT.of h3),by rw[←h2.length,←h4.length];exact tF hl,λz=>?_,λ_ z=>?_,λ_ _ p' hp=>k.tup r hp (IsA.append h2 h4)⟩)
  ·have:=h2.ne_nil.mp z;subst this;exact k.now r (Is.tup h3 h4)
  ·have:=h4.ne_nil.mp z;subst this;rw[PY] at k;exact k.now r (Is.tup h1 h2)
 ·obtain⟨hl,rfl⟩:=rJ e;exact .inr ⟨_,_,sr hx,sr hy,tF hl,k.now r (Is.str _)⟩
 ·cases e) ha hb
noncomputable def rCatR(K:PySem.W.Frag):R2:=λx y H Q=>∃l b xs zs,x=.ref l/\y=.ref b/\RdK K H l xs/\RdK K H b zs/\xs.length+zs.length<=x_/\∀p,H p=none->Q (.ref p) (upd H p (.lst (xs++zs)))
theorem Jm:OpR X (Qe .Add) (rCatR X.K):=by
 intro aa s U H x y v u Q I rx ry h;obtain⟨l,b,xs,zs,rfl,rfl,hH,hB,hz,q⟩:=h;cases rx;cases ry;obtain⟨z,ae,n,r,hl,e⟩:=xn I hH;obtain⟨z2,bM,n2,r2,cE,e2⟩:=xn I hB;refine PySem.P.add_list e e2 ?_ (by rw[q_,q_];omega);have ea:ae.toArray++bM.toArray=(ae++bM).toArray:=by simp
 rw[ea];exact⟨.ref _,_,I.lnew (t':=s.toks) (r.append r2) (by rw[y_];omega),rfl,q _ I.fresh⟩
noncomputable def catF(a b:D):Option (List D):=match a,b with
 | .lst xs,.lst ys=>if xs.length+ys.length<=lim then some (xs++ys) else none
 | _,_=>none
theorem ur(ha:ED X B a ga)(hb:ED X B b gb):EO X B (.BinOp a .Add b pos) (op2 catF ga gb):=GM Jm (λa b d e B G I H U Y x y Q r hx hy k=>by
 unfold catF at e;split at e
 ·obtain⟨hl,rfl⟩:=rJ e;obtain⟨p,xs,rfl,h1,h2⟩:=rl hx;obtain⟨q,ys,rfl,h3,h4⟩:=rl hy;exact⟨p,q,xs,ys,rfl,rfl,Same.rdK r.iH h1,Same.rdK r.iH h3,by rw[←h2.length,←h4.length];exact tF hl,λp' hp=>k.new r hp (IsA.append h2 h4)⟩
 ·cases e) ha hb
theorem IsA.at{K:PySem.W.Frag}{I:Hp}{ds:List D}{xs:List V}{i:Int}{d:D}(h:IsA K I ds xs)(e:atI ds i=some d):∃x,atI xs i=some x/\Is K I d x:=by
 unfold atI at e ⊢;rw[←h.length];cases hj:ixN ds.length i with
 | none=>rw[hj] at e;cases e
 | some j =>
  rw[hj] at e;exact h.get e
noncomputable def ixF(a b:D):Option D:=match seqI a,asI b with
 | some ds,some i=>atI ds i
 | _,_=>none
theorem B7{a b:D}(h:ixF a b=some d):∃ds i,(a=.lst ds\/a=.tup ds)/\b=.int i/\atI ds i=some d:=by
 unfold ixF at h;cases a<;>cases b<;>simp[seqI,asI] at h
 ·exact⟨_,_,.inr rfl,rfl,h⟩
 ·exact⟨_,_,.inl rfl,rfl,h⟩
theorem qV(ha:ED X B a ga)(hb:ED X B b gb)(hs:PlainIx b:=by exact λ_ _=>rfl):ED X B (.Subscript a b pos) (op2 ixF ga gb):=E1 (DZ.or FE) (λa b d e B G I H U Y x y Q r hx hy k=>by
 obtain⟨ds,i,h1,rfl,h2⟩:=B7 e
 rcases h1 with rfl | rfl
 ·obtain⟨p,xs,rfl,h3,h4⟩:=rl hx;obtain⟨v,e5,e6⟩:=h4.at h2;exact .inl ⟨p,xs,i,v,rfl,qZ hy,(Same.rdK r.iH h3).sq,e5,k.now r e6⟩
 ·obtain⟨p,xs,rfl,h3,h4⟩:=rm hx;obtain⟨v,e5,e6⟩:=h4.at h2
  exact .inr ⟨p,xs,i,v,rfl,qZ hy,Same.sqT r.iH h3,e5,k.now r e6⟩) ha hb hs
noncomputable def look(i:Nat):M D:=λY=>match Y[i]? with
 | some (some (.own ds))=>some (.lst ds,Y)
 | some (some (.bor ds))=>some (.lst ds,Y)
 | _=>none
theorem wz{K:PySem.W.Frag}{H:Hp}(h:look i Y=some (d,af))(r:Rep K B G I H U Y):af=Y/\∃p xs ds,d=.lst ds/\U[i]?=some (some (.ref p))/\H p=some (.lst xs)/\IsA K I ds xs:=by
 unfold look at h;cases e:Y[i]? with
 | none=>rw[e] at h;cases h
 | some o =>
  cases o with
  | none=>rw[e] at h;cases h
  | some q =>
   rw[e] at h;obtain⟨v,h1,h2⟩:=r.slot i q e;cases q with
   | val _=>cases h
   | own ds=>cases h;obtain⟨p,xs,rfl,g1,_,_,g4⟩:=h2;exact⟨rfl,p,xs,ds,rfl,h1,g1,g4⟩
   | fro ds=>cases h
   | tfr ds=>cases h
   | dic ds=>cases h
   | bor ds=>cases h;obtain⟨p,xs,rfl,g1,_,_,g4⟩:=h2;exact⟨rfl,p,xs,ds,rfl,h1,g1,g4⟩
noncomputable def atN(i:Nat)(g:M D):M D:=mutS i (bnd g λn=>bnd (look i) λl=>lft (ixF l n))
theorem sj(hv:PE X (.Name x p1) (tVar i))(hb:ED X B b gb)(hs:PlainIx b:=by exact λ_ _=>rfl):ED X B (.Subscript (.Name x p1) b pos) (atN i gb):=PE.imp (Dj DZ hv hb hs) λU H Q q=>by
 obtain⟨G,I,Y,d,af,r,e1,k⟩:=q;obtain⟨hm,e1⟩:=tW e1;obtain⟨n,ac,e2,e3⟩:=qT e1;obtain⟨l,aj,e4,e5⟩:=qT e3;obtain⟨e6,rfl⟩:=rp e5;obtain⟨p,xs,h1,h2⟩:=tH hm r;refine⟨_,h1,G,I,Y,n,ac,r,e2,λv H1 I1 r1 g1 hn=>?_⟩;obtain⟨rfl,p',bx,ds,rfl,f1,f2,f3⟩:=wz e4 r1;have hp:p'=p:=by rw[h1] at f1;cases f1;rfl
 subst hp;obtain⟨dZ,j,g2,rfl,g3⟩:=B7 e6
 rcases g2 with g2 | g2
 ·cases g2;obtain⟨y,e7,e8⟩:=f3.at g3;exact⟨p',bx,j,y,rfl,qZ hn,SqL.of f2,e7,(k.after g1).now r1 e8⟩
 ·cases g2
noncomputable def lenF(ds:List D):Option D:=match ds with
 | [.lst xs]=>some (.int xs.length)
 | [.tup xs]=>some (.int xs.length)
 | _=>none
theorem FL(h:lenF ds=some d):∃xs,(ds=[.lst xs]\/ds=[.tup xs])/\d=.int xs.length:=by
 unfold lenF at h;split at h
 ·cases h;exact⟨_,.inl rfl,rfl⟩
 ·cases h;exact⟨_,.inr rfl,rfl⟩
 ·cases h
theorem tM{p:Pos}{t:M (List D)}(hg:Gl X "len")(hm:X.mg "len"=none)(ha:AD X B [e] t)(he:g_ [e] X.env=(false,O1 e X.env)::g_ [] X.env:=by rfl)(aK:(Pa pos (g_ [] X.env)).any (·.1)=false:=by rfl):
  ED X B (.Call (.Name "len" p) [e] [] pos) (fn1 lenF t):=uu Cy (λds d e B G I H U Y xs Q r h k=>by
 obtain⟨ys,h1,rfl⟩:=FL e
 rcases h1 with rfl | rfl
 ·obtain⟨x,rfl,hx⟩:=h.one;obtain⟨q,zs,rfl,h3,h4⟩:=rl hx;exact⟨q,zs,rfl,.inl ((Same.rdK r.iH h3).sq),by rw[h4.length] at k;exact k.now r (Is.int _)⟩
 ·obtain⟨x,rfl,hx⟩:=h.one;obtain⟨q,zs,rfl,h3,h4⟩:=rm hx
  exact⟨q,zs,rfl,.inr (Same.sqT r.iH h3),by rw[h4.length] at k;exact k.now r (Is.int _)⟩) hg hm PySem.boot_len ha (by decide) (by decide) he aK
noncomputable def lenN(i:Nat):M D:=bnd (look i) λl=>lft (lenF [l])
theorem yc{p:Pos}(hg:Gl X "len")(hm:X.mg "len"=none)(hv:PE X (.Name x p1) (tVar i))(he:g_ [.Name x p1] X.env=(false,O1 (.Name x p1) X.env)::g_ [] X.env:=by rfl)(aK:(Pa pos (g_ [] X.env)).any (·.1)=false:=by rfl):
  ED X B (.Call (.Name "len" p) [.Name x p1] [] pos) (lenN i):=PE.imp (wE Cy hg hm PySem.boot_len (ue hv vh he) (by decide) (by decide) he aK) λU H Q q=>by
 obtain⟨G,I,Y,d,af,r,e1,k⟩:=q;obtain⟨l,ac,e2,e3⟩:=qT e1;obtain⟨e4,rfl⟩:=rp e3;obtain⟨rfl,q,xs,ds,rfl,f1,f2,f3⟩:=wz e2 r;cases e4;exact⟨_,f1,q,xs,rfl,.inl (SqL.of f2),by rw[f3.length] at k;exact k.now r (Is.int _)⟩
noncomputable def cmpN(neg:Bool)(i:Nat)(g:M D):M D:=mutS i (bnd g λd=>bnd (look i) λl=>lft (eqF neg l d))
theorem Hz{K:PySem.W.Frag}:∀U H Q,tD K B (cmpN neg i gb) U H Q->tOp (rEqD K neg) (tVar i) (tD K B gb) U H Q:=λU H Q q=>by
 obtain⟨G,I,Y,d,af,r,e1,k⟩:=q;obtain⟨hm,e1⟩:=tW e1;obtain⟨n,ac,e2,e3⟩:=qT e1;obtain⟨l,aj,e4,e5⟩:=qT e3;obtain⟨e6,rfl⟩:=rp e5;obtain⟨p,xs,h1,h2⟩:=tH hm r;refine⟨_,h1,G,I,Y,n,ac,r,e2,λv H1 I1 r1 g1 hn=>?_⟩;obtain⟨rfl,p',bx,ds,rfl,f1,f2,f3⟩:=wz e4 r1;have hp:p'=p:=by rw[h1] at f1;cases f1;rfl
 subst hp;obtain⟨hd,rfl⟩:=rJ e6;exact⟨.lst ds,n,Is.lst (RdK.of f2) (f3.mono r1.iH),hn.mono r1.iH,hd,(k.after g1).now r1 (Is.bl _)⟩
theorem B1(hr:Room kr X.A)(hv:PE X (.Name x p1) (tVar i))(hb:ED X B b gb):TD X B (.Compare (.Name x p1) [.NotEq] [b] pos) (tst (cmpN true i gb)):=PT.imp (Cm (yF (hu100 hr)) hv hb (nomark _)) (v3 Hz)
def partD(e:Option OU)(X:Cx)(B:BB)(g:M (Option Int)):Prop:=PO X e (λU H Q=>∃G I Y o af,Rep X.K B G I H U Y/\g Y=some (o,af)/\∀H' I',Rep X.K B G I' H' U af->Grow G I I'->Q o H')
theorem tQ:partD none X B (ret none):=λaa s U H Q I h=>EH aa s U H Q I (by
 obtain⟨G,I,Y,o,af,r,e1,k⟩:=h;cases e1
 exact k _ _ r (Grow.refl _ _))
noncomputable def prt(g:M D):M (Option Int):=bnd g λd=>bnd (lft (asI d)) λi=>ret (some i)
theorem sD(ha:ED X B a ga):partD (some a) X B (prt ga):=λaa s U H Q I h=>Kw ha aa s U H Q I (by
 obtain⟨G,I,Y,o,af,r,e1,k⟩:=h;obtain⟨d,ac,e2,e3⟩:=qT e1;obtain⟨i,aj,e4,e5⟩:=qT e3;cases e5;obtain⟨e6,rfl⟩:=rp e4;have:=At e6;subst this
 exact⟨G,I,Y,_,_,r,e2,λv H1 I1 r1 g1 hv=>⟨i,qZ hv,k _ _ r1 g1⟩⟩)
noncomputable def cutD(ds:List D)(lo hi:Option Int):List D:=(ds.drop (HT.sIx ds.length 0 lo)).take (HT.sIx ds.length ds.length hi - HT.sIx ds.length 0 lo)
theorem IsA.cut{K:PySem.W.Frag}(h:IsA K I ds xs)(lo hi:Option Int):IsA K I (cutD ds lo hi) (cutV xs lo hi):=by
 unfold cutD cutV;rw[←h.length];exact(h.drop _).take _
noncomputable def slF(d:D)(lo hi:Option Int):Option D:=match d with
 | .lst ds=>some (.lst (cutD ds lo hi))
 | .tup ds=>if HT.sIx ds.length 0 lo=0/\HT.sIx ds.length ds.length hi=ds.length then none else some (.tup (cutD ds lo hi))
 | _=>none
noncomputable def sl3{α:Type}(F:D->Option Int->Option Int->Option α)(g:M D)(gl gh:M (Option Int)):M α:=bnd g λd=>bnd gl λl=>bnd gh λh=>lft (F d l h)
theorem sP{lo hi:Option OU}(ha:ED X B a ga)(hl:partD lo X B gl)(hh:partD hi X B gh):ED X B (.Subscript a (.Slice lo hi none p2) pos) (sl3 slF ga gl gh):=PE.imp (GN (HZ.or LM) ha hl hh) λU H Q q=>by
 obtain⟨G,I,Y,d,af,r,e1,k⟩:=q;obtain⟨c,ac,e2,e3⟩:=qT e1;obtain⟨l,aj,e4,e5⟩:=qT e3;obtain⟨h,aR,e6,e7⟩:=qT e5;obtain⟨e8,rfl⟩:=rp e7;refine⟨G,I,Y,c,ac,r,e2,λv H1 I1 r1 g1 hv=>⟨G,I1,ac,l,aj,r1,e4,λH2 I2 r2 g2=>⟨G,I2,aj,h,_,r2,e6,λH3 I3 r3 g3=>?_⟩⟩⟩;have gg:=g1.trans (g2.trans g3);have lO:=hv.mono (g2.trans g3).up;cases c with
 | lst ds =>
  cases e8;obtain⟨p,xs,rfl,h3,h4⟩:=rl lO;refine .inl ⟨p,xs,rfl,(Same.rdK r3.iH h3).sq,λp' hp=>?_⟩;exact(k.after gg) _ _ _ (r3.alloc hp _) (r3.growAlloc hp _) (Is.lst (RdK.of rn) ((h4.cut l h).mono (rN (r3.iFree hp) _)))
 | tup ds =>
  unfold slF at e8;by_cases hw:HT.sIx ds.length 0 l=0/\HT.sIx ds.length ds.length h=ds.length
  ·simp only[hw,and_self,if_true] at e8;cases e8
  ·simp only[if_neg hw] at e8;cases e8;obtain⟨p,xs,rfl,h3,h4⟩:=rm lO;exact .inr ⟨p,xs,rfl,Same.sqT r3.iH h3,by rw[←h4.length];exact hw,λp' hp=>(k.after gg).tup r3 hp (h4.cut l h)⟩
 | _=>cases e8
noncomputable def minF(ds:List D):Option D:=match ds with
 | [.int i,.int j]=>some (.int (if j < i then j else i))
 | _=>none
noncomputable def maxF(ds:List D):Option D:=match ds with
 | [.int i,.int j]=>some (.int (if j > i then j else i))
 | _=>none
theorem uD{p:Pos}{t:M (List D)}(hc:X.calm=true)(hg:Gl X "min")(hm:X.mg "min"=none)(ha:AD X B (e::es) t)(he:g_ (e::es) X.env=(false,O1 e X.env)::g_ es X.env:=by rfl)(aK:(Pa pos (g_ es X.env)).any (·.1)=false:=by rfl):
  ED X B (.Call (.Name "min" p) (e::es) [] pos) (fn1 minF t):=uu (LG hc) (λds d e B G I H U Y xs Q r h k=>by
 unfold minF at e;split at e
 ·cases e;obtain⟨x,y,rfl,hx,hy⟩:=h.two;exact⟨_,_,by rw[qZ hx,qZ hy],k.now r (Is.int _)⟩
 ·cases e) hg hm boot_min ha (by decide) (by decide) he aK
theorem vA{p:Pos}{t:M (List D)}(hc:X.calm=true)(hg:Gl X "max")(hm:X.mg "max"=none)(ha:AD X B (e::es) t)(he:g_ (e::es) X.env=(false,O1 e X.env)::g_ es X.env:=by rfl)(aK:(Pa pos (g_ es X.env)).any (·.1)=false:=by rfl):
  ED X B (.Call (.Name "max" p) (e::es) [] pos) (fn1 maxF t):=uu (Fb hc) (λds d e B G I H U Y xs Q r h k=>by
 unfold maxF at e;split at e
 ·cases e;obtain⟨x,y,rfl,hx,hy⟩:=h.two;exact⟨_,_,by rw[qZ hx,qZ hy],k.now r (Is.int _)⟩
 ·cases e) hg hm boot_max ha (by decide) (by decide) he aK
noncomputable def tupF(ds:List D):Option D:=match ds with
 | [.lst xs]=>some (.tup xs)
 | [.tup xs]=>some (.tup xs)
 | _=>none
noncomputable def lstF(ds:List D):Option (List D):=match ds with
 | [.lst xs]=>some xs
 | [.tup xs]=>some xs
 | _=>none
theorem uK{p:Pos}{t:M (List D)}(hg:Gl X "tuple")(hm:X.mg "tuple"=none)(ha:AD X B [e] t)(he:g_ [e] X.env=(false,O1 e X.env)::g_ [] X.env:=by rfl)(aK:(Pa pos (g_ [] X.env)).any (·.1)=false:=by rfl):
  ED X B (.Call (.Name "tuple" p) [e] [] pos) (fn1 tupF t):=Fo GR (λds d e B G I H U Y xs Q r h k=>by
 unfold tupF at e;split at e
 ·cases e;obtain⟨x,rfl,hx⟩:=h.one;obtain⟨q,zs,rfl,h3,h4⟩:=rl hx;exact⟨q,zs,rfl,.inl ⟨(Same.rdK r.iH h3).sq,λp' hp=>k.tup r hp h4⟩⟩
 ·cases e;obtain⟨x,rfl,hx⟩:=h.one;obtain⟨q,zs,rfl,h3,h4⟩:=uQ hx;exact⟨q,zs,rfl,.inr ⟨Same.sqT r.iH (SqT.of h3),k.now r (Is.tup h3 h4)⟩⟩
 ·cases e) hg hm boot_tuple ha (by decide) (by decide) he aK
theorem Mg{p:Pos}{t:M (List D)}(hg:Gl X "list")(hm:X.mg "list"=none)(ha:AD X B [e] t)(he:g_ [e] X.env=(false,O1 e X.env)::g_ [] X.env:=by rfl)(aK:(Pa pos (g_ [] X.env)).any (·.1)=false:=by rfl):
  EO X B (.Call (.Name "list" p) [e] [] pos) (fn1 lstF t):=L6 Lk (λds d e B G I H U Y xs Q r h k=>by
 unfold lstF at e;split at e
 ·cases e;obtain⟨x,rfl,hx⟩:=h.one;obtain⟨q,zs,rfl,h3,h4⟩:=rl hx;exact⟨q,zs,rfl,.inl ((Same.rdK r.iH h3).sq),λp' hp=>k.new r hp h4⟩
 ·cases e;obtain⟨x,rfl,hx⟩:=h.one;obtain⟨q,zs,rfl,h3,h4⟩:=rm hx;exact⟨q,zs,rfl,.inr (Same.sqT r.iH h3),λp' hp=>k.new r hp h4⟩
 ·cases e) hg hm boot_list ha (by decide) (by decide) he aK
noncomputable def isN(d:D):Bool:=match d with
 | .non=>true
 | _=>false
noncomputable def isNF(neg:Bool)(a b:D):Option D:=match b with
 | .non=>some (.bl (if neg then !isN a else isN a))
 | _=>none
theorem DG{K:PySem.W.Frag}{a:D}{x:V}(h:Is K I a x):decide (x=V.non)=isN a:=by
 cases a with
 | non=>rw[sv h];rfl
 | bl _=>rw[r9 h];rfl
 | int _=>rw[qZ h];rfl
 | str _=>rw[sr h];rfl
 | tup _=>obtain⟨_,_,rfl,_⟩:=rm h;rfl
 | lst _=>obtain⟨_,_,rfl,_⟩:=rl h;rfl
theorem IJ{K:PySem.W.Frag}:OpD K (λx y H Q=>y=.non/\Q (.bl (decide (x=.non))) H) (isNF false):=λa b d e B G I H U Y x y Q r hx hy k=>by
 unfold isNF at e;split at e
 ·cases e;exact⟨sv hy,by rw[DG hx];exact k.now r (Is.bl _)⟩
 ·cases e
theorem FJ{K:PySem.W.Frag}:OpD K (λx y H Q=>y=.non/\Q (.bl (!decide (x=.non))) H) (isNF true):=λa b d e B G I H U Y x y Q r hx hy k=>by
 unfold isNF at e;split at e
 ·cases e;exact⟨sv hy,by rw[DG hx];exact k.now r (Is.bl _)⟩
 ·cases e
theorem E8(ha:ED X B a ga)(hb:ED X B b gb):TD X B (.Compare a [.Is] [b] pos) (tst (op2 (isNF false) ga gb)):=sO E7 IJ ha hb (nomark _)
theorem yu(ha:ED X B a ga)(hb:ED X B b gb):TD X B (.Compare a [.IsNot] [b] pos) (tst (op2 (isNF true) ga gb)):=sO Kb FJ ha hb (nomark _)
end
structure Kd where
 it:I_->l_->l_->Nat->Prop
 sq:I_->l_->Array b_->Prop
 nm:String
structure KdOk(k:Kd):Prop where
 itAt:∀{h h':I_}{i l:l_}{n:Nat},k.it h i l n->(∀o,h.get? i=some o->h'.get? i=some o)->k.it h' i l n
 sqAt:∀{h h':I_}{l:l_}{xs:Array b_},k.sq h l xs->(∀o,h.get? l=some o->h'.get? l=some o)->k.sq h' l xs
 itLt:∀{h:I_}{i l:l_}{n:Nat},k.it h i l n->i < h.objs.size
 sqLt:∀{h:I_}{l:l_}{xs:Array b_},k.sq h l xs->l < h.objs.size
 itObj:∀{h:I_}{i l:l_}{n:Nat},k.it h i l n->∃o,h.get? i=some o/\∀v,o.data≠.cell v
 iter:∀{prog:C_}{w:J_}{A:PB}{E:b_->d_->Prop}{s:d_}{l:l_}{xs:Array b_}{Q:b_->d_->Prop},k.sq s.heap l xs →
  Q (.ref s.heap.objs.size) { s with heap:=s.heap.push { cls:=.type k.nm,data:=.fields #[.ref l,.int 0 0] } }->o_ (s_ prog w) A (SB (.ref l)) Q E s
 new:∀{h:I_}{l:l_},k.it (h.push { cls:=.type k.nm,data:=.fields #[.ref l,.int 0 0] }) h.objs.size l 0
 item:∀{prog:C_}{w:J_}{A:PB}{E:b_->d_->Prop}{s:d_}{i l:l_}{n:Nat}{xs:Array b_}{x:b_}{Q:b_->d_->Prop},k.it s.heap i l n->k.sq s.heap l xs->xs[n]?=some x →
  (∀h',k.it h' i l (n+1)->I_.SameBut i s.heap h'->Q x { s with heap:=h' })->o_ (s_ prog w) A (S4 (.ref i)) Q E s
 stop:∀{prog:C_}{w:J_}{A:PB}{E:b_->d_->Prop}{s:d_}{i l:l_}{n:Nat}{xs:Array b_}{Q:b_->d_->Prop},A.handled=none->k.it s.heap i l n->k.sq s.heap l xs->xs[n]?=none →
  (∀h' e,I_.ExtBut i s.heap h'->(∃o,h'.get? e=some o/\o.cls=.type "StopIteration")->E (.ref e) { s with heap:=h' })->o_ (s_ prog w) A (S4 (.ref i)) Q E s
noncomputable def kdL:Kd:=⟨λh i l n=>h.IsListIter i l n,λh l xs=>h.IsList l xs, "list_iterator"⟩
noncomputable def kdT:Kd:=⟨λh i l n=>h.IsTupleIter i l n,λh l xs=>h.IsTuple l xs, "tuple_iterator"⟩
theorem yw:KdOk kdL where
 itAt:=λh k=>h.at k
 sqAt:=λh k=>h.at k
 itLt:=λh=>by obtain⟨_,e,_⟩:=h;exact H_ e
 sqLt:=λh=>by obtain⟨_,e,_⟩:=h;exact H_ e
 itObj:=λh=>by obtain⟨o,e,_,d⟩:=h;exact⟨o,e,λv z=>by rw[d] at z;cases z⟩
 iter:=λh q=>P9 h q
 new:=⟨_,t_ _ rfl,rfl,rfl⟩
 item:=λh1 h2 h3 q=>wpAny_nextOf_list_item h1 h2 h3 q
 stop:=λhh h1 h2 h3 q=>wpAny_nextOf_list_end hh h1 h2 h3 q
section
variable{prog:C_}{w:J_}{E:b_->d_->Prop}{s:d_}
theorem Mu{α:Type}{Q:α->d_->Prop}(hh:A.handled=none)(k:∀(g:I_) (x:l_),(∀b o,s.heap.get? b=some o->g.get? b=some o)->(∃o,g.get? x=some o/\o.cls=.type "StopIteration")->E (.ref x) { s with heap:=g }):
  o_ (s_ prog w) A (stopIteration (α:=α)) Q E s:=by
 unfold stopIteration Vw newTuple;refine a_ (a_ (M_ (a_ (PC (a:=b_.none) (by first | rfl | (simp only[Sc];rfl)) (M_ ?_ (by size_fits)))) (by size_fits)));unfold Vb;refine a_ (Ub ?_);rw[hh];exact a_ (c_ (UP (k _ _ (λb o e=>e_ _ (e_ _ e)) ⟨_,t_ _ rfl,rfl⟩)))
theorem DN{aU tp:l_}{Q:b_->d_->Prop}(hi:s.heap.IsTupleIter aU tp i)(hT:s.heap.IsTuple tp cells)(one:∀v,cells[i]?=some v->∀g:I_,g.IsTupleIter aU tp (i+1)->I_.SameBut aU s.heap g->Q v { s with heap:=g })(non:cells[i]?=none->A.handled=none/\∀(g:I_) (x:l_),I_.ExtBut aU s.heap g->(∃o,g.get? x=some o/\o.cls=.type "StopIteration")->E (.ref x) { s with heap:=g }):
  o_ (s_ prog w) A (S4 (.ref aU)) Q E s:=by
 have ty:=hi.typeIs;obtain⟨oi,gi,ci,di⟩:=hi;obtain⟨ot,gt,ct,nt,dt⟩:=hT;unfold S4;refine a_ (OM (name:=Re "__next__") ty Sd (ON Sd ty F.entry_tuple_iterator_next ?_ (F.args_tuple_iterator_next_1 _)));refine a_ (PC (a:=(b_.ref aU,[])) rfl ?_);refine a_ (OX (i:=0) gi di (x:=.ref tp) rfl (wpAny_ite_split (λno=>absurd no k_) λ_=>?_));refine a_ (OX (i:=1) gi di (x:=.int i 0) rfl (a_ (OV gt dt ?_)));dsimp only;rw[Qa];cases hv:cells[i]? with
 | some v =>
  refine a_ (Qi gi di (by simp) (c_ ⟨v,rfl,c_ (one v hv _ ?_ (I_.SameBut.update ..))⟩));have low:=Qj di;exact⟨_,O0 _ gi (Qy (low _)),(Rh ..).trans ci,by rw[low];simp[PX]⟩
 | none =>
  obtain⟨hh,k⟩:=non hv;refine a_ (Se (a_ (Qi gi di (by simp) (Mu hh λg x keep is=>k g x (λb o ne e=>keep b o ((I_.SameBut.update ..).extBut b o ne e)) is))))
end
theorem yO:KdOk kdT where
 itAt:=λh k=>by obtain⟨o,e,r⟩:=h;exact⟨o,k o e,r⟩
 sqAt:=λh k=>by obtain⟨o,e,r⟩:=h;exact⟨o,k o e,r⟩
 itLt:=λh=>by obtain⟨_,e,_⟩:=h;exact H_ e
 sqLt:=λh=>by obtain⟨_,e,_⟩:=h;exact H_ e
 itObj:=λh=>by obtain⟨o,e,_,d⟩:=h;exact⟨o,e,λv z=>by rw[d] at z;cases z⟩
 iter:=λh q=>Uf h q
 new:=⟨_,t_ _ rfl,rfl,rfl⟩
 item:=λh1 h2 h3 q=>DN h1 h2 (λv e g=>by rw[h3] at e;cases e;exact q g) λe=>by rw[h3] at e;cases e
 stop:=λhh h1 h2 h3 q=>DN h1 h2 (λv e=>by rw[h3] at e;cases e) λ_=>⟨hh,q⟩
theorem ye{H:Hp}{s:d_}{T:l_}(I:Inv X aa U H s)(bm:∀b∈ch,FpOk X aa H b)(k:∀b u,b∉ch->s.heap.get? b=some u->h'.get? b=some u)(hT:s.heap.objs.size<=T)(new:ObjOk X.prog X.w (upd H T o) h' T o):Inv X aa U (upd H T o) { s with heap:=h',toks:=t' }:=by
 have hf:=I.hok.fresh hT;have ne:∀{b u},H b=some u->b≠T:=λ{b u} e=>sK e hf
 have cL:∀{b u},H b=some u->b∉ch:=λ{b u} e z=>by have:=(bm b z).1;rw[e] at this;cases this
 refine I.step (g':=s.gens) (d':=s.drawn) (ch:=ch) (λb hb=>⟨(bm b hb).2.2.2.1,(bm b hb).2.1,(bm b hb).2.2.2.2.1,(bm b hb).2.2.2.2.2⟩) (λb u _ _ hc e _=>k b u hc e) (λb u _ _ hc e _=>⟨u.slots,k b u hc e⟩) (λb u hc e n=>?_)
  (λb u hc e=>⟨u,k b u hc e⟩) (λb xs e=>by rw[qX (ne e)];exact e) (λb u v e=>by rw[qX (ne e)];exact e) (λb ps e=>⟨#[],by rw[qX (ne e),e];simp⟩) (λm hm=>?_) (λb u e=>?_) I.bare
 ·have nb:b≠T:=λz=>by have:=H_ e;rw[z] at this;exact absurd (L_ this hT) (PR _)
  rw[qX nb];exact n
 ·obtain⟨ob,es,ep,ho,r⟩:=hm;exact⟨ob,es,ep,k _ ob (λz=>(bm _ z).2.1 rfl) ho,r⟩
 ·by_cases hb:b=T
  ·subst hb;rw[rn] at e;cases e;exact new
  ·rw[qX hb] at e;refine(I.hok b u e).stay (λc v hc q=>k c v ?_ q) (λc q=>by rw[qX (ne q)];exact q) λc xs q=>by rw[qX (ne q)];exact q
   rcases hc with z | z
   ·rw[z];exact cL e
   ·exact cL z
theorem zA{H:Hp}{s:d_}(I:Inv X aa U H s)(bm:∀b∈ch,FpOk X aa H b)(k:∀b u,b∉ch->s.heap.get? b=some u->h'.get? b=some u):Inv X aa U H { s with heap:=h',toks:=t' }:=by
 have cL:∀{b u},H b=some u->b∉ch:=λ{b u} e z=>by have:=(bm b z).1;rw[e] at this;cases this
 refine I.step (g':=s.gens) (d':=s.drawn) (ch:=ch) (λb hb=>⟨(bm b hb).2.2.2.1,(bm b hb).2.1,(bm b hb).2.2.2.2.1,(bm b hb).2.2.2.2.2⟩) (λb u _ _ hc e _=>k b u hc e) (λb u _ _ hc e _=>⟨u.slots,k b u hc e⟩) (λb u hc e n=>n)
  (λb u hc e=>⟨u,k b u hc e⟩) (λb xs e=>e) (λb u v e=>e) (λb ps e=>⟨#[],by rw[e];simp⟩) (λm hm=>?_) (λb u e=>?_) I.bare
 ·obtain⟨ob,es,ep,ho,r⟩:=hm;exact⟨ob,es,ep,k _ ob (λz=>(bm _ z).2.1 rfl) ho,r⟩
 ·refine(I.hok b u e).stay (λc v hc q=>k c v ?_ q) (λc q=>q) λc xs q=>q
  rcases hc with z | z
  ·rw[z];exact cL e
  ·exact cL z
section
variable{prog:C_}{w:J_}{E:b_->d_->Prop}{s:d_}{k:Kd}
theorem Ah(ok:KdOk k){ta p q u v:l_}{xs ys:Array b_}{c1:b_}{Q:PySem.Fin->d_->Prop}(D:Ut z ta aI p q u v)(Z:Tc s.heap z ta aI .none)(Ta:Pd s.heap ta (.ref p) (.ref q))(To:Pd s.heap aI c0 c1)(P:k.it s.heap p u m)(P':k.it s.heap q v n)(qP:k.sq s.heap u xs)(U':k.sq s.heap v ys)(dk:∀x y,xs[m]?=some x->ys[n]?=some y->∀g:I_,g.objs.size=s.heap.objs.size+1/\Pd g s.heap.objs.size x y->Tc g z ta aI (PX s.heap.objs.size)->Pd g aI x y->k.it g p u (m+1)/\k.it g q v (n+1) →
   (∀c o,(c≠z/\c≠aI/\c≠p/\c≠q)->s.heap.get? c=some o->g.get? c=some o)->Q (.done (.ret (.ref s.heap.objs.size))) { s with heap:=g })(cA:(xs[m]?=none\/ys[n]?=none)->A.handled=none/\∀(g:I_) (x:l_),(∀c o,(c≠z/\c≠aI/\c≠p/\c≠q)->s.heap.get? c=some o->g.get? c=some o)->(∃o,g.get? x=some o/\o.cls=.type "StopIteration")->E (.ref x) { s with heap:=g }):
  o_ (s_ prog w) A (P3.«zip.__next__» ⟨[.ref z],[]⟩) Q E s:=by
 refine a_ (PC (a:=(b_.ref z,[])) rfl (a_ (OX (i:=2) Z rfl (x:=.bool false) rfl (a_ (OX (i:=3) Z rfl (x:=.ref ta) rfl (a_ (OV Ta rfl ?_)))))));refine a_ (m:=Qk (.ref z)) (a_ (OX (i:=0) Z rfl (x:=.none) rfl (c_ ?_)));rw[if_pos rfl];refine a_ (Se (a_ (OX (i:=4) Z rfl (x:=.ref aI) rfl (a_ (O9 Z (by simp) λg1 Z1 b1=>?_)))));replace Z1:Tc g1 z ta aI .ellipsis:=Z1
 have fP:∀(g:I_) (x:l_),Tc g z ta aI .ellipsis->(∃o,g.get? x=some o/\o.cls=.type "StopIteration")->(∀g':I_,I_.SameBut z g g'->(∃o,g'.get? x=some o/\o.cls=.type "StopIteration")->E (.ref x) { s with heap:=g' }) →
   o_ (s_ prog w) A (Vc (.ref z) 0 .none) (λ_ s'=>E (.ref x) s') E { s with heap:=g }:=λg x Zg is kk=>by
  obtain⟨o,e1,e2⟩:=is;refine O9 Zg (by simp) λg' _ b'=>kk g' b' ⟨o,b'.extBut _ _ (λsame=>?_) e1,e2⟩
  rw[same,Zg] at e1;cases e1;simp at e2
 have f1:∀c o,c≠z->s.heap.get? c=some o->g1.get? c=some o:=λc o ne e=>b1.extBut _ _ ne e
 refine a_ ?_;rw[Ss,Ss,List.zipIdx_nil,PZ];refine a_ (a_ (SJ (a_ (m:=S4 (.ref p)) ?_)));have P1:=ok.itAt P λo e=>f1 _ o D.i1z e
 have U1:=ok.sqAt qP λo e=>f1 _ o D.l1z e
 cases hx:xs[m]? with
 | none =>
  obtain⟨hh,aM⟩:=cA (.inl hx);exact ok.stop hh P1 U1 hx λg2 x b2 is=>fP g2 x (b2 _ _ D.i1z.symm Z1) is λg' b' cT=>aM g' x (λc o ne e=>b'.extBut _ _ ne.1 (b2 _ _ ne.2.2.1 (f1 c o ne.1 e))) cT
 | some x =>
  refine ok.item P1 U1 hx λg2 P2 b2=>c_ ?_
  have gM:Pd g2 aI c0 c1:=b2.extBut _ _ D.TOi1 (f1 _ _ D.TOz To);refine a_ (OV gM rfl (a_ (QG gM λg3 fc b3=>a_ (QH (c_ ?_)))));replace fc:Pd g3 aI x c1:=fc;have f3:∀c o,c≠aI->c≠p->g1.get? c=some o->g3.get? c=some o:=λc o n1 n2 e=>b3.extBut _ _ n1 (b2.extBut _ _ n2 e)
  have Z3:Tc g3 z ta aI .ellipsis:=f3 _ _ D.TOz.symm D.i1z.symm Z1;dsimp only;rw[PZ];refine a_ (a_ (SJ (a_ (m:=S4 (.ref q)) ?_)));have Q3:=ok.itAt P' λo e=>f3 _ o D.TOi2.symm D.i12.symm (f1 _ o D.i2z e)
  have V3:=ok.sqAt U' λo e=>f3 _ o D.l2TO D.l2i1 (f1 _ o D.l2z e)
  cases hy:ys[n]? with
  | none =>
   obtain⟨hh,aM⟩:=cA (.inr hy);exact ok.stop hh Q3 V3 hy λg4 x b4 is=>fP g4 x (b4 _ _ D.i2z.symm Z3) is λg' b' cT=>aM g' x (λc o ne e=>b'.extBut _ _ ne.1 (b4 _ _ ne.2.2.2 (f3 c o ne.2.1 ne.2.2.1 (f1 c o ne.1 e)))) cT
  | some y =>
   refine ok.item Q3 V3 hy λg4 Q4 b4=>c_ ?_
   have gN:Pd g4 aI x c1:=b4.extBut _ _ D.TOi2 fc;refine a_ (OV gN rfl (a_ (QG gN λg5 dH b5=>a_ (QH (c_ ?_)))));replace dH:Pd g5 aI x y:=dH;have f5:∀c o,c≠aI->c≠q->g3.get? c=some o->g5.get? c=some o:=λc o n1 n2 e=>b5.extBut _ _ n1 (b4.extBut _ _ n2 e)
   dsimp only;rw[Q7];refine c_ (a_ (OV dH rfl (a_ (Sf ?_))));have same:g5.objs.size=s.heap.objs.size:=b5.1.trans (b4.1.trans (b3.1.trans (b2.1.trans b1.1)));have Z5:Tc g5 z ta aI .ellipsis:=f5 _ _ D.TOz.symm D.i2z.symm Z3;have far:g5.objs.size≠z:=Q_ (H_ Z5);have Z6:Tc (g5.push { cls:=.type "tuple", data:=.seq #[x,y] }) z ta aI .ellipsis:=e_ _ Z5;refine a_ (m:=Uu (.ref z) (.ref g5.objs.size)) (a_ (O9 Z6 (by simp) λg7 Z7 b7=>?_));refine O9 Z7 (by simp) λg8 Z8 b8=>c_ ?_
   replace Z8:Tc g8 z ta aI (PX g5.objs.size):=Z8;have f8:∀c o,c≠z->g5.get? c=some o->g8.get? c=some o:=λc o ne e=>b8.extBut _ _ ne (b7.extBut _ _ ne (e_ _ e))
   have T8:Pd g8 g5.objs.size x y:=b8.extBut _ _ far (b7.extBut _ _ far (t_ _ rfl));have cU:g8.objs.size=g5.objs.size+1:=b8.1.trans (b7.1.trans (P5 ..));show Q (.done (.ret (.ref g5.objs.size))) { s with heap:=g8 };rw[same] at Z8 T8 cU ⊢
   exact dk x y hx hy g8 ⟨cU,T8⟩ Z8 (f8 _ _ D.TOz dH) ⟨ok.itAt P2 λo e=>f8 _ o D.i1z (f5 _ o D.TOi1.symm D.i12 (b3.extBut _ _ D.TOi1.symm e)),ok.itAt Q4 λo e=>f8 _ o D.i2z (b5.extBut _ _ D.TOi2.symm e)⟩
    λc o ne e=>f8 c o ne.1 (f5 c o ne.2.1 ne.2.2.2 (f3 c o ne.2.1 ne.2.2.1 (f1 c o ne.1 e)))
noncomputable abbrev zk1(k:Kd)(h:I_)(l1:l_):I_:=h.push { cls:=.type k.nm,data:=.fields #[.ref l1,.int 0 0] }
noncomputable abbrev zk2(k:Kd)(h:I_)(l1 l2:l_):I_:=(zk1 k h l1).push { cls:=.type k.nm,data:=.fields #[.ref l2,.int 0 0] }
noncomputable abbrev zk3(k:Kd)(h:I_)(l1 l2:l_):I_:=(zk2 k h l1 l2).push { cls:=.type "tuple", data:=.seq #[.ref h.objs.size,.ref (zk1 k h l1).objs.size] }
noncomputable abbrev zk4(k:Kd)(h:I_)(l1 l2:l_):I_:=(zk3 k h l1 l2).push { cls:=.type "tuple", data:=.seq #[.none,.none] }
noncomputable abbrev zk5(k:Kd)(h:I_)(l1 l2:l_):I_:=(zk4 k h l1 l2).push { cls:=.type "zip", data:=.fields #[.none,.bool false,.bool false,.ref (zk2 k h l1 l2).objs.size,.ref (zk3 k h l1 l2).objs.size] }
theorem En(ok:KdOk k)(l1 l2:l_)(xs ys:Array b_):
  Meets (P3.«zip.__new__» ⟨[.type "zip", .ref l1,.ref l2],[]⟩) (λ_ R s=>k.sq s.heap l1 xs/\k.sq s.heap l2 ys ∧
   ∀h',Tc h' (s.heap.objs.size+4) (s.heap.objs.size+2) (s.heap.objs.size+3) .none->Pd h' (s.heap.objs.size+2) (.ref s.heap.objs.size) (.ref (s.heap.objs.size+1)) →
    Pd h' (s.heap.objs.size+3) .none .none->k.it h' s.heap.objs.size l1 0->k.it h' (s.heap.objs.size+1) l2 0->(∀c o,s.heap.get? c=some o->h'.get? c=some o)->R (.ok (.ret (.ref (s.heap.objs.size+4)))) { s with heap:=h' }):=
 .of_wp λprog w A R s h=>by
  obtain⟨hp,gn,dw,tk,os⟩:=s;obtain⟨cG,cE,h⟩:=h;have gO:=sub_zip;have oq:k.sq (d_.heap ⟨hp,gn,dw,tk,os⟩) l1 xs:=cG;have ou:k.sq (d_.heap ⟨zk1 k hp l1,gn,dw,tk,os⟩) l2 ys:=ok.sqAt cE λo e=>e_ _ e
  wp_walk using ok.iter oq,ok.iter ou
  refine⟨_,rfl,?_⟩;have z1:(zk1 k hp l1).objs.size=hp.objs.size+1:=P5 ..;have z2:(zk2 k hp l1 l2).objs.size=hp.objs.size+2:=by rw[P5,z1]
  have z3:(zk3 k hp l1 l2).objs.size=hp.objs.size+3:=by rw[P5,z2]
  have z4:(zk4 k hp l1 l2).objs.size=hp.objs.size+4:=by rw[P5,z3]
  have g5:(zk5 k hp l1 l2).get? (zk4 k hp l1 l2).objs.size=some { cls:=.type "zip", data:=.fields #[.none,.bool false,.bool false,.ref (zk2 k hp l1 l2).objs.size,.ref (zk3 k hp l1 l2).objs.size] }:=t_ _ rfl;have g4:(zk5 k hp l1 l2).get? (zk3 k hp l1 l2).objs.size=some { cls:=.type "tuple", data:=.seq #[.none,.none] }:=e_ _ (t_ _ rfl);have g3:(zk5 k hp l1 l2).get? (zk2 k hp l1 l2).objs.size=some { cls:=.type "tuple", data:=.seq #[.ref hp.objs.size,.ref (zk1 k hp l1).objs.size] }:=e_ _ (e_ _ (t_ _ rfl));have n2:k.it (zk2 k hp l1 l2) (zk1 k hp l1).objs.size l2 0:=ok.new;have n1:k.it (zk1 k hp l1) hp.objs.size l1 0:=ok.new;have i2:k.it (zk5 k hp l1 l2) (zk1 k hp l1).objs.size l2 0:=ok.itAt n2 λo e=>e_ _ (e_ _ (e_ _ e))
  have i1:k.it (zk5 k hp l1 l2) hp.objs.size l1 0:=ok.itAt n1 λo e=>e_ _ (e_ _ (e_ _ (e_ _ e)))
  show R (.ok (.ret (.ref (zk4 k hp l1 l2).objs.size))) { heap:=zk5 k hp l1 l2,gens:=gn,drawn:=dw,toks:=tk,os:=os };rw[z2,z3,z4] at g5;rw[z1,z2] at g3;rw[z3] at g4;rw[z1] at i2;rw[z4];exact h (zk5 k hp l1 l2) g5 g3 g4 i1 i2 λc o e=>e_ _ (e_ _ (e_ _ (e_ _ (e_ _ e))))
theorem A7(ok:KdOk k){xs ys:Array b_}{Q:b_->d_->Prop}(cG:k.sq s.heap l1 xs)(cE:k.sq s.heap l2 ys)(made:∀n h',n=s.heap.objs.size->Tc h' (n+4) (n+2) (n+3) .none->Pd h' (n+2) (.ref n) (.ref (n+1))->Pd h' (n+3) .none .none->k.it h' n l1 0->k.it h' (n+1) l2 0->(∀c o,s.heap.get? c=some o->h'.get? c=some o)->Q (.ref (n+4)) { s with heap:=h' }):
  o_ (s_ prog w) A (call (type "zip") ([l1,l2].map b_.ref)) Q E s:=
 callType_new F.called_zip (by decide) (F.typeCall_zip_2 _ _) (F.newCall_zip_2 _ _) (λobj=>F.args_object_init_3 obj _ _) F.entry_zip_new (En ok l1 l2 xs ys) ⟨cG,cE,λh' b1 b2 b3 b4 b5 b6=>⟨⟨_,b1,rfl⟩,made _ h' rfl b1 b2 b3 b4 b5 b6⟩⟩
end
section
variable{k:Kd}
noncomputable def Itz(rd:Hp->l_->List V->Prop)(l1 l2:l_):It:=
 ⟨λi H=>∃xs ys x y,rd H l1 xs/\rd H l2 ys/\xs[i]?=some x/\ys[i]?=some y,
  λi H v H'=>∃p x y,H p=none/\v=.ref p/\H'=upd H p (.tup [x,y])/\(∀xs,rd H l1 xs->xs[i]?=some x)/\(∀ys,rd H l2 ys->ys[i]?=some y),
  λi H=>∃xs ys,rd H l1 xs/\rd H l2 ys/\(xs.length<=i\/ys.length<=i)⟩
structure KdRd(K:PySem.W.Frag)(k:Kd)(rd:Hp->l_->List V->Prop):Prop where
 of:∀{X:Cx}{aa:List (l_×Obj)}{U:L2.St}{H:Hp}{s:d_}{a:l_}{xs:List V},X.K=K->Inv X aa U H s->rd H a xs->∃ae:List b_,Vals xs ae/\k.sq s.heap a ae.toArray
 inj:∀{X:Cx}{aa:List (l_×Obj)}{U:L2.St}{H:Hp}{s:d_}{a:l_}{xs ys:List V},X.K=K->Inv X aa U H s->rd H a xs->rd H a ys->xs=ys
theorem xT(K:PySem.W.Frag):KdRd K kdL (λH a xs=>SqL K H a xs) where
 of:=λe I h=>by subst e;obtain⟨ae,r,t,_⟩:=I.list h;exact⟨ae,r,t.isList⟩
 inj:=λe I h h'=>by subst e;exact I.list_inj h h'
theorem z9(K:PySem.W.Frag):KdRd K kdT (λH a xs=>SqT K H a xs) where
 of:=λe I h=>by subst e;obtain⟨ae,r,t,_⟩:=I.tuple h;exact⟨ae,r,t⟩
 inj:=λe I h h'=>by subst e;exact I.tuple_inj h h'
theorem Mq{P:C_}{w:J_}{K:PySem.W.Frag}{rd:Hp->l_->List V->Prop}(ok:KdOk k)(kr:KdRd K k rd){TI TO i1 i2:l_}(D:Ut z TI TO i1 i2 l1 l2):
  Turn P w K (.Tuple bz x1 tp) (Itz rd l1 l2) [z,TI,TO,i1,i2] z (λi h=>Tc h z TI TO .none/\Pd h TI (.ref i1) (.ref i2)/\(∃a b,Pd h TO a b)/\k.it h i1 l1 i/\k.it h i2 l2 i) where
 mem:=by simp
 obj:=λi h st b hb=>by
  obtain⟨a1,a2,⟨x,y,a3⟩,a4,a5⟩:=st;rw[r_,r_,r_,r_,n_] at hb
  rcases hb with rfl | rfl | rfl | rfl | rfl
  ·exact⟨_,a1,λv q=>by cases(show fields _=Rx v from q)⟩
  ·exact⟨_,a2,λv q=>by cases(show seq _ _=Rx v from q)⟩
  ·exact⟨_,a3,λv q=>by cases(show seq _ _=Rx v from q)⟩
  ·exact ok.itObj a4
  ·exact ok.itObj a5
 keep:=λi h h' st kk=>by
  obtain⟨a1,a2,⟨x,y,a3⟩,a4,a5⟩:=st;exact⟨kk _ (by simp) _ a1,kk _ (by simp) _ a2,⟨x,y,kk _ (by simp) _ a3⟩,ok.itAt a4 λo e=>kk _ (by simp) o e,ok.itAt a5 λo e=>kk _ (by simp) o e⟩
 item:=by
  intro X hP hw hK hc i aa s U H E I hf st hg;subst hP hw;obtain⟨a1,a2,⟨av,bv,a3⟩,a4,a5⟩:=st;obtain⟨xs,ys,x,y,g1,g2,g3,g4⟩:=hg;obtain⟨ae,r1,t1⟩:=kr.of hK I g1;obtain⟨aY,r2,t2⟩:=kr.of hK I g2;obtain⟨u1,e1,e2⟩:=r1.get g3;obtain⟨u2,e3,e4⟩:=r2.get g4;have hT:s.TypeIs (.ref z) "zip":=⟨_,a1,rfl⟩;unfold QF;refine a_ (Qb (OM (name:=Re "__next__") hT PM (ON PM hT RA (Ah ok D a1 a2 a3 a4 a5 t1 t2 ?_ ?_) (Ri _))))
  case refine_2 =>
   intro non;have f1:ae.toArray[i]?=some u1:=by simpa using e1
   have f2:aY.toArray[i]?=some u2:=by simpa using e3
   rw[f1,f2] at non
   rcases non with non | non<;>cases non
  intro y1 y2 k1 k2 h' ⟨_,b5⟩ b1 b2 ⟨b3,b4⟩ b7;have f1:ae.toArray[i]?=some u1:=by simpa using e1
  have f2:aY.toArray[i]?=some u2:=by simpa using e3
  rw[f1] at k1;cases k1;rw[f2] at k2;cases k2;refine⟨_,rfl,c_ ⟨.ref s.heap.objs.size,rfl,wpAny_letOwnedTupleGo_zip b1 λh2 c1 c2=>?_⟩⟩;have lt:∀{b o},s.heap.get? b=some o->b≠s.heap.objs.size:=λ{b o} e=>OI (H_ e)
  have gP:=lt a1;have lP:=lt a2;have lQ:=lt a3
  have kk:∀b u,b∉[z,TI,TO,i1,i2]->s.heap.get? b=some u->h2.get? b=some u:=λb u hb e=>by
   simp only[r_,QI,or_false,not_or] at hb;exact c2.extBut _ _ hb.1 (b7 b u ⟨hb.1,hb.2.2.1,hb.2.2.2.1,hb.2.2.2.2⟩ e)
  have pT:Pd h2 s.heap.objs.size u1 u2:=c2.extBut _ _ (O4 gP) b5;have I1:Inv X aa U (upd H s.heap.objs.size (.tup [x,y])) { s with heap:=h2 }:=ye (t':=s.toks) I hf kk (v_ _) ⟨by show 2<=x_;rw[Pf];decide,[u1,u2],.cons e2 (.cons e4 .nil),⟨_,pT,rfl,_,rfl⟩⟩;have fr:=I.hok.fresh (v_ s.heap.objs.size);refine⟨.ref s.heap.objs.size,_,I1,rfl,⟨s.heap.objs.size,x,y,fr,rfl,rfl,λzs hz=>by rw[kr.inj hK I hz g1];exact g3,λzs hz=>by rw[kr.inj hK I hz g2];exact g4⟩,⟨c1,c2.extBut _ _ D.TIz (b7 _ _ ⟨D.TIz,D.TITO,D.TIi1,D.TIi2⟩ a2),⟨u1,u2,c2.extBut _ _ D.TOz b2⟩,ok.itAt b3 λo e=>c2.extBut _ _ D.i1z e,ok.itAt b4 λo e=>c2.extBut _ _ D.i2z e⟩,λb hb=>?_⟩;have gQ:=(hf b hb).1
  have nb:b≠s.heap.objs.size:=by
   rw[r_,r_,r_,r_,n_] at hb
   rcases hb with rfl | rfl | rfl | rfl | rfl
   ·exact gP
   ·exact lP
   ·exact lQ
   ·exact OI (ok.itLt a4)
   ·exact OI (ok.itLt a5)
  rw[qX nb];exact gQ
 done:=by
  intro X hP hw hK hc i aa s U H E I hf st hg;subst hP hw;obtain⟨a1,a2,⟨av,bv,a3⟩,a4,a5⟩:=st;obtain⟨xs,ys,g1,g2,g3⟩:=hg;obtain⟨ae,r1,t1⟩:=kr.of hK I g1;obtain⟨aY,r2,t2⟩:=kr.of hK I g2;have cG:=r1.length;have cE:=r2.length;have hT:s.TypeIs (.ref z) "zip":=⟨_,a1,rfl⟩;unfold QF;refine a_ (Qb (OM (name:=Re "__next__") hT PM (ON PM hT RA (Ah ok D a1 a2 a3 a4 a5 t1 t2 ?_ λ_=>⟨I.ok.hd hc,λh' e hk he=>?_⟩) (Ri _))))
  ·intro y1 y2 k1 k2;have m1:=(N_.mp k1).1;have m2:=(N_.mp k2).1;simp at m1 m2;omega
  ·obtain⟨o,ho,gR⟩:=he;refine a_ (Pw (T:= "StopIteration") (b:=true) ⟨o,ho,gR⟩ Rj ?_);refine c_ ⟨rfl,zA (t':=s.toks) I hf λb u hb e=>?_⟩;simp only[r_,QI,or_false,not_or] at hb;exact hk b u ⟨hb.1,hb.2.2.1,hb.2.2.2.1,hb.2.2.2.2⟩ e
 self:=λ_ _ _ _ _ st h=>SS st.1 h
end
section
variable{B:BB}{a b c:OU}{es:List OU}{ga gb gc:M D}
noncomputable def iZip(K:PySem.W.Frag)(ta:TA):TI:=λU H R=>ta U H λvs H1=>(∃l1 l2 xs ys,vs=[.ref l1,.ref l2]/\SqL K H1 l1 xs/\SqL K H1 l2 ys/\R (Itz (λH a xs=>SqL K H a xs) l1 l2) H1)\/(∃l1 l2 xs ys,vs=[.ref l1,.ref l2]/\SqT K H1 l1 xs/\SqT K H1 l2 ys/\R (Itz (λH a xs=>SqT K H a xs) l1 l2) H1)
theorem AT{k:Kd}{rd:Hp->l_->List V->Prop}(ok:KdOk k)(kr:KdRd X.K k rd){H:Hp}{s:d_}{R:It->Hp->Prop}{ys:List V}(I:Inv X aa U H s)(h1:rd H l1 xs)(h2:rd H l2 ys)(q:R (Itz rd l1 l2) H):
  o_ (s_ X.prog X.w) X.A (call (.type "zip") [.ref l1,.ref l2]) (λv s1=>o_ (s_ X.prog X.w) X.A (SB v) (PIE X aa U (.Tuple bz x1 tp) R) X.xe s1) X.xe s:=by
 obtain⟨ae,r1,t1⟩:=kr.of rfl I h1;obtain⟨aY,r2,t2⟩:=kr.of rfl I h2;refine A7 ok t1 t2 λn h' hn a1 a2 a3 a4 a5 a6=>SS a1 ?_
 subst hn;have I1:Inv X aa U H { s with heap:=h' }:=I.kept (t':=s.toks) a6;refine⟨s.heap.objs.size+4,[s.heap.objs.size+4,s.heap.objs.size+2,s.heap.objs.size+3,s.heap.objs.size,s.heap.objs.size+1],_,_,H,rfl,I1,Mq ok kr (zipApart_new (ok.sqLt t1) (ok.sqLt t2)),⟨a1,a2,⟨_,_,a3⟩,a4,a5⟩,λb hb=>?_,q⟩;rw[r_,r_,r_,r_,n_] at hb;have up:∀n,FpOk X aa H (s.heap.objs.size+n):=λn=>I.fpOk (Pz _ _) (I.hok.fresh (Pz _ _))
 rcases hb with rfl | rfl | rfl | rfl | rfl
 ·exact up 4
 ·exact up 2
 ·exact up 3
 ·exact up 0
 ·exact up 1
theorem Kc{p:Pos}(hg:Gl X "zip")(hm:X.mg "zip"=none)(ha:PA X [a,b] ta)(hs:g_ [a,b] X.env=[(false,O1 a X.env),(false,O1 b X.env)]:=by rfl)(bD:g_ [b] X.env=[(false,O1 b X.env)]:=by rfl):
  PI X (.Tuple bz x1 tp) (.Call (.Name "zip" p) [a,b] [] pos) (iZip X.K ta):=by
 intro aa s U H R I h;refine Vo (sw I hg hm boot_zip (OJ (thn (ha pos aa s U H _ I h) λus s1 ⟨vs,H1,I1,r1,q1⟩=>?_) (by rw[hs,bD]) (by rw[bD];rfl)))
 rcases q1 with⟨l1,l2,xs,ys,e,h1,h2,q⟩ | ⟨l1,l2,xs,ys,e,h1,h2,q⟩
 ·subst e;obtain⟨u1,u2,rfl,e1,e2⟩:=r1.two;cases e1;cases e2;exact AT yw (xT _) I1 h1 h2 q
 ·subst e;obtain⟨u1,u2,rfl,e1,e2⟩:=r1.two;cases e1;cases e2;exact AT yO (z9 _) I1 h1 h2 q
noncomputable def pairsD(xs ys:List D):List D:=(xs.zip ys).map λp=>.tup [p.1,p.2]
noncomputable def zipI(ds:List D):Option (List D):=match ds with
 | [.lst xs,.lst ys]=>some (pairsD xs ys)
 | [.tup xs,.tup ys]=>some (pairsD xs ys)
 | _=>none
theorem vC{K:PySem.W.Frag}{rd:Hp->l_->List V->Prop}{ys:List V}{es:List D}(mono:∀{H a xs},Same I H->rd I a xs->rd H a xs)(inj:∀{H},Same I H->(∀zs,rd H l1 zs->zs=xs)/\(∀zs,rd H l2 zs->zs=ys)\/True)(h1:rd I l1 xs)(h2:rd I l2 ys)(i1:IsA K I ds xs)(i2:IsA K I es ys):Yields K I (pairsD ds es) (Itz rd l1 l2):=λi H s=>by
 have L1:=i1.length;have L2:=i2.length;refine⟨λd hd=>?_,λhi=>⟨xs,ys,mono s h1,mono s h2,?_⟩⟩
 ·unfold pairsD at hd;obtain⟨q,e1,rfl⟩:=getMap hd;obtain⟨e2,e3⟩:=QT.mp e1;obtain⟨x,f1,f2⟩:=i1.get e2;obtain⟨y,f3,f4⟩:=i2.get e3;refine⟨⟨xs,ys,x,y,mono s h1,mono s h2,f1,f3⟩,λv H2 hy=>?_⟩;obtain⟨p,x',y',g1,g2,g3,g4,g5⟩:=hy;have k1:=g4 xs (mono s h1);have k2:=g5 ys (mono s h2);rw[f1] at k1;cases k1;rw[f3] at k2;cases k2;exact .inr ⟨p,[q.1,q.2],[x,y],rfl,g2,g1,g3,IsA.cons f2 (IsA.cons f4 IsA.nil)⟩
 ·unfold pairsD at hi;rw[w_,Vd] at hi;omega
theorem zv{p:Pos}{t:M (List D)}(hg:Gl X "zip")(hm:X.mg "zip"=none)(ha:AD X B [a,b] t)(hs:g_ [a,b] X.env=[(false,O1 a X.env),(false,O1 b X.env)]:=by rfl)(bD:g_ [b] X.env=[(false,O1 b X.env)]:=by rfl):
  ITD X B (.Tuple bz x1 tp) (.Call (.Name "zip" p) [a,b] [] pos) (fn1 zipI t):=PI.imp (Kc hg hm ha hs bD) λU H R q=>by
 obtain⟨G,I,Y,ds,af,r,e1,k⟩:=q;obtain⟨d,ac,e2,e3⟩:=qT e1;obtain⟨e4,rfl⟩:=rp e3;refine⟨G,I,Y,d,_,r,e2,λvs H1 I1 r1 g1 hd=>?_⟩;unfold zipI at e4;split at e4
 ·cases e4;obtain⟨x,y,rfl,hx,hy⟩:=hd.two;obtain⟨l1,xs,rfl,h1,h2⟩:=rl hx;obtain⟨l2,ys,rfl,h3,h4⟩:=rl hy;exact .inl ⟨l1,l2,xs,ys,rfl,(Same.rdK r1.iH h1).sq,(Same.rdK r1.iH h3).sq,k _ _ _ r1 g1 (vC (λs h=>by rcases h with h | h;exact .inl (Same.rd s h);exact .inr h) (λ_=>.inr trivial) h1.sq h3.sq h2 h4)⟩
 ·cases e4;obtain⟨x,y,rfl,hx,hy⟩:=hd.two;obtain⟨l1,xs,rfl,h1,h2⟩:=rm hx;obtain⟨l2,ys,rfl,h3,h4⟩:=rm hy;exact .inr ⟨l1,l2,xs,ys,rfl,Same.sqT r1.iH h1,Same.sqT r1.iH h3,k _ _ _ r1 g1 (vC (λs h=>Same.sqT s h) (λ_=>.inr trivial) h1 h3 h2 h4)⟩
 ·cases e4
section
variable {k:Kd}
theorem drawsK(ok:KdOk k){prog:C_}{w:J_}(hh:A.handled=none)(it l:l_)(dG:l≠it)(ai:Array b_):Draws prog w A it [it,l] ai.size (λi v=>ai[i]?=some v) (λi h=>k.it h it l i/\k.sq h l ai) where
 live:=λi h st=>by obtain⟨o,e,_⟩:=ok.itObj st.1;exact⟨o,e⟩
 frame:=λi h h' st kk=>⟨ok.itAt st.1 λo e=>kk _ (by simp) o e,ok.sqAt st.2 λo e=>kk _ (by simp) o e⟩
 item:=λi s Q E hi st hQ=>ok.item st.1 st.2 (x:=ai[i]) (by simp[hi]) λh' h1 h2=>hQ _ h' s.toks (by simp[hi]) ⟨h1,ok.sqAt st.2 λo e=>h2.extBut _ _ dG e⟩ h2
 done:=λs Q E st hE=>ok.stop hh st.1 st.2 (by simp) hE
theorem FA(ok:KdOk k)(l:l_)(ai:Array b_):
  Meets (P3.«enumerate.__new__» ⟨[.type "enumerate", .ref l],[]⟩) (λ_ R s=>k.sq s.heap l ai ∧
   R (.ok (.ret (.ref (s.heap.push { cls:=.type k.nm,data:=.fields #[.ref l,.int 0 0] }).objs.size)))
    { s with heap:=(s.heap.push { cls:=.type k.nm,data:=.fields #[.ref l,.int 0 0] }).push { cls:=.type "enumerate", data:=.fields #[.none,.bool false,.ref s.heap.objs.size,PX 0,.none,.none] } }):=
 .of_wp λprog w A R s h=>by
  obtain⟨hp,gn,dw,tk,os⟩:=s;obtain⟨hl,h⟩:=h;have gO:=sub_enumerate;have hL:k.sq (d_.heap ⟨hp,gn,dw,tk,os⟩) l ai:=hl
  wp_walk using ok.iter hL
  refine wpAny_stack_any λframes=>c_ ?_
  split
  next c _ _ _ _ _=>cases c == type "enumerate"<;>(wp_walk using ok.iter hL;exact⟨_,rfl,h⟩)
  next=>wp_walk using ok.iter hL;exact⟨_,rfl,h⟩
end
end
section
variable{prog:C_}{w:J_}{E:b_->d_->Prop}{s:d_}{k:Kd}
noncomputable abbrev en1(k:Kd)(h:I_)(l:l_):I_:=h.push { cls:=.type k.nm,data:=.fields #[.ref l,.int 0 0] }
noncomputable abbrev en2(k:Kd)(h:I_)(l:l_):I_:=(en1 k h l).push { cls:=.type "enumerate", data:=.fields #[.none,.bool false,.ref h.objs.size,PX 0,.none,.none] }
theorem HH(ok:KdOk k){l:l_}{Q:b_->d_->Prop}(hL:k.sq s.heap l ai)(made:∀n g,n=s.heap.objs.size->IsEnum g (n+1) n 0 .none->k.it g n l 0->(∀b o,s.heap.get? b=some o->g.get? b=some o)->Q (.ref (n+1)) { s with heap:=g }):
  o_ (s_ prog w) A (call (type "enumerate") ([l].map b_.ref)) Q E s:=by
 have cV:(en1 k s.heap l).objs.size=s.heap.objs.size+1:=P5 ..;have iS:(en2 k s.heap l).get? (en1 k s.heap l).objs.size=some _:=t_ _ rfl;rw[cV] at iS;refine callType_new F.called_enumerate (by decide) (F.typeCall_enumerate_1 _) (F.newCall_enumerate_1 _) (λobj=>F.args_object_init_2 obj _) F.entry_enumerate_new (FA ok l ai) ⟨hL,?_⟩;have put:Q (.ref (s.heap.objs.size+1)) { s with heap:=en2 k s.heap l }:=made _ _ rfl iS (ok.itAt ok.new λo e=>e_ _ e) λb o x=>e_ _ (e_ _ x)
 rw[←cV] at put iS;exact⟨⟨_,iS,rfl⟩,put⟩
end
section
variable{B:BB}{a b c:OU}{es:List OU}{ga gb gc:M D}{k:Kd}
noncomputable def Ite(rd:Hp->l_->List V->Prop)(l:l_):It:=
 ⟨λi H=>∃xs x,rd H l xs/\xs[i]?=some x,λi H v H'=>∃p x,H p=none/\v=.ref p/\H'=upd H p (.tup [.int i,x])/\(∀xs,rd H l xs->xs[i]?=some x),λi H=>∃xs,rd H l xs/\xs.length<=i⟩
theorem FH{P:C_}{w:J_}{K:PySem.W.Frag}{rd:Hp->l_->List V->Prop}(ok:KdOk k)(kr:KdRd K k rd){it l:l_}(j7:z≠it)(lR:l≠it)(ox:z≠l):
  Turn P w K (.Tuple bz x1 tp) (Ite rd l) [z,it] z (λi h=>(∃old,IsEnum h z it i old)/\k.it h it l i) where
 mem:=by simp
 obj:=λi h st b hb=>by
  obtain⟨⟨old,a1⟩,a2⟩:=st;rw[r_,n_] at hb
  rcases hb with rfl | rfl
  ·exact⟨_,a1,λv q=>by cases(show fields _=Rx v from q)⟩
  ·exact ok.itObj a2
 keep:=λi h h' st kk=>by
  obtain⟨⟨old,a1⟩,a2⟩:=st;exact⟨⟨old,kk _ (by simp) _ a1⟩,ok.itAt a2 λo e=>kk _ (by simp) o e⟩
 item:=by
  intro X hP hw hK hc i aa s U H E I hf st hg;subst hP hw;obtain⟨⟨old,a1⟩,a2⟩:=st;obtain⟨xs,x,g1,g3⟩:=hg;obtain⟨ae,r1,t1⟩:=kr.of hK I g1;obtain⟨u1,e1,e2⟩:=r1.get g3
  have aQ:i < ae.toArray.size:=by
   have:=(p_.mp e1).1;simpa using this
  have D:=drawsK ok (prog:=X.prog) (w:=X.w) (A:=X.A.in1) (I.ok.hd hc) it l lR ae.toArray;refine wpAny_pyNext_enum_itemD D a1 ⟨a2,t1⟩ aQ j7 (by simp[j7,ox]) λy h' tk b0 b1 b2 b3 b4 b5=>?_
  have hy:y=u1:=by
   have eY:ae.toArray[i]?=some u1:=by simpa using e1
   have lU:ae.toArray[i]?=some y:=b0;rw[eY] at lU;cases lU;rfl
  subst hy;refine⟨.ref s.heap.objs.size,rfl,wpAny_letOwnedTupleGo_enum b1 λh2 c1 c2=>?_⟩;have gP:z≠s.heap.objs.size:=OI (H_ a1);have oy:it≠s.heap.objs.size:=OI (ok.itLt a2)
  have kk:∀b u,b∉[z,it]->s.heap.get? b=some u->h2.get? b=some u:=λb u hb e=>by
   simp only[r_,QI,or_false,not_or] at hb;exact c2.extBut _ _ hb.1 (b5 b u hb.1 hb.2 e)
  have pT:=c2.extBut _ _ (O4 gP) b3;have I1:Inv X aa U (upd H s.heap.objs.size (.tup [.int i,x])) { s with heap:=h2,toks:=tk+1 }:=ye (t':=tk+1) I hf kk (v_ _) ⟨by show 2<=x_;rw[Pf];decide,[.int i tk,y],.cons ⟨_,rfl⟩ (.cons e2 .nil),⟨_,pT,rfl,_,rfl⟩⟩;have fr:=I.hok.fresh (v_ s.heap.objs.size);refine⟨.ref s.heap.objs.size,_,I1,rfl,⟨s.heap.objs.size,x,fr,rfl,rfl,λzs hz=>by rw[kr.inj hK I hz g1];exact g3⟩,⟨⟨y,c1⟩,ok.itAt b2.1 λo e=>c2.extBut _ _ j7.symm e⟩,λb hb=>?_⟩;have gQ:=(hf b hb).1
  have nb:b≠s.heap.objs.size:=by
   rw[r_,n_] at hb
   rcases hb with rfl | rfl
   ·exact gP
   ·exact oy
  rw[qX nb];exact gQ
 done:=by
  intro X hP hw hK hc i aa s U H E I hf st hg;subst hP hw;obtain⟨⟨old,a1⟩,a2⟩:=st;obtain⟨xs,g1,g3⟩:=hg;obtain⟨ae,r1,t1⟩:=kr.of hK I g1;have cG:=r1.length;have hT:s.TypeIs (.ref z) "enumerate":=⟨_,a1,rfl⟩;have hx:ae.toArray[i]?=none:=by simp;omega
  unfold QF;refine a_ (Qb (OM (name:=Re "__next__") hT Td (ON Td hT F.entry_enumerate_next (a_ (PC (a:=(b_.ref z,[])) rfl (a_ (OX (i:=2) a1 rfl (x:=.ref it) rfl ?_)))) (F.args_enumerate_next_1 _))));refine a_ (ok.stop (I.ok.hd hc) a2 t1 hx λh' x ef de=>?_);obtain⟨o,ho,gR⟩:=de;refine a_ (Pw (T:= "StopIteration") (b:=true) ⟨o,ho,gR⟩ Rj ?_);refine c_ ⟨rfl,zA (t':=s.toks) I hf λb u hb e=>?_⟩;simp only[r_,QI,or_false,not_or] at hb;exact ef b u hb.2 e
 self:=λ_ _ _ _ _ st h=>by obtain⟨⟨old,a1⟩,_⟩:=st;exact Uv a1 h
noncomputable def iEnum(K:PySem.W.Frag)(ta:TA):TI:=λU H R=>ta U H λvs H1=>(∃l xs,vs=[.ref l]/\SqL K H1 l xs/\R (Ite (λH a xs=>SqL K H a xs) l) H1)\/(∃l xs,vs=[.ref l]/\SqT K H1 l xs/\R (Ite (λH a xs=>SqT K H a xs) l) H1)
theorem Bk{rd:Hp->l_->List V->Prop}(ok:KdOk k)(kr:KdRd X.K k rd){H:Hp}{s:d_}{R:It->Hp->Prop}{l:l_}(I:Inv X aa U H s)(h1:rd H l xs)(q:R (Ite rd l) H):
  o_ (s_ X.prog X.w) X.A (call (.type "enumerate") [.ref l]) (λv s1=>o_ (s_ X.prog X.w) X.A (SB v) (PIE X aa U (.Tuple bz x1 tp) R) X.xe s1) X.xe s:=by
 obtain⟨ae,r1,t1⟩:=kr.of rfl I h1;refine HH ok t1 λn h' hn a1 a4 a6=>Uv a1 ?_
 subst hn;have I1:Inv X aa U H { s with heap:=h' }:=I.kept (t':=s.toks) a6;have lt:=ok.sqLt t1;refine⟨s.heap.objs.size+1,[s.heap.objs.size+1,s.heap.objs.size],_,_,H,rfl,I1,FH ok kr (Nat.succ_ne_self _) (OI lt) (Q_ (RD lt)),⟨⟨_,a1⟩,a4⟩,λb hb=>?_,q⟩;rw[r_,n_] at hb;have up:∀n,FpOk X aa H (s.heap.objs.size+n):=λn=>I.fpOk (Pz _ _) (I.hok.fresh (Pz _ _))
 rcases hb with rfl | rfl
 ·exact up 1
 ·exact up 0
theorem Jy{p:Pos}(hg:Gl X "enumerate")(hm:X.mg "enumerate"=none)(ha:PA X [a] ta)(hs:g_ [a] X.env=[(false,O1 a X.env)]:=by rfl):
  PI X (.Tuple bz x1 tp) (.Call (.Name "enumerate" p) [a] [] pos) (iEnum X.K ta):=by
 intro aa s U H R I h;refine Vo (sw I hg hm boot_enumerate (OJ (thn (ha pos aa s U H _ I h) λus s1 ⟨vs,H1,I1,r1,q1⟩=>?_) hs rfl))
 rcases q1 with⟨l1,xs,e,h1,q⟩ | ⟨l1,xs,e,h1,q⟩
 ·subst e;obtain⟨u1,rfl,e1⟩:=r1.one;cases e1;exact Bk yw (xT _) I1 h1 q
 ·subst e;obtain⟨u1,rfl,e1⟩:=r1.one;cases e1;exact Bk yO (z9 _) I1 h1 q
noncomputable def numD:Nat->List D->List D
 | _,[]=>[]
 | n,d::ds=>.tup [.int n,d]::numD (n+1) ds
theorem uW:∀{ds:List D}{n i:Nat}{d:D},(numD n ds)[i]?=some d->∃x,ds[i]?=some x/\d=.tup [.int ((n+i:Nat):Int),x]
 | [],n,i,d,h=>by rw[numD] at h;simp at h
 | c::ds,n,0,d,h=>by rw[numD] at h;simp at h;exact⟨c,rfl,h.symm⟩
 | c::ds,n,i+1,d,h=>by
  rw[numD] at h;obtain⟨x,e1,e2⟩:=uW (i:=i) (by simpa using h);refine⟨x,by simpa using e1,?_⟩;rw[e2,show n+1+i=n+(i+1) from by omega]
theorem Dz:∀(ds:List D) (n:Nat),(numD n ds).length=ds.length
 | [],n=>by rw[numD]
 | c::ds,n=>by rw[numD,OQ,OQ,Dz ds]
noncomputable def enumI(ds:List D):Option (List D):=match ds with
 | [.lst xs]=>some (numD 0 xs)
 | [.tup xs]=>some (numD 0 xs)
 | _=>none
theorem Eh{K:PySem.W.Frag}{rd:Hp->l_->List V->Prop}{l:l_}(mono:∀{H a xs},Same I H->rd I a xs->rd H a xs)(h1:rd I l xs)(i1:IsA K I ds xs):Yields K I (numD 0 ds) (Ite rd l):=λi H s=>by
 refine⟨λd hd=>?_,λhi=>⟨xs,mono s h1,?_⟩⟩
 ·obtain⟨y,e1,rfl⟩:=uW hd;obtain⟨x,f1,f2⟩:=i1.get e1;refine⟨⟨xs,x,mono s h1,f1⟩,λv H2 hy=>?_⟩;obtain⟨p,x',g1,g2,g3,g4⟩:=hy;have k1:=g4 xs (mono s h1);rw[f1] at k1;cases k1;refine .inr ⟨p,_,[.int i,x],rfl,g2,g1,g3,IsA.cons ?_ (IsA.cons f2 IsA.nil)⟩;rw[Ve];exact Is.int _
 ·rw[Dz,i1.length] at hi;exact hi
theorem wL{p:Pos}{t:M (List D)}(hg:Gl X "enumerate")(hm:X.mg "enumerate"=none)(ha:AD X B [a] t)(hs:g_ [a] X.env=[(false,O1 a X.env)]:=by rfl):
  ITD X B (.Tuple bz x1 tp) (.Call (.Name "enumerate" p) [a] [] pos) (fn1 enumI t):=PI.imp (Jy hg hm ha hs) λU H R q=>by
 obtain⟨G,I,Y,ds,af,r,e1,k⟩:=q;obtain⟨d,ac,e2,e3⟩:=qT e1;obtain⟨e4,rfl⟩:=rp e3;refine⟨G,I,Y,d,_,r,e2,λvs H1 I1 r1 g1 hd=>?_⟩;unfold enumI at e4;split at e4
 ·cases e4;obtain⟨x,rfl,hx⟩:=hd.one;obtain⟨l1,xs,rfl,h1,h2⟩:=rl hx;exact .inl ⟨l1,xs,rfl,(Same.rdK r1.iH h1).sq,k _ _ _ r1 g1 (Eh (λs h=>by rcases h with h | h;exact .inl (Same.rd s h);exact .inr h) h1.sq h2)⟩
 ·cases e4;obtain⟨x,rfl,hx⟩:=hd.one;obtain⟨l1,xs,rfl,h1,h2⟩:=rm hx;exact .inr ⟨l1,xs,rfl,Same.sqT r1.iH h1,k _ _ _ r1 g1 (Eh (λs h=>Same.sqT s h) h1 h2)⟩
 ·cases e4
noncomputable def blsD:List D->Option (List Bool)
 | []=>some []
 | .bl b::ds=>match blsD ds with
  | some bs=>some (b::bs)
  | none=>none
 | _=>none
theorem xC:∀{ds:List D}{bs:List Bool},blsD ds=some bs->ds=bs.map .bl
 | [],bs,h=>by rw[blsD] at h;cases h;rfl
 | .bl b::ds,bs,h=>by
  rw[blsD] at h;cases e:blsD ds with
  | none=>rw[e] at h;cases h
  | some cs=>rw[e] at h;cases h;rw[xC e];rfl
 | .non::_,_,h=>by cases h
 | .int _::_,_,h=>by cases h
 | .str _::_,_,h=>by cases h
 | .tup _::_,_,h=>by cases h
 | .lst _::_,_,h=>by cases h
theorem yy{K:PySem.W.Frag}{I:Hp}:∀{bs:List Bool}{xs:List V},IsA K I (bs.map .bl) xs->xs=bs.map .bl
 | [],xs,h=>h.nil_inv
 | b::bs,xs,h=>by
  obtain⟨x,r,rfl,h1,h2⟩:=h.cons_inv;rw[r9 h1,yy h2];rfl
theorem yQ:∀{bs:List Bool}{us:List b_},Vals (bs.map .bl) us->us=bs.map .bool
 | [],us,h=>by cases h;rfl
 | b::bs,us,h=>by
  cases h with
  | cons r t=>rw[yQ t];cases r;rfl
theorem Lg(bs:List Bool):(Pk bs.length).all (λi=>bs.getD i true)=bs.all id:=by
 induction bs with
 | nil=>rfl
 | cons b bs ih =>
  rw[OQ,QC,Qh,List.all_map,Qh]
  congr 1
theorem Jr(bs:List Bool):(Pk bs.length).any (λi=>bs.getD i true)=bs.any id:=by
 induction bs with
 | nil=>rfl
 | cons b bs ih =>
  rw[OQ,QC,RK,List.any_map,RK]
  congr 1
theorem ID(hc:X.calm=true):CallR X (.builtin "all") (λxs H Q=>∃(p:l_) (bs:List Bool),xs=[.ref p]/\SqL X.K H p (bs.map .bl)/\Q (.bl (bs.all id)) H):=by
 intro aa s U H xs us Q I r h;obtain⟨p,bs,rfl,hq,q⟩:=h;obtain⟨u,rfl,ru⟩:=vals1 r;cases ru;obtain⟨ae,rv,t,hz⟩:=I.list hq;have:=yQ rv;subst this;have lt:p < s.heap.objs.size:=by obtain⟨_,e,_⟩:=t.isList;exact H_ e
 refine call_all_walk (P9 t.isList ?_);refine⟨s.heap.objs.size,_,_,_,_,_,λi=>bs.getD i true,rfl,Ug (A:=X.A.in1) (I.ok.hd hc) s.heap.objs.size p (OI lt) _,⟨⟨_,t_ _ rfl,rfl,rfl⟩,t.isList.push _⟩,?_,?_⟩
 ·intro i v s' Q' E' hv hQ;have bY:(bs.map b_.bool)[i]?=some v:=by simpa using hv
  obtain⟨b,e1,rfl⟩:=getMap bY;have hQ:Q' (bs.getD i true) s':=hQ;rw[i_,e1] at hQ;exact Pe hQ
 ·intro h' tk kk;have e1:(bs.map b_.bool).toArray.size=bs.length:=by simp
  rw[e1,Lg];refine⟨.bl (bs.all id),H,I.kept λb o e=>kk b o (by simp only[n_];exact OI (H_ e)) (e_ _ e),rfl,q⟩
theorem Im(hc:X.calm=true):CallR X (.builtin "any") (λxs H Q=>∃(p:l_) (bs:List Bool),xs=[.ref p]/\SqL X.K H p (bs.map .bl)/\Q (.bl (bs.any id)) H):=by
 intro aa s U H xs us Q I r h;obtain⟨p,bs,rfl,hq,q⟩:=h;obtain⟨u,rfl,ru⟩:=vals1 r;cases ru;obtain⟨ae,rv,t,hz⟩:=I.list hq;have:=yQ rv;subst this;have lt:p < s.heap.objs.size:=by obtain⟨_,e,_⟩:=t.isList;exact H_ e
 refine call_any_walk (P9 t.isList ?_);refine⟨s.heap.objs.size,_,_,_,_,_,λi=>bs.getD i true,rfl,Ug (A:=X.A.in1) (I.ok.hd hc) s.heap.objs.size p (OI lt) _,⟨⟨_,t_ _ rfl,rfl,rfl⟩,t.isList.push _⟩,?_,?_⟩
 ·intro i v s' Q' E' hv hQ;have bY:(bs.map b_.bool)[i]?=some v:=by simpa using hv
  obtain⟨b,e1,rfl⟩:=getMap bY;have hQ:Q' (bs.getD i true) s':=hQ;rw[i_,e1] at hQ;exact Pe hQ
 ·intro h' tk kk;have e1:(bs.map b_.bool).toArray.size=bs.length:=by simp
  rw[e1,Jr];refine⟨.bl (bs.any id),H,I.kept λb o e=>kk b o (by simp only[n_];exact OI (H_ e)) (e_ _ e),rfl,q⟩
noncomputable def allF(ds:List D):Option D:=match ds with
 | [.lst xs]=>match blsD xs with
  | some bs=>some (.bl (bs.all id))
  | none=>none
 | _=>none
noncomputable def anyF(ds:List D):Option D:=match ds with
 | [.lst xs]=>match blsD xs with
  | some bs=>some (.bl (bs.any id))
  | none=>none
 | _=>none
theorem A1{p:Pos}{t:M (List D)}(hc:X.calm=true)(hg:Gl X "all")(hm:X.mg "all"=none)(ha:AD X B [e] t)(he:g_ [e] X.env=(false,O1 e X.env)::g_ [] X.env:=by rfl)(aK:(Pa pos (g_ [] X.env)).any (·.1)=false:=by rfl):
  ED X B (.Call (.Name "all" p) [e] [] pos) (fn1 allF t):=uu (ID hc) (λds d e B G I H U Y xs Q r h k=>by
 unfold allF at e;split at e
 ·split at e
  ·rename_i bs eb;cases e;have:=xC eb;subst this;obtain⟨x,rfl,hx⟩:=h.one;obtain⟨q,zs,rfl,h3,h4⟩:=rl hx;have:=yy h4;subst this;exact⟨q,bs,rfl,(Same.rdK r.iH h3).sq,k.now r (Is.bl _)⟩
  ·cases e
 ·cases e) hg hm boot_all ha (by decide) (by decide) he aK
theorem HR{p:Pos}{t:M (List D)}(hc:X.calm=true)(hg:Gl X "any")(hm:X.mg "any"=none)(ha:AD X B [e] t)(he:g_ [e] X.env=(false,O1 e X.env)::g_ [] X.env:=by rfl)(aK:(Pa pos (g_ [] X.env)).any (·.1)=false:=by rfl):
  ED X B (.Call (.Name "any" p) [e] [] pos) (fn1 anyF t):=uu (Im hc) (λds d e B G I H U Y xs Q r h k=>by
 unfold anyF at e;split at e
 ·split at e
  ·rename_i bs eb;cases e;have:=xC eb;subst this;obtain⟨x,rfl,hx⟩:=h.one;obtain⟨q,zs,rfl,h3,h4⟩:=rl hx;have:=yy h4;subst this;exact⟨q,bs,rfl,(Same.rdK r.iH h3).sq,k.now r (Is.bl _)⟩
  ·cases e
 ·cases e) hg hm boot_any ha (by decide) (by decide) he aK
noncomputable def reprF(ds:List D):Option D:=match ds with
 | [.bl b]=>some (.str (if b then "True" else "False"))
 | _=>none
end
theorem CompScope.of{cp sc:R5}{N N':List Str}(h:decide (sc.kind=.function/\(∀y∈sc.names,y.2≠.cell)/\(∀y∈sc.names,y.2=.local->sc.names.lookup y.1=some .local)/\(∀y∈sc.names,y.2=.free->cp.names.lookup y.1=some .cell\/cp.names.lookup y.1=some .free)/\N'.Nodup/\N'.length=m+N.length ∧
   (∀p∈(N'.drop m).zip N,((relab sc cp).names.lookup p.1=none)\/(p.1=p.2/\(relab sc cp).names.lookup p.1≠some .local)))=true):CompScope cp sc N N' m:=by
 obtain⟨h1,h2,h3,h4,h5,h6,h7⟩:=of_decide_eq_true h;exact⟨h1,h2,h3,h4,h5,h6,h7⟩
theorem tJ{P:C_}{w:J_}{K:PySem.W.Frag}{ps:List Str}:FnOk P w K mg base CX0 k f fd ps (spD K λ_=>none):=by
 have no:∀vs H Q E,¬spD K (λ_=>none) vs H Q E:=λvs H Q E h=>by
  obtain⟨_,_,_,_,_,_,_,h,_⟩:=h;cases h
 exact⟨λvs H Q E h=>absurd h (no vs H Q E),λA outer s H args us vs Q E _ _ _ _ h=>absurd h (no vs H Q E)⟩
theorem HA{K:PySem.W.Frag}{H:Hp}{g:List R->Option (R×List R)}(lr:RdK K H a (ns.map V.int))(hg:∃rs,g [.val (.lst (ns.map D.int))]=some (.val (.bl true),rs)):spD K g [.ref a] H (λv _=>v=.bl true) λ_ _ _=>False:=by
 obtain⟨rs,hg⟩:=hg
 have lV:∀ns:List Int,IsA K H (ns.map D.int) (ns.map V.int):=λns=>by
  induction ns with
  | nil=>exact IsA.nil
  | cons n ns ih=>exact IsA.cons (Is.int n) ih
 refine⟨H,H,[.val (.lst (ns.map D.int))],.val (.bl true),rs,?_,rfl,hg,λv H' I' r g' hv=>r9 (K:=K) (I:=I') hv⟩;refine⟨Same.refl _,Same.refl _,rfl,λi r e=>?_,λi j r r' v e e' m=>?_,λi ds e=>rfl⟩
 ·match i,e with
  | 0,e=>cases e;exact⟨_,rfl,Is.lst lr (lV ns)⟩
 ·match i,e with
  | 0,e=>cases e;cases m
theorem Mb{P:C_}{w:J_}{K:PySem.W.Frag}{mb:Str->Option b_}{CX:CXT}{sp:Sp}(KX:K.In ay.heap)(gI:ay.heap.Ns Pr mg)(hb:ay.heap.Ns UV mb)(oz:∀x:Str,x ≠ "__name__"->mb x=P7 x)(fC:ay.heap.NoLimit)(hg:ay.gens=#[])(ha:ay.heap.get? a=some { cls:=.type "list", data:=.seq vs.toArray })(hi:US vs ns)(hl:ns.length<=x_)(hr:Room k TM)(F:∀base:I_,K.In base->base.Ns Pr mg->FnOk P w K mg base CX k fa fd [x] sp)(j8:∀(s:d_) (u:b_),Ul s fd ⟨[u],[]⟩ [(x,u)])(dX:∀H:Hp,Only H->RdK K H a (ns.map V.int)->sp [.ref a] H (λv _=>v=.bl true) λ_ _ _=>False)(j9:∀H e s',CX [] H ay (λ_ _ _=>False) e s'->False):
  Ra (s_ P w) TM (.call (.ref fa) ⟨[.ref a],[]⟩) (λr s'=>r=.ok (.ret (.bool true))/\OldK ay.heap s'.heap/\s'.os=ay.os/\So s'.gens) ay:=by
 have rv:=BN hi;have lW:=hi.length
 -- from an abstract heap in which nothing but the script may be cM
 have jF:∀H:Hp,Only H->RdK K H a (ns.map V.int)->HOk P w H ay.heap->(∀b,H b≠none->b=a)->(H a≠none->K.lookup a=none) →
   Ra (s_ P w) TM (.call (.ref fa) ⟨[.ref a],[]⟩) (λr s'=>r=.ok (.ret (.bool true))/\OldK ay.heap s'.heap/\s'.os=ay.os/\So s'.gens) ay:=by
  intro H hO hS hok hA hK;have et:∀{b:l_}{o:Obj},ay.heap.get? b=some o->H b=none->(hidT ay.heap H).get? b=some o:=λe n=>FX e n
  have gr:∀{b:l_}{o:Obj}{es:Array UI}{ep:Nat},ay.heap.get? b=some o->o.data=.dict es ep->H b=none:=λ{b o es ep} e d=>by
   cases q:H b with
   | none=>rfl
   | some u =>
    have e':b=a:=hA b (by rw[q];simp);subst e';rw[ha] at e;cases e;have d':seq vs.toArray _=Data.dict es ep:=d;cases d'
  have iU:∀{b:l_}{m:Str->Option b_},ay.heap.Ns b m->(hidT ay.heap H).Ns b m:=λ{b m} ⟨o,es,ep,e,d,r⟩=>⟨o,es,ep,et e (gr e d),d,r⟩
  have lX:K.In (hidT ay.heap H):=λb o e=>et (KX b o e) (by
   cases q:H b with
   | none=>rfl
   | some u =>
    have e':b=a:=hA b (by rw[q];simp);subst e'
    rw[hK (by rw[q];simp)] at e;cases e)
  have hM:Mod K mg (hidT ay.heap H):=⟨lX,iU gI,⟨mb,iU hb,oz⟩,let ⟨mc,h1,h2⟩:=fC;⟨mc,iU h1,h2⟩⟩;have e0:Env0 P w K mg (hidT ay.heap H) TM [] ay H:=⟨rfl,hM,λb o e=>FM e,Ur (GT _ _),trivial,λb hb=>absurd (show b∈([]:List l_) from hb) (by simp),hok,.of_eq hg⟩;refine QN ((F _ lX (iU gI)).run TM [] ay H ⟨[.ref a],[]⟩ [.ref a] [.ref a] _ _ hr e0 (j8 ay (.ref a)) (.cons rfl .nil) (dX H hO hS)) λr s' h=>?_
  cases r with
  | error e=>exact(j9 H e s' h).elim
  | ok fl =>
   cases fl with
   | next=>exact Vq h
   | brk=>exact Vq h
   | cont=>exact Vq h
   | ret u =>
    obtain⟨v,H',os,bare,un,lY,r',q⟩:=h;have q':v=.bl true:=q;subst q';obtain rfl:u=b_.bool true:=r';refine⟨rfl,OldK.of_keep λb o e=>?_,os,bare⟩;cases q:H b with
    | none=>exact un.keep b o e q (by intro z;exact absurd (show b∈([]:List l_) from z) (by simp)) (by simp)
    | some u =>
     rcases hO b with z | ⟨ob,xs,z⟩
     ·rw[q] at z;cases z
     ·have z2:=un.frzs b ob _ z;obtain⟨e1,_⟩:=hok b _ z;obtain⟨e2,_⟩:=lY b _ z2;rw[e] at e1;cases e1;exact e2
 cases hk:K.lookup a with
 | some o =>
  -- the script is one of the module's own objects
  have e:=KX a o hk;rw[ha] at e;cases e;refine jF (λ_=>none) (λ_=>.inl rfl) (.inr ⟨vs,_,hk,rv,by rw[lW];exact hl⟩) (λb u z=>by have z':(none:Option HO)=some u:=z;cases z') (λb z=>absurd rfl z) λz=>absurd rfl z
 | none =>
  refine jF (λb=>if b=a then some (.frz { cls:=.type "list", data:=.seq vs.toArray } (.lst (ns.map V.int))) else none) (λb=>?_) (.inl (.inr ⟨{ cls:=.type "list", data:=.seq vs.toArray },if_pos rfl⟩)) (λb u z=>?_) (λb z=>?_) λ_=>hk
  ·by_cases hb:b=a
   ·exact .inr ⟨_,_,if_pos hb⟩
   ·exact .inl (if_neg hb)
  ·by_cases hb:b=a
   ·have z':=(if_pos hb).symm.trans z;cases z';subst hb;exact⟨ha,by rw[w_];exact hl,vs,_,rv,ha⟩
   ·have z':=(if_neg hb).symm.trans z;cases z'
  ·by_cases hb:b=a
   ·exact hb
   ·exact absurd (if_neg hb) z
theorem GB{l:PySem.W.OpenLaw}{q:C_}{XP:(Str->Option b_)->I_->Prop}{YP:J_->I_->Prop}{d:DefRec}{K:Params->PySem.W.Frag}{CX:J_->CXT}{sp:J_->Sp}(hn:l.most=some n)(eA:n<=x_)(gB:d.params.defaults=[])(hr:Room k TM)(hY:∀(w:J_) (h:I_),YP w h->(K w.params).In h)(F:∀(w:J_) (mg:Str->Option b_) (fa:l_) (h:I_),(K w.params).In h->h.Ns Pr mg->mg d.name=some (.ref fa) →
   ∃fd:Qt,(∀(s:d_) (u:b_),Ul s fd ⟨[u],[]⟩ [(x,u)]) ∧
    ∀base:I_,(K w.params).In base->base.Ns Pr mg->FnOk l.prog w (K w.params) mg base (CX w) k fa fd [x] (sp w))(dX:∀(w:J_) (H:Hp) (a:l_) (ns:List Int),ns.length<=n->Only H->RdK (K w.params) H a (ns.map V.int)->sp w [.ref a] H (λv _=>v=.bl true) λ_ _ _=>False)(j9:∀(w:J_) (H:Hp) (s:d_) (e:b_) (s':d_),CX w [] H s (λ_ _ _=>False) e s'->False):
  PySem.W.WalkO q cn XP YP l.row.toRowW d [] (λf vs=>PySem.call f vs):=by
 refine Att.Hr hn gB λw s₀ ay mg mb fa o pm cd bG a vs ns G qQ ho hd ck gC gD eU aQ hg=>?_
 have KX:=hY w _ qQ;obtain⟨fd,hb,hF⟩:=F w mg fa _ KX G.T.g gC;exact Mb KX G.T.g G.T.b G.T.builtins G.T.nolimit hg gD eU (E_ aQ eA) hr hF hb (λH hO hS=>dX w H a ns aQ hO hS) λH e s'=>j9 w H ay e s'
noncomputable def un1{α:Type}(F:D->Option α)(g:M D):M α:=bnd g λd=>lft (F d)
inductive Ki where
 | iT | sT | bT | tT | lT
noncomputable def isiB:Ki->D->Bool
 | .iT,.int _=>true
 | .iT,.bl _=>true
 | .sT,.str _=>true
 | .bT,.bl _=>true
 | .tT,.tup _=>true
 | .lT,.lst _=>true
 | _,_=>false
noncomputable def isiF(k:Ki)(d:D):Option D:=some (.bl (isiB k d))
section
variable{B:BB}{ga:M D}
noncomputable def negI(d:D):Option D:=match d with
 | .int i=>some (.int (-i))
 | _=>none
theorem EA:∀U H Q,tD X.K B (un1 negI ga) U H Q->tUn (rU λi=>.int (-i)) (tD X.K B ga) U H Q:=λU H Q q=>by
 obtain⟨G,I,Y,d,af,r,e1,k⟩:=q;obtain⟨d1,ac,e2,e3⟩:=qT e1;obtain⟨e4,rfl⟩:=rp e3;unfold negI at e4;split at e4
 ·cases e4;exact⟨G,I,Y,_,_,r,e2,λv H1 I1 r1 g1 h1=>⟨_,qZ h1,k _ _ _ r1 g1 (Is.int _)⟩⟩
 ·cases e4
theorem zC(ha:ED X B e ga):ED X B (.UnaryOp .USub e pos) (un1 negI ga):=PE.imp (Lq Hy ha) EA
end
end DL
namespace PySem.SeqAt
def RcLtAt(A:PB)(s:d_)(y x:b_)(b:Bool):Prop:=
 ∀(prog:C_) (w:J_) (E:b_->d_->Prop) (Q:b_->d_->Prop),Q (.bool b) s->o_ (s_ prog w) A (richCompare .Lt y x) Q E s
noncomputable def ltFrom(e lt:Nat->Bool)(d:Bool):List Nat->Bool
 | []=>d
 | i::r=>if e i then ltFrom e lt d r else lt i
theorem Kh(u v:l_)(us vs:Array b_)(p q:Nat)(du dv:Option l_)(ku kv:Array (Option b_))(e lt:Nat->Bool):
  Meets (P3.«tuple.__lt__» ⟨[.ref u,.ref v],[]⟩) (λA aM s=>(s.heap.get? u=some ⟨.type "tuple", du,.seq us p,ku⟩/\s.heap.get? v=some ⟨.type "tuple", dv,.seq vs q,kv⟩) ∧
    (∀j (h1:j < us.size) (h2:j < vs.size),Vn A.in1 s us[j] vs[j] (e j)/\(e j=false->RcLtAt A.in1 s us[j] vs[j] (lt j)))/\aM (.ok (.ret (.bool (ltFrom e lt (decide (us.size < vs.size)) (Pk (min us.size vs.size)))))) s):=
 .of_wp λprog w A aM s given=>by
  obtain⟨hp,gn,dw,tk,os⟩:=s;obtain⟨⟨gu,gv⟩,gS,lZ⟩:=given;obtain⟨fD,hs⟩:∃fD:Nat->Prop,fD=λi=>aM (.ok (.ret (.bool (ltFrom e lt (decide (us.size < vs.size)) ((Pk (min us.size vs.size)).drop i))))) ⟨hp,gn,dw,tk,os⟩:=⟨_,rfl⟩
  have dk:=AutoSeq1.sub_tuple_tuple;have len:(us.toList.zip vs.toList).length=min us.size vs.size:=by rw[Vd];rfl
  wp_walk using SK gu,SK gv,wpAny_forIn_list _ (λleft eX now=>eX.1=none/\now=⟨hp,gn,dw,tk,os⟩/\∃i,left=(us.toList.zip vs.toList).drop i/\fD i) _
  case turn =>
   rintro⟨y,x⟩ left eX now ⟨aV,rfl,i,aU,say⟩
   have here:i < min us.size vs.size:=by
    rw[←len];exact Nat.lt_of_not_le λno=>by rw[Rk no] at aU;exact List.cons_ne_nil _ _ aU
   have k1:i < us.size:=by omega
   have k2:i < vs.size:=by omega
   have cut:=O3 (l:=us.toList.zip vs.toList) (i:=i) (len▸here);rw[←aU,List.getElem_zip] at cut;obtain⟨yx,tail⟩:=List.cons.inj cut;obtain⟨rfl,rfl⟩:=Prod.mk.inj yx;rw[hs] at say;have jG:=O3 (l:=Pk (min us.size vs.size)) (i:=i) (by simpa using here);rw[SG] at jG;rw[jG,ltFrom] at say;have two:=gS i k1 k2;refine a_ (two.1 prog w _ _ ?_);cases like:e i with
   | true =>
    rw[like,if_pos rfl] at say
    wp_walk
    exact⟨rfl,rfl,i+1,tail,by rw[hs];exact say⟩
   | false =>
    rw[like,if_neg k_] at say;refine a_ (Se (a_ (two.2 like prog w _ _ ?_)))
    wp_walk
    exact⟨_,rfl,say⟩
  case fin =>
   rintro⟨eX,_⟩ now ⟨aV,rfl,i,aU,say⟩;cases aV
   have fE:min us.size vs.size<=i:=by
    rw[←len];exact Tt.mp aU.symm
   rw[hs] at say;rw[Rk (by simpa using fE),ltFrom] at say
   wp_walk
   exact⟨_,rfl,by simpa[P3.Tuple.tupleCompareSizes] using say⟩
  case h=>exact⟨rfl,rfl,0,rfl,by rw[hs];exact lZ⟩
theorem RcLtAt.tuples{s:d_}{u v:l_}{us vs:Array b_}{e lt:Nat->Bool}(hu:s.heap.IsTuple u us)(hv:s.heap.IsTuple v vs)(room:A.units < PK)(gS:∀j (h1:j < us.size) (h2:j < vs.size),Vn A.in1 s us[j] vs[j] (e j)/\(e j=false->RcLtAt A.in1 s us[j] vs[j] (lt j))):RcLtAt A s (.ref u) (.ref v) (ltFrom e lt (decide (us.size < vs.size)) (Pk (min us.size vs.size))):=by
 obtain⟨⟨_,du,_,ku⟩,gu,rfl,p,rfl⟩:=hu;obtain⟨⟨_,dv,_,kv⟩,gv,rfl,q,rfl⟩:=hv;exact λprog w E Q h=>richCompare_meets_room (op:=.Lt) ⟨_,gu,rfl⟩ ⟨_,gv,rfl⟩ F.slot_tuple_lt F.entry_tuple_lt (F.args_tuple_lt_2 _ _) (Kh u v us vs p q du dv ku kv e lt) ⟨⟨gu,gv⟩,gS,b_.noConfusion,h⟩ room
theorem RcLtAt.int_int{s:d_}(a:Int)(t:Tok)(b:Int)(u:Tok):RcLtAt A s (.int a t) (.int b u) (decide (a < b)):=λprog w E Q h=>PyProof.Rows.lt_int h
end PySem.SeqAt
namespace DL
open PySem PySem.Spec PyProof.Rows L2
section
variable{B:BB}{a b c:OU}{es:List OU}
noncomputable def rngV(n:Nat):List V:=(Pk n).map λ(k:Nat)=>V.int (0+(k:Int))
theorem wY:∀{xs:List V}{us:List b_},xs.length=us.length->(∀(i:Nat) x u,xs[i]?=some x->us[i]?=some u->RelV x u)->Vals xs us
 | [],[],_,_=>.nil
 | [],_::_,h,_=>by cases h
 | _::_,[],h,_=>by cases h
 | x::xs,u::us,h,k=>.cons (k 0 x u rfl rfl) (wY (QP h) λi y v e f=>k (i+1) y v e f)
theorem Ik{p:Pos}(hc:X.calm=true)(hl:Gl X "list")(ka:X.mg "list"=none)(hg:Gl X "range")(hm:X.mg "range"=none)(ha:PA X [a] ta)(hs:g_ [a] X.env=[(false,O1 a X.env)]:=by rfl)(bD:g_ [.Call (.Name "range" p2) [a] [] cB] X.env=[(false,O1 (.Call (.Name "range" p2) [a] [] cB) X.env)]:=by rfl):
  PE X (.Call (.Name "list" p) [.Call (.Name "range" p2) [a] [] cB] [] pos) (λU H Q=>ta U H λvs H1=>∃j:Int,vs=[.int j]/\-1000000<=j/\j<=1000000/\∀l,H1 l=none->Q (.ref l) (upd H1 l (.lst (rngV j.toNat)))):=by
 intro aa s U H Q I h;refine Vo (sw I hl ka boot_list (OJ ?_ bD rfl));rw[bD];refine R_ (Vo (sw I hg hm UZ (OJ (thn (ha cB aa s U H _ I h) λus s1 ⟨vs,H1,I1,r1,q1⟩=>?_) hs rfl)));obtain⟨j,rfl,q1,q2,q⟩:=q1;obtain⟨u,rfl,t,rfl⟩:=vals1 r1;refine call_range_1 (Sq ?_);have size:rangeSize 0 j 1=j.toNat:=by rw[rangeSize_one];split<;>omega
 refine call_list_range (I1.ok.hd hc) (IsRange.new ..) (small_one (by decide) (by decide) (by omega) (by omega)) size (by omega) λg tk ah c' keep aU ai=>?_
 refine⟨.ref _,_,I1.laid (t':=tk) (λb o e=>keep b o (e_ _ e)) ?_ (o:=.lst (rngV j.toNat)) ⟨?_,ah.toList,c',?_,aU⟩,rfl,q _ ?_⟩
 ·exact Q9 (by show _ < (I_.push _ _).objs.size;rw[P5];exact RX _)
 ·show(rngV j.toNat).length<=x_;rw[rngV,w_,Rf,Pf];omega
 ·refine wY (by rw[rngV,w_,Rf,O2,ai.1]) λi x u e f=>?_
  rw[Ru] at f;obtain⟨t',rfl⟩:=ai.2 i u f;obtain⟨k,e1,rfl⟩:=getMap e;obtain⟨k1,k2⟩:=p_.mp e1;rw[SG] at k2;subst k2;exact⟨t',by simp⟩
 ·refine I1.hok.fresh (Q9 ?_);show _ < (I_.push _ _).objs.size;rw[P5];exact RX _
theorem KU{K:PySem.W.Frag}(n:Nat):IsA K I (rngD 0 n) (rngV n):=by
 unfold rngD rngV
 induction Pk n with
 | nil=>exact IsA.nil
 | cons k ks ih=>exact IsA.cons (Is.int _) ih
theorem Cp{p:Pos}{t:M (List D)}(hc:X.calm=true)(hl:Gl X "list")(ka:X.mg "list"=none)(hg:Gl X "range")(hm:X.mg "range"=none)(ha:AD X B [a] t)(hs:g_ [a] X.env=[(false,O1 a X.env)]:=by rfl)(bD:g_ [.Call (.Name "range" p2) [a] [] cB] X.env=[(false,O1 (.Call (.Name "range" p2) [a] [] cB) X.env)]:=by rfl):
  EO X B (.Call (.Name "list" p) [.Call (.Name "range" p2) [a] [] cB] [] pos) (fn1 rngI1 t):=PE.imp (Ik hc hl ka hg hm ha hs bD) λU H Q q=>by
 obtain⟨G,I,Y,ds,af,r,e1,k⟩:=q;obtain⟨d,ac,e2,e3⟩:=qT e1;obtain⟨e4,rfl⟩:=rp e3;obtain⟨j,rfl,⟨h1,h2⟩,rfl⟩:=An e4;refine⟨G,I,Y,_,_,r,e2,λvs H1 I1 r1 g1 hd=>?_⟩;obtain⟨x,rfl,hx⟩:=hd.one;exact⟨j,by rw[qZ hx],h1,h2,λl hl=>(k.after g1).new r1 hl (KU _)⟩
end
section
variable{prog:C_}{w:J_}{E:b_->d_->Prop}{s:d_}
def SlotAt(P:Nat->b_->Prop)(bt:Nat->Nat->Bool)(j:Nat)(cells:Array b_):Prop:=match j with
 | 0=>cells=#[]
 | j+1=>∃b,cells=#[b,b]/\P (QZ bt j) b
theorem Mc{it:l_}{wr:List l_}{P:Nat->b_->Prop}{St:Nat->I_->Prop}{Fit:d_->Prop}{aM:Result->d_->Prop}(W:Walks prog w A.in1 it fp wr n P St)(jH:S∉fp)(Va:∀s,Fit s->∀i j vi vj,P i vi->P j vj->PySem.SeqAt.RcLtAt A.in1 s vi vj (bt i j))(stay:∀s h' tk,Fit s->(∀b o,b∉wr->b≠S->s.heap.get? b=some o->h'.get? b=some o)->Fit { s with heap:=h',toks:=tk })(gT:0 < n)(fin:∀v s,P (QZ bt (n - 1)) v->Fit s->aM (.ok (.ret v)) s):∀(left:Nat) (s:d_) (cells:Array b_) (c j:Nat),j+left=n->St j s.heap->Fit s->SlotAt P bt j cells->s.heap.get? S=some { cls:=.type "list", dict:=none,data:=.seq cells c,slots:=#[] } →
   Ra (s_ prog w) A (.builtin "min.loop" ⟨[.ref it,.none,.ref S],[]⟩) aM s:=by
 have apart:S∉wr:=λh=>jH (W.sub _ h)
 have fe:∀{g:I_}{f:Obj->Obj}{b:l_}{o:Obj},b≠S->g.get? b=some o->(g.update S f).get? b=some o:=λne e=>(OK _ _ (O4 ne)).trans e
 have bV:(toString "min"++toString ".loop":String) = "min.loop":=by decide
 intro left
 induction left with
 | zero =>
  intro s cells c j len st kc fF slot;obtain⟨m,rfl⟩:∃m,j=m+1:=⟨j - 1,by omega⟩;obtain⟨b,rfl,fG⟩:=fF;refine Pj F.entry_min_loop ?_;rw[PN Ql _];refine a_ (m:=seqItems? (.ref S)) (OV slot rfl (a_ (m:=tryCatch (QF (.ref it)) _) (Tu (W.done s _ _ (len▸st) λg tk kk=>?_))));refine a_ (m:=UJ S λ_=>#[]) (P6 (kk S _ apart slot) rfl (a_ (QH (c_ (fin b _ (by rw[←len];exact fG) (stay s _ tk kc λx o n1 n2 e=>fe n2 (kk x o n1 e)))))))
 | succ left ih =>
  intro s cells c j len st kc fF slot;refine Pj F.entry_min_loop ?_;rw[PN Ql _];refine a_ (m:=seqItems? (.ref S)) (OV slot rfl (a_ (m:=tryCatch (QF (.ref it)) _) (Tu (W.item j s _ _ (by omega) st λv g tk kh iV kk=>?_))));have cW:=kk S _ apart slot;have gU:=stay s g tk kc λx o n1 _ e=>kk x o n1 e
  have next:∀(f:Obj->Obj) (cJ:Array b_) (c':Nat),(g.update S f).get? S=some { cls:=.type "list", dict:=none,data:=.seq cJ c',slots:=#[] }->SlotAt P bt (j+1) cJ →
    Ra (s_ prog w) A (.builtin "min.loop" ⟨[.ref it,.none,.ref S],[]⟩) aM { s with heap:=g.update S f,toks:=tk }:=λf cJ c' here is =>
   ih _ cJ c' (j+1) (by omega) (W.frame _ _ _ iV λb hb o e=>fe (λz=>jH (z▸hb)) e) (stay { s with heap:=g,toks:=tk } _ tk gU λx o _ n2 e=>fe n2 e) is here
  cases j with
  | zero =>
   cases fF;refine a_ (m:=UJ S λ_=>#[v,v]) (P6 cW rfl ?_);rw[bV];exact c_ ⟨Po Ql _,next _ _ _ (O0 _ cW rfl) ⟨v,rfl,kh⟩⟩
  | succ m =>
   obtain⟨b,rfl,fG⟩:=fF;refine a_ (m:=tryCatch (RV [v,v] (richCompare .Lt v b >>= _)) _) (Tu (OT (a_ (Va _ gU (m+1) (QZ bt m) v b kh fG prog w _ _ (a_ (OT (Pe (a_ (QH (c_ ?_))))))))));cases hb:bt (m+1) (QZ bt m) with
   | true =>
    rw[if_pos rfl];refine a_ (P6 cW rfl (a_ (QH ?_)));rw[bV];exact c_ ⟨Po Ql _,next _ _ _ (O0 _ cW rfl) ⟨v,rfl,by rw[QZ,hb];exact kh⟩⟩
   | false =>
    rw[if_neg k_];refine a_ (QH ?_);rw[bV];exact c_ ⟨Po Ql _,ih _ _ c (m+2) (by omega) iV gU ⟨b,rfl,by rw[QZ,hb];exact fG⟩ cW⟩
theorem Bh(bt:Nat->Nat->Bool):∀k,QZ bt k<=k
 | 0=>v_ _
 | k+1=>by
  rw[QZ];split
  ·exact v_ _
  ·exact Nat.le_succ_of_le (Bh bt k)
theorem Kt{p:l_}{Q:b_->d_->Prop}(hh:A.handled=none)(L:s.heap.IsList p ai)(gT:0 < ai.size)(Va:∀h' tk,(∀b o,s.heap.get? b=some o->h'.get? b=some o)->∀i j vi vj,ai[i]?=some vi->ai[j]?=some vj->PySem.SeqAt.RcLtAt A.in1 { s with heap:=h',toks:=tk } vi vj (bt i j))(fin:∀v h' tk,ai[QZ bt (ai.size - 1)]?=some v->(∀b o,s.heap.get? b=some o->h'.get? b=some o)->Q v { s with heap:=h',toks:=tk }):o_ (s_ prog w) A (call (.builtin "min") [.ref p]) Q E s:=by
 have low:p < s.heap.objs.size:=by obtain⟨_,e,_⟩:=L;exact H_ e
 refine call_function_tree F.kind_min F.plain_min F.entry_min (F.args_min1 _) ?_;refine a_ (PC (a:=[none,none]) rfl (a_ (c_ (a_ (P9 L (a_ (M_ ?_)))))));have bV:(toString "min"++toString ".loop":String) = "min.loop":=by decide
 rw[bV];have W:=Ug (prog:=prog) (w:=w) (A:=A.in1) hh s.heap.objs.size p (OI low) ai;have cV:∀o:Obj,(s.heap.push o).objs.size=s.heap.objs.size+1:=λo=>P5 ..
 refine c_ ⟨Po Ql _,Mc (Fit:=λs'=>∃h' tk,s'={ s with heap:=h',toks:=tk }/\∀b o,s.heap.get? b=some o->h'.get? b=some o) (bt:=bt) W ?_ ?_ ?_ gT ?_ ai.size _ #[] 0 0 (Ve _) ⟨⟨_,e_ _ (t_ _ rfl),rfl,rfl⟩,(L.push _).push _⟩ ⟨_,_,rfl,λb o e=>e_ _ (e_ _ e)⟩ rfl (t_ _ rfl)⟩
 ·rw[cV];intro z;rw[r_,n_] at z
  rcases z with z | z
  ·exact absurd z (Nat.succ_ne_self _)
  ·exact absurd z (Q_ (RD low))
 ·rintro _ ⟨g,tk,rfl,keep⟩ i j vi vj hi hj;exact Va g tk keep i j vi vj hi hj
 ·rintro _ h' tk ⟨g,fQ,rfl,keep⟩ k;refine⟨h',tk,rfl,λb o e=>k b o (λz=>?_) (λz=>?_) (keep b o e)⟩
  ·rw[n_] at z;exact OI (H_ e) z
  ·rw[cV] at z;have:=H_ e;rw[z] at this;exact absurd this (Vx.mpr (Uo _))
 ·rintro v _ hv ⟨g,tk,rfl,keep⟩;exact fin v g tk hv keep
end
section
variable{B:BB}{a b c:OU}{es:List OU}{kr:Nat}
noncomputable def prD(p:Int×Int):D:=.tup [.int p.1,.int p.2]
noncomputable def ltP(p q:Int×Int):Bool:=if p.1 == q.1 then decide (p.2 < q.2) else decide (p.1 < q.1)
noncomputable def prsD:List D->Option (List (Int×Int))
 | []=>some []
 | .tup [.int a,.int b]::ds=>match prsD ds with
  | some ps=>some ((a,b)::ps)
  | none=>none
 | _=>none
theorem Jo:∀(ds:List D) (ps:List (Int×Int)),prsD ds=some ps->ds=ps.map prD:=by
 intro ds
 fun_induction prsD ds with
 | case1=>intro ps h;cases h;rfl
 | case2 a b ds qs e ih=>intro ps h;cases h;rw[ih qs e];rfl
 | case3 a b ds e ih=>intro ps h;cases h
 | case4 ds=>intro ps h;cases h
noncomputable def btP(ps:List (Int×Int))(i j:Nat):Bool:=ltP (ps.getD i (0,0)) (ps.getD j (0,0))
noncomputable def minP(ps:List (Int×Int)):Int×Int:=ps.getD (QZ (btP ps) (ps.length - 1)) (0,0)
open PySem.SeqAt in
theorem KF{s:d_}{u v:l_}{p q:Int×Int}{t1 t2 t3 t4:Tok}(room:A.units < PK)(hu:s.heap.IsTuple u #[.int p.1 t1,.int p.2 t2])(hv:s.heap.IsTuple v #[.int q.1 t3,.int q.2 t4]):RcLtAt A s (.ref u) (.ref v) (ltP p q):=by
 have:=RcLtAt.tuples (e:=λk=>if k=0 then p.1 == q.1 else p.2 == q.2) (lt:=λk=>if k=0 then decide (p.1 < q.1) else decide (p.2 < q.2)) hu hv room (λj h1 h2=>?_)
 ·have e:ltFrom (λk=>if k=0 then p.1 == q.1 else p.2 == q.2) (λk=>if k=0 then decide (p.1 < q.1) else decide (p.2 < q.2)) (decide (2 < 2)) [0,1]=ltP p q:=by
   simp only[ltFrom,ltP];by_cases z:p.1=q.1
   ·by_cases z2:p.2=q.2<;>simp[z,z2]
   ·simp[z]
  rw[←e];exact this
 ·match j,h1,h2 with
  | 0,_,_=>exact⟨Vn.int_int _ _ _ _,λ_=>RcLtAt.int_int _ _ _ _⟩
  | 1,_,_=>exact⟨Vn.int_int _ _ _ _,λ_=>RcLtAt.int_int _ _ _ _⟩
  | k+2,h,_=>exact absurd h (by simp)
theorem E6(hc:X.calm=true)(hu:X.A.units+100 < PK):CallR X (.builtin "min") (λxs H Q=>∃(p:l_) (zs:List V) (ps:List (Int×Int)),xs=[.ref p]/\SqL X.K H p zs/\ps≠[]/\zs.length=ps.length ∧
  (∀(i:Nat) z,zs[i]?=some z->∃q,z=.ref q/\SqT X.K H q [.int (ps.getD i (0,0)).1,.int (ps.getD i (0,0)).2])/\∀z,zs[QZ (btP ps) (ps.length - 1)]?=some z->Q z H):=by
 intro aa s U H xs us Q I r h;obtain⟨p,zs,ps,rfl,hq,ne,len,gG,q⟩:=h;obtain⟨u,rfl,ru⟩:=vals1 r;cases ru;obtain⟨ae,rv,t,hz⟩:=I.list hq;have ln:=rv.length;have sz:ae.toArray.size=ps.length:=by rw[q_,←ln,len]
 have tup:∀i v,ae.toArray[i]?=some v->∃q t1 t2,v=.ref q/\s.heap.IsTuple q #[.int (ps.getD i (0,0)).1 t1,.int (ps.getD i (0,0)).2 t2]:=λi v hv=>by
  have bY:ae[i]?=some v:=by simpa using hv
  have hi:i < zs.length:=by rw[ln];exact(p_.mp bY).1
  obtain⟨q,e1,e2⟩:=gG i zs[i] (f_ hi);obtain⟨w,e3,e4⟩:=rv.get (f_ hi);rw[bY] at e3;cases e3;rw[e1] at e4;cases e4;obtain⟨aY,r2,t2,_⟩:=I.tuple e2;obtain⟨u1,u2,rfl,⟨k1,rfl⟩,⟨k2,rfl⟩⟩:=r2.two;exact⟨q,k1,k2,rfl,t2⟩
 refine Kt (bt:=btP ps) (I.ok.hd hc) t.isList (by rw[sz];exact Sg.mpr ne) (λg tk keep i j vi vj hi hj=>?_) λv g tk hv keep=>?_
 ·obtain⟨q1,t1,t2,rfl,T1⟩:=tup i vi hi;obtain⟨q2,t3,t4,rfl,T2⟩:=tup j vj hj;have up:∀{q:l_}{us:Array b_},s.heap.IsTuple q us->g.IsTuple q us:=λT=>by obtain⟨o,e,r⟩:=T;exact⟨o,keep _ o e,r⟩
  exact KF (by show X.A.units+1 < PK;omega) (up T1) (up T2)
 ·rw[sz] at hv;have bY:ae[QZ (btP ps) (ps.length - 1)]?=some v:=by simpa using hv
  have hi:QZ (btP ps) (ps.length - 1) < zs.length:=by rw[ln];exact(p_.mp bY).1
  obtain⟨w,e3,e4⟩:=rv.get (f_ hi);rw[bY] at e3;cases e3;exact⟨_,H,I.kept keep,e4,q _ (f_ hi)⟩
noncomputable def minlF(ds:List D):Option D:=match ds with
 | [.lst xs]=>match prsD xs with
  | some (p::ps)=>some (prD (minP (p::ps)))
  | _=>none
 | _=>none
theorem GP{p:Pos}{t:M (List D)}(hc:X.calm=true)(hr:Room kr X.A)(hg:Gl X "min")(hm:X.mg "min"=none)(ha:AD X B [e] t)(he:g_ [e] X.env=(false,O1 e X.env)::g_ [] X.env:=by rfl)(aK:(Pa pos (g_ [] X.env)).any (·.1)=false:=by rfl):
  ED X B (.Call (.Name "min" p) [e] [] pos) (fn1 minlF t):=uu (E6 hc (hu100 hr)) (λds d e B G I H U Y xs Q r h k=>by
 unfold minlF at e;split at e
 ·split at e
  ·rename_i p1 ps eb;cases e;have:=Jo _ _ eb;subst this;obtain⟨x,rfl,hx⟩:=h.one;obtain⟨q,zs,rfl,h3,h4⟩:=rl hx;have L:=h4.length;rw[w_] at L
   have jI:∀(i:Nat) z,zs[i]?=some z->Is X.K I (prD ((p1::ps).getD i (0,0))) z:=λi z hz=>by
    have hi:i < (p1::ps).length:=by rw[L];exact(p_.mp hz).1
    obtain⟨z',e1,e2⟩:=h4.get (i:=i) (d:=prD (p1::ps)[i]) (by rw[B_,f_ hi];rfl);rw[hz] at e1;cases e1;rw[i_,f_ hi];exact e2
   refine⟨q,zs,p1::ps,rfl,(Same.rdK r.iH h3).sq,by simp,L.symm,λi z hz=>?_,λz hz=>k.now r (jI _ z hz)⟩;obtain⟨q2,ys,rfl,e1,e2⟩:=rm (jI i z hz);obtain⟨y1,y2,rfl,f1,f2⟩:=e2.two;rw[qZ f1,qZ f2] at e1;exact⟨q2,rfl,Same.sqT r.iH e1⟩
  ·cases e
 ·cases e) hg hm boot_min ha (by decide) (by decide) he aK
end
end DL
namespace DL
open PySem PySem.W PyProof.Rows
structure Ord(lt:Nat->Nat->Bool):Prop where
 as:∀a b,lt a b=true->lt b a=false
 tr:∀a b c,lt b a=false->lt c b=false->lt c a=false
section
variable{lt:Nat->Nat->Bool}{s:d_}
def askIn(n:Nat)(lt:Nat->Nat->Bool):Nat->Nat->(Bool->d_->Prop)->d_->Prop:=λi j C s=>i < n/\j < n/\C (lt i j) s
noncomputable def gt(p:Array Nat)(i:Nat):Nat:=p.getD i 0
def Pm(n:Nat)(p:Array Nat):Prop:=p.Perm (Pk n).toArray
def Dn(lt:Nat->Nat->Bool)(p:Array Nat)(m:Nat):Prop:=∀i j,i < j->j < m->lt (gt p i) (gt p j)=false
def Up(lt:Nat->Nat->Bool)(p:Array Nat)(m:Nat):Prop:=∀i j,i < j->j < m->lt (gt p j) (gt p i)=false
def Eqs(lt:Nat->Nat->Bool)(p:Array Nat)(a b:Nat):Prop:=∀i j,a<=i->i < b->a<=j->j < b->lt (gt p i) (gt p j)=false
theorem Pm.size{p:Array Nat}(h:Pm n p):p.size=n:=by
 have:=h.size_eq;simpa using this
theorem Pm.bd{p:Array Nat}(h:Pm n p)(pos:0 < n)(i:Nat):gt p i < n:=by
 unfold gt;by_cases hi:i < p.size
 ·have:p[i]∈(Pk n).toArray:=h.mem_iff.mp (QE hi);rw[VB,dif_pos hi];simpa using this
 ·rw[VB,dif_neg hi];exact pos
theorem vR{p:Array Nat}:gt p i=p[i]?.getD 0:=by
 unfold gt;exact P4 ..
theorem tq{p:Array Nat}(hj:j<=p.size)(k:Nat):gt (Uw p i j) k=if i<=k/\k < j then gt p (i+j - 1 - k) else gt p k:=by
 rw[vR,vR,vR];unfold Uw;rw[getElem?_mirror_all hj];split<;>rfl
theorem BC{p:Array Nat}{cq d:Nat}(hs:cq < p.size)(hd:d<=cq)(k:Nat):gt (bubble p cq d) k=if k=cq - d then gt p cq else if cq - d < k/\k<=cq then gt p (k - 1) else gt p k:=by
 simp only[vR];rw[getElem?_bubble hs d hd];split
 ·rfl
 ·split<;>rfl
theorem Pm.rev{p:Array Nat}(h:Pm n p)(i j:Nat):Pm n (Uw p i j):=trans (mirror_perm _ _ _ _) h
theorem vK{α:Type}{l7:Nat->Nat->(Bool->d_->Prop)->d_->Prop}{Q:α->d_->Prop}{P:α->Prop}(hc:∀i j C,i < n->j < n->C (lt i j) s->l7 i j C s)(hq:∀a,P a->Q a s):∀t:KasT α,t.kasWp (askIn n lt) (λa _=>P a) s->t.kasWp l7 Q s
 | .ret a,h=>hq a h
 | .ask i j k,⟨h1,h2,h3⟩=>hc i j _ h1 h2 (vK hc hq (k (lt i j)) h3)
theorem vt{α β:Type}{t:KasT α}{f:α->KasT β}{P:α->Prop}{Q:β->Prop}(h:t.kasWp (askIn n lt) (λa _=>P a) s)(k:∀a,P a->(f a).kasWp (askIn n lt) (λb _=>Q b) s):(t.bind f).kasWp (askIn n lt) (λb _=>Q b) s:=by
 rw[KasT.kasWp_bind];exact vK (λi j C h1 h2 h3=>⟨h1,h2,h3⟩) (λa ha=>k a ha) t h
variable (O:Ord lt)(two:2<=n)
include O
theorem Ord.irr(a:Nat):lt a a=false:=by
 cases h:lt a a with
 | false=>rfl
 | true=>rw[←h];exact O.as a a h
theorem Ord.lt_le{a b c:Nat}(h1:lt a b=true)(h2:lt c b=false):lt a c=true:=by
 cases h:lt a c with
 | true=>rfl
 | false =>
  -- c<=a,b<=c
  have:=O.tr b c a h2 h;rw[this] at h1;cases h1
include two
theorem zK{p:Array Nat}(hp:Pm n p):∀(f m:Nat),1<=m->(kas_asc p f m).kasWp (askIn n lt) (λm' _=>m<=m'/\m'<=m+f/\(∀k,m<=k->k < m'->lt (gt p k) (gt p (k - 1))=false)/\(m' < m+f->lt (gt p m') (gt p (m' - 1))=true)) s
 | 0,m,_=>by
  rw[kas_asc];exact⟨v_ _,v_ _,λk h1 h2=>by omega,λh=>by omega⟩
 | f+1,m,hm=>by
  rw[kas_asc];refine⟨hp.bd (by omega) m,hp.bd (by omega) (m - 1),?_⟩;cases h:lt (p.getD m 0) (p.getD (m - 1) 0) with
  | true =>
   dsimp only;rw[if_pos rfl];exact⟨v_ _,by omega,λk h1 h2=>by omega,λ_=>h⟩
  | false =>
   dsimp only;rw[if_neg k_];refine vK (λi j C h1 h2 h3=>⟨h1,h2,h3⟩) (λm' h'=>?_) _ (zK hp f (m+1) (by omega));obtain⟨a1,a2,a3,a4⟩:=h';refine⟨by omega,by omega,λk h1 h2=>?_,λh'=>a4 (by omega)⟩;by_cases z:k=m
   ·rw[z];exact h
   ·exact a3 k (by omega) h2
omit two in
theorem Up.of_steps{p:Array Nat}{m':Nat}(hm:Up lt p m)(st:∀k,m<=k->k < m'->1<=k->lt (gt p k) (gt p (k - 1))=false):Up lt p m':=by
 intro i j
 induction j with
 | zero=>intro h;omega
 | succ j ih =>
  intro dg hj;by_cases z:j+1 < m
  ·exact hm i (j+1) dg z
  ·have s1:=st (j+1) (by omega) hj (by omega);rw[Nat.add_sub_cancel] at s1;by_cases e:i=j
   ·rw[e];exact s1
   ·exact O.tr _ _ _ (ih (by omega) (by omega)) s1
omit two O in
theorem Dn.up{p:Array Nat}{m:Nat}(hm:m<=p.size)(h:Dn lt p m):Up lt (Uw p 0 m) m:=by
 intro i j dg hj;rw[tq hm,tq hm,if_pos ⟨O5 _,hj⟩,if_pos ⟨O5 _,by omega⟩];exact h _ _ (by omega) (by omega)
omit two O in
theorem Dn.turn{p:Array Nat}{a:Nat}(hm:m<=p.size)(h:Dn lt p m)(e:Eqs lt p a m):Dn lt (Uw p a m) m:=by
 intro i j dg hj;rw[tq hm,tq hm];by_cases h1:a<=i
 ·rw[if_pos ⟨h1,by omega⟩,if_pos ⟨by omega,hj⟩];exact e _ _ (by omega) (by omega) (by omega) (by omega)
 ·rw[if_neg (by omega)];by_cases h2:a<=j
  ·rw[if_pos ⟨h2,hj⟩];exact h _ _ (by omega) (by omega)
  ·rw[if_neg (by omega)];exact h _ _ dg hj
omit two in
theorem Dn.next{p:Array Nat}(h:Dn lt p m)(hm:1<=m)(st:lt (gt p (m - 1)) (gt p m)=false):Dn lt p (m+1):=by
 intro i j dg hj;by_cases z:j < m
 ·exact h i j dg z
 ·have:j=m:=by omega
  subst this;by_cases e:i=j - 1
  ·rw[e];exact st
  ·exact O.tr _ _ _ st (h i (j - 1) (by omega) (by omega))
theorem wH:∀(f:Nat) (p:Array Nat) (m q:Nat),Pm n p->1<=m->m+f<=n->q < m->Dn lt p m->Eqs lt p (m - (q+1)) m →
  (kas_desc f p m q).kasWp (askIn n lt) (λr _=>Pm n r.1/\1<=r.2.1/\r.2.1<=n/\r.2.2 < r.2.1/\Dn lt r.1 r.2.1/\Eqs lt r.1 (r.2.1 - (r.2.2+1)) r.2.1) s
 | 0,p,m,q,hp,h1,h2,h3,h4,h5=>by
  rw[kas_desc];exact⟨hp,h1,(by show m<=n;omega),h3,h4,h5⟩
 | f+1,p,m,q,hp,h1,h2,h3,h4,h5=>by
  rw[kas_desc]
  have one:∀(p':Array Nat),Pm n p'->Eqs lt p' (m+1 - (0+1)) (m+1):=λp' _ i j a b c d=>by
   have:i=m:=by omega
   have:j=m:=by omega
   subst i;subst j;exact O.irr _
  refine⟨hp.bd (by omega) m,hp.bd (by omega) (m - 1),?_⟩;cases h:lt (p.getD m 0) (p.getD (m - 1) 0) with
  | true =>
   dsimp only;rw[if_pos rfl];have st:lt (gt p (m - 1)) (gt p m)=false:=O.as _ _ h;split
   ·have sz:m<=p.size:=by rw[hp.size];omega
    refine wH f _ (m+1) 0 (hp.rev _ _) (by omega) (by omega) (by omega) (Dn.next O (h4.turn sz h5) h1 ?_) (one _ (hp.rev _ _));rw[tq sz,tq sz,if_pos ⟨by omega,by omega⟩,if_neg (by omega)];refine O.tr _ _ _ st ?_;exact h5 _ _ (by omega) (by omega) (by omega) (by omega)
   ·exact wH f _ (m+1) 0 hp (by omega) (by omega) (by omega) (Dn.next O h4 h1 st) (one _ hp)
  | false =>
   dsimp only;rw[if_neg k_];refine⟨hp.bd (by omega) (m - 1),hp.bd (by omega) m,?_⟩;cases h':lt (p.getD (m - 1) 0) (p.getD m 0) with
   | true =>
    dsimp only;rw[if_pos rfl];exact⟨hp,h1,(by show m<=n;omega),h3,h4,h5⟩
   | false =>
    dsimp only;rw[if_neg k_];refine wH f p (m+1) (q+1) hp (by omega) (by omega) (by omega) (Dn.next O h4 h1 h') λi j a b c d=>?_
    have up:∀i,m - (q+1)<=i->i < m->lt (gt p i) (gt p m)=false:=λi x y=>O.tr _ _ _ h' (h5 i (m - 1) x y (by omega) (by omega))
    have dn:∀i,m - (q+1)<=i->i < m->lt (gt p m) (gt p i)=false:=λi x y=>O.tr _ _ _ (h5 (m - 1) i (by omega) (by omega) x y) h
    by_cases zi:i=m
    ·by_cases zj:j=m
     ·rw[zi,zj];exact O.irr _
     ·rw[zi];exact dn j (by omega) (by omega)
    ·by_cases zj:j=m
     ·rw[zj];exact up i (by omega) (by omega)
     ·exact h5 i j (by omega) (by omega) (by omega) (by omega)
theorem BQ{p:Array Nat}(hp:Pm n p)(h1:1<=m)(h2:m<=n)(h:Dn lt p m):(kas_tail3 m n p).kasWp (askIn n lt) (λr _=>1<=r.1/\r.1<=n/\Pm n r.2/\Up lt r.2 r.1) s:=by
 unfold kas_tail3;refine vt (zK O two (hp.rev 0 m) (n - m) m h1) λm' ⟨a1,a2,a3,_⟩=>?_
 have up:=h.up (by rw[hp.size];exact h2);exact⟨by omega,by omega,hp.rev 0 m,Up.of_steps O up λk x y _=>a3 k x y⟩
theorem DD{p:Array Nat}(hp:Pm n p)(h1:1<=m)(h2:m < n)(h:Dn lt p (m+1)):(kas_descPart m n p).kasWp (askIn n lt) (λr _=>1<=r.1/\r.1<=n/\Pm n r.2/\Up lt r.2 r.1) s:=by
 unfold kas_descPart;refine vt (wH O two (n - (m+1)) p (m+1) 0 hp (by omega) (by omega) (by omega) h λi j a b c d=>?_) λr ⟨b1,b2,b3,b4,b5,b6⟩=>?_
 ·have:i=m:=by omega
  have:j=m:=by omega
  subst i;subst j;exact O.irr _
 ·split
  ·exact BQ O two (b1.rev _ _) b2 b3 (b5.turn (by rw[b1.size];exact b3) b6)
  ·exact BQ O two b1 b2 b3 b5
theorem FQ{p:Array Nat}(hp:Pm n p):(kas_count n p).kasWp (askIn n lt) (λr _=>1<=r.1/\r.1<=n/\Pm n r.2/\Up lt r.2 r.1) s:=by
 unfold kas_count;refine vt (zK O two hp (n - 1) 1 (v_ _)) λm ⟨a1,a2,a3,a4⟩=>?_
 have up1:Up lt p m:=Up.of_steps O (m:=1) (λi j x y=>by omega) λk x y z=>a3 k x y
 split
 ·exact⟨a1,by omega,hp,up1⟩
 ·rename_i ne;have ne:m≠n:=by simpa using ne
  have dr:=a4 (by omega);split
  ·refine⟨hp.bd (by omega) 0,hp.bd (by omega) (m - 1),?_⟩;cases h:lt (p.getD 0 0) (p.getD (m - 1) 0) with
   | true =>
    dsimp only;rw[if_pos rfl];exact⟨a1,by omega,hp,up1⟩
   | false =>
    dsimp only;rw[if_neg k_]
    have all:Eqs lt p 0 m:=λi j x1 x2 y1 y2=>by
     -- the first is not Va than the dr,and they rise
     have l0:∀i,i < m->lt (gt p i) (gt p 0)=false:=λi x=>by
      by_cases z:i=0
      ·rw[z];exact O.irr _
      ·exact up1 0 i (by omega) x
     have lz:∀j,j < m->lt (gt p (m - 1)) (gt p j)=false:=λj x=>by
      by_cases z:j=m - 1
      ·rw[z];exact O.irr _
      ·exact up1 j (m - 1) (by omega) (by omega)
     -- i against j: i<=dr<=first<=j,whichever
     have f1:lt (gt p i) (gt p (m - 1))=false:=O.tr _ _ _ h (l0 i x2);exact O.tr _ _ _ (lz j y2) f1
    have sz:m<=p.size:=by rw[hp.size];omega
    have all2:Dn lt (Uw p 0 m) m:=Dn.turn sz (λi j x y=>all i j (O5 _) (by omega) (O5 _) y) all;refine DD O two (hp.rev _ _) a1 (by omega) (Dn.next O all2 a1 ?_);rw[tq sz,tq sz,if_pos ⟨O5 _,by omega⟩,if_neg (by omega)];refine O.tr _ _ _ (O.as _ _ dr) ?_;exact all _ _ (O5 _) (by omega) (O5 _) (by omega)
  ·have:m=1:=by omega
   subst this;exact DD O two hp (v_ _) (by omega) (Dn.next O (λi j x y=>by omega) (v_ _) (O.as _ _ dr))
theorem yb{p:Array Nat}{k:Nat}(hp:Pm n p)(hk:k < n)(up:Up lt p k):∀(f l r:Nat),l<=r->r<=k->r - l<=f->(∀i,i < l->lt (gt p k) (gt p i)=false)->(∀i,r<=i->i < k->lt (gt p k) (gt p i)=true) →
  (kas_place p k f l r).kasWp (askIn n lt) (λl' _=>l'<=k/\(∀i,i < l'->lt (gt p k) (gt p i)=false)/\∀i,l'<=i->i < k->lt (gt p k) (gt p i)=true) s
 | 0,l,r,h1,h2,h3,h4,h5=>by
  rw[kas_place];exact⟨by omega,h4,λi x y=>h5 i (by omega) y⟩
 | f+1,l,r,h1,h2,h3,h4,h5=>by
  rw[kas_place];split
  ·exact⟨by omega,h4,λi x y=>h5 i (by omega) y⟩
  ·refine⟨hp.bd (by omega) k,hp.bd (by omega) _,?_⟩;cases h:lt (p.getD k 0) (p.getD ((l+r) / 2) 0) with
   | true =>
    dsimp only;rw[if_pos rfl];refine yb hp hk up f l ((l+r) / 2) (by omega) (by omega) (by omega) h4 λi x y=>?_
    by_cases z:i=(l+r) / 2
    ·rw[z];exact h
    ·exact O.lt_le h (up _ _ (by omega) y)
   | false =>
    dsimp only;rw[if_neg k_];refine yb hp hk up f ((l+r) / 2+1) r (by omega) (by omega) (by omega) (λi x=>?_) h5;by_cases z:i=(l+r) / 2
    ·rw[z];exact h
    ·exact O.tr _ _ _ (up i ((l+r) / 2) (by omega) (by omega)) h
theorem AG:∀(f:Nat) (p:Array Nat) (k:Nat),Pm n p->Up lt p k->1<=k->k+f=n->(kas_bin f p k).kasWp (askIn n lt) (λp' _=>Pm n p'/\Up lt p' n) s
 | 0,p,k,hp,up,h1,h2=>by
  rw[kas_bin];have:k=n:=by omega
  subst this;exact⟨hp,up⟩
 | f+1,p,k,hp,up,h1,h2=>by
  rw[kas_bin];refine vt (yb O two hp (by omega) up k 0 k (O5 _) (v_ _) (by omega) (λi h=>by omega) λi x y=>by omega) λl ⟨c1,c2,c3⟩=>?_
  refine AG f _ (k+1) (trans (bubble_perm _ _ _) hp) (λi j dg hj=>?_) (by omega) (by omega);have hk:k < p.size:=by rw[hp.size];omega
  rw[BC hk (by omega),BC hk (by omega),show k - (k - l)=l by omega];by_cases j1:j=l
  ·rw[if_pos j1,if_neg (by omega),if_neg (by omega)];exact c2 i (by omega)
  ·rw[if_neg j1];by_cases j2:l < j/\j<=k
   ·rw[if_pos j2];by_cases i1:i=l
    ·rw[if_pos i1];exact O.as _ _ (c3 (j - 1) (by omega) (by omega))
    ·rw[if_neg i1];by_cases i2:l < i/\i<=k
     ·rw[if_pos i2];exact up _ _ (by omega) (by omega)
     ·rw[if_neg i2];exact up _ _ (by omega) (by omega)
   ·rw[if_neg j2,if_neg (by omega),if_neg (by omega)];exact up _ _ dg (by omega)
theorem Io:(kas_sort n).kasWp (askIn n lt) (λp _=>Pm n p/\Up lt p n) s:=by
 unfold kas_sort;refine vt (FQ O two (p:=(Pk n).toArray) (Array.Perm.refl _)) λr ⟨a1,a2,a3,a4⟩=>?_
 split
 ·refine AG O two _ _ _ a3 ?_ (by omega) (by omega);rw[Nat.max_eq_left a1];exact a4
 ·have:r.1=n:=by omega
  rw[this] at a4;exact⟨a3,a4⟩
end
end DL
namespace DL
open PySem PySem.W PySem.Spec PyProof.Rows
section
variable{prog:C_}{w:J_}{E:b_->d_->Prop}{s:d_}
noncomputable def byP(vs:List b_)(p:Array Nat):List b_:=p.toList.map λi=>vs.getD i b_.none
theorem Jd(vs:List b_):byP vs (Pk vs.length).toArray=vs:=by
 unfold byP;refine List.ext_getElem (by simp) λi h1 h2=>?_
 simp[h2]
theorem Hn{p:Array Nat}(h:Pm vs.length p):(byP vs p).length=vs.length:=by
 unfold byP;rw[w_,O2,h.size]
def KeptBut(a:l_)(h h':I_):Prop:=∀b o,b≠a->h.get? b=some o->h'.get? b=some o
theorem F2{e:Nat}{κ:SortKind}{lt:Nat->Nat->Bool}{P:PySem.Fin->d_->Prop}(ho:s.heap.get? a=some (RB "list" vs.toArray e))(eB:vs.length < 64)(O:Ord lt)(kind:∀h' Q,KeptBut a s.heap h'->2<=vs.length->Q κ { s with heap:=h' }->o_ (s_ prog w) A (keyKind' vs.toArray) Q E { s with heap:=h' })(Va:∀h' i j C,KeptBut a s.heap h'->i < vs.length->j < vs.length->C (lt i j) { s with heap:=h' }->o_ (s_ prog w) A (keyLt' κ (vs.getD i b_.none) (vs.getD j b_.none)) C (λ_ _=>False) { s with heap:=h' })(fin:∀p h' c,Pm vs.length p->Up lt p vs.length->KeptBut a s.heap h'->h'.get? a=some (RB "list" (byP vs p).toArray c)->P (.done (.ret .none)) { s with heap:=h' }):
  o_ (s_ prog w) A (P3.«list.sort» ⟨[.ref a],[]⟩) P E s:=by
 have line:64<=x_:=by rw[Pf];decide
 obtain⟨g1,ki⟩:∃g1,g1=s.heap.update a (Rz λ_=>(#[]:Array b_)):=⟨_,rfl⟩;obtain⟨e1,o1⟩:∃e1,g1.get? a=some (RB "list" #[] e1):=⟨_,by rw[ki];exact get?_update_seq ho _⟩;have k1:KeptBut a s.heap g1:=λb o ne x=>by rw[ki];exact(OK _ _ (O4 ne)).trans x
 obtain⟨g2,kj⟩:∃g2,g2=(g1.push (RB "tuple" vs.toArray 0)).push (RB "list" #[] 0):=⟨_,rfl⟩;have o2:g2.get? a=some (RB "list" #[] e1):=by rw[kj];exact e_ _ (e_ _ o1)
 have k2:KeptBut a s.heap g2:=λb o ne x=>by rw[kj];exact e_ _ (e_ _ (k1 b o ne x))
 have jJ:∀km,(2<=vs.length->km=κ)->o_ (s_ prog w) A ((if vs.toArray.size < 2 then pure () else sortRuns').run (SortSt.mk' km (vs.toArray.zip vs.toArray) #[] 7 none))
   (λr s'=>s'={ s with heap:=g2 }/\∃p,Pm vs.length p/\Up lt p vs.length/\(arrOf r.2).map (·.2)=(byP vs p).toArray/\failedOf r.2=none) E { s with heap:=g2 }:=λkm oA=>by
  rcases RL vs.length 2 with ff | big
  ·rw[if_pos (by rw[q_];exact ff)];refine c_ ⟨rfl,(Pk vs.length).toArray,Array.Perm.refl _,λi j x y=>by omega,?_,rfl⟩;rw[Jd];show((vs.toArray.zip vs.toArray).map (·.2))=_;refine Array.ext (by simp) λi h1 h2=>by simp
  ·rw[if_neg (by rw[q_];omega),oA big];refine kat_run (ks:=vs) (vs:=vs) (G:=λp s'=>(Pm vs.length p/\Up lt p vs.length)/\s'={ s with heap:=g2 }) (Q:=λst s'=>s'={ s with heap:=g2 }/\∃p,Pm vs.length p/\Up lt p vs.length/\(arrOf st).map (·.2)=(byP vs p).toArray/\failedOf st=none) rfl big eB ?_ ?_
   ·rintro p st s' hz ko aV ⟨⟨hp,up⟩,rfl⟩;exact⟨rfl,p,hp,up,kat_snds rfl ko,aV⟩
   ·exact vK (P:=λp=>Pm vs.length p/\Up lt p vs.length) (λi j C h1 h2 h3=>Va g2 i j C k2 h1 h2 h3) (λp hp=>⟨hp,rfl⟩) _ (Io O big)
 rw[list_sort_plain];refine a_ (listItems_at ho rfl (a_ (listUpdate_at ho rfl ?_ (by rw[q_];omega) (O5 _))));rw[←ki];refine a_ (seqEpoch_at o1 rfl (a_ (Sf (a_ (wpAny_newList (OT ?_) (O5 _))) (by show vs.length<=_;omega))));show o_ (s_ prog w) A _ P E { s with heap:=(g1.push (RB "tuple" vs.toArray 0)).push (RB "list" #[] 0) };rw[←kj];dsimp only
 rcases RL vs.length 2 with ff | big
 all_goals
  first
   | (rw[if_pos (by rw[q_];exact ff)];refine a_ (c_ ?_);have step:=jJ general' λh=>by omega)
   | (rw[if_neg (by rw[q_];omega)];refine a_ (kind g2 _ k2 big ?_);have step:=jJ κ λ_=>rfl)
  refine a_ (Pp step (λr s' h=>?_) λ_ _ x=>x);obtain⟨rfl,p,hp,up,ko,aV⟩:=h;rw[ko,aV];refine a_ (seqEpoch_at o2 rfl (a_ (listUpdate_at o2 rfl ?_ (O5 _) ?_)))
  ·dsimp only;rw[bne_self_eq_false,if_neg k_];exact c_ (fin p _ _ hp up (λb o ne x=>(OK _ _ (O4 ne)).trans (k2 b o ne x)) (get?_update_seq o2 λ_=>(byP vs p).toArray))
  ·show(byP vs p).toArray.size<=_;rw[q_,Hn hp];omega
theorem zx{l:l_}{κ:SortKind}{lt:Nat->Nat->Bool}{Q:b_->d_->Prop}(eB:vs.length < 64)(O:Ord lt)(gW:∀Q':List b_->d_->Prop,(∀h' tk,(∀b o,s.heap.get? b=some o->h'.get? b=some o)->s.heap.objs.size<=h'.objs.size->Q' vs { s with heap:=h',toks:=tk })->o_ (s_ prog w) A.in1 (Ux (.ref l)) Q' E s)(kind:∀h' tk Q,(∀b o,s.heap.get? b=some o->h'.get? b=some o)->2<=vs.length->Q κ { s with heap:=h',toks:=tk }->o_ (s_ prog w) A.in1.in1 (keyKind' vs.toArray) Q (λ_ _=>False) { s with heap:=h',toks:=tk })(Va:∀h' tk i j C,(∀b o,s.heap.get? b=some o->h'.get? b=some o)->i < vs.length->j < vs.length->C (lt i j) { s with heap:=h',toks:=tk }->o_ (s_ prog w) A.in1.in1 (keyLt' κ (vs.getD i b_.none) (vs.getD j b_.none)) C (λ_ _=>False) { s with heap:=h',toks:=tk })(fin:∀p h' tk D c,Pm vs.length p->Up lt p vs.length->(∀b o,s.heap.get? b=some o->h'.get? b=some o)->s.heap.objs.size<=D->h'.get? D=some (RB "list" (byP vs p).toArray c)->Q (.ref D) { s with heap:=h',toks:=tk }):
  o_ (s_ prog w) A (call (.builtin "sorted") [b_.ref l]) Q E s:=by
 have line:64<=x_:=by rw[Pf];decide
 refine Calls.call_function_entry kind_sorted plain_sorted entry_sorted (args_sorted1 _) ?_;refine a_ (m:=checkCount "sorted" 1 1 _) (c_ (a_ (gW _ λg tk kg above=>a_ (wpAny_newList ?_ (by omega)))));have aU:(g.push (RB "list" vs.toArray 0)).get? g.objs.size=some (RB "list" vs.toArray 0):=t_ _ rfl
 have old:∀(h':I_),KeptBut g.objs.size (g.push (RB "list" vs.toArray 0)) h'->∀b o,s.heap.get? b=some o->h'.get? b=some o:=λh' k b o x =>
  k b o (OI (L_ (H_ x) above)) (e_ _ (kg b o x))
 refine a_ (OT (ON PyProof.Rows.slot_list_sort ⟨_,aU,rfl⟩ PyProof.Rows.entry_list_sort ?_ (args_list_sort _)));refine F2 (s:={ s with heap:=g.push (RB "list" vs.toArray 0),toks:=tk }) (lt:=lt) (κ:=κ) aU eB O (λh' Q' k two q=>Pp (kind h' tk Q' (old h' k) two q) (λ_ _ x=>x) λ_ _ x=>x.elim) (λh' i j C k=>Va h' tk i j C (old h' k)) λp h' c hp up k here=>?_
 exact⟨_,rfl,c_ ⟨_,rfl,fin p h' tk _ c hp up (old h' k) above here⟩⟩
end
end DL
namespace DL
open PySem PySem.W PySem.Spec PyProof.Rows L2
noncomputable def rk:D->Nat
 | .non=>0
 | .bl _=>1
 | .int _=>2
 | .str _=>3
 | .tup _=>4
 | .lst _=>5
noncomputable def cI(a b:Int):Ordering:=if a < b then .lt else if b < a then .gt else .eq
mutual
noncomputable def cO:D->D->Ordering
 | .int a,.int b=>cI a b
 | .tup xs,.tup ys=>cOA xs ys
 | a,b=>cI (rk a) (rk b)
noncomputable def cOA:List D->List D->Ordering
 | [],[]=>.eq
 | [],_::_=>.lt
 | _::_,[]=>.gt
 | x::xs,y::ys=>(cO x y).then (cOA xs ys)
end
theorem ux(a b:Int):cI b a=(cI a b).swap:=by
 unfold cI;by_cases h1:a < b
 ·rw[if_pos h1,if_neg (by omega),if_pos h1];rfl
 ·by_cases h2:b < a
  ·rw[if_pos h2,if_neg h1,if_pos h2];rfl
  ·rw[if_neg h2,if_neg h1,if_neg h1,if_neg h2];rfl
theorem BR{a b:D}(h:rk a≠rk b):cO a b=cI (rk a) (rk b):=by
 cases a<;>cases b<;>first | rfl | (exact absurd rfl h) | (simp[cO];done)
mutual
theorem y6:∀a b:D,cO b a=(cO a b).swap
 | .int a,b=>by
  cases b<;>simp only[cO]<;>exact ux _ _
 | .tup xs,b=>by
  cases b<;>simp only[cO]<;>first | exact ux _ _ | exact DY _ _
 | .non,b=>by cases b<;>simp only[cO]<;>exact ux _ _
 | .bl _,b=>by cases b<;>simp only[cO]<;>exact ux _ _
 | .str _,b=>by cases b<;>simp only[cO]<;>exact ux _ _
 | .lst _,b=>by cases b<;>simp only[cO]<;>exact ux _ _
theorem DY:∀xs ys:List D,cOA ys xs=(cOA xs ys).swap
 | [],[]=>by simp[cOA]
 | [],_::_=>by simp[cOA]
 | _::_,[]=>by simp[cOA]
 | x::xs,y::ys=>by
  rw[cOA,cOA,y6 x y,DY xs ys];cases cO x y<;>rfl
end
noncomputable def dl(a b:D):Bool:=cO a b == .lt
noncomputable def dlA(xs ys:List D):Bool:=cOA xs ys == .lt
theorem zT(a b:Int):(cI a b == Ordering.lt)=decide (a < b):=by
 unfold cI;by_cases h1:a < b
 ·rw[if_pos h1];simp[h1]
 ·rw[if_neg h1];split<;>simp[h1]
theorem tm{a b:Int}:dl (.int a) (.int b)=decide (a < b):=by
 unfold dl;rw[cO,zT]
theorem uS{xs:List D}:dl (.tup xs) (.tup ys)=dlA xs ys:=by
 unfold dl dlA;rw[cO]
theorem xh:dlA [] []=false:=by unfold dlA;simp[cOA]
theorem uN{y:D}:dlA [] (y::ys)=true:=by unfold dlA;simp[cOA]
theorem vc{y:D}:dlA (y::ys) []=false:=by unfold dlA;simp[cOA]
theorem u8{x y:D}{xs:List D}:dlA (x::xs) (y::ys)=(dl x y||(!dl y x&&dlA xs ys)):=by
 unfold dlA dl;rw[cOA,y6 x y];cases cO x y<;>simp[Ordering.then,Ordering.swap]
theorem DK{a b:D}(h:rk a < rk b):dl a b=true:=by
 unfold dl;rw[BR (OI h),zT];simp;omega
theorem Jj{a b:D}(h:rk b < rk a):dl a b=false:=by
 unfold dl;rw[BR (Q_ h),zT];simp;omega
theorem wV{a b:D}(h:rk a=rk b)(h1:rk a≠2)(h2:rk a≠4):dl a b=false:=by
 unfold dl;cases a<;>cases b<;>first | (simp[rk] at h;done) | (exact absurd rfl h1) | (exact absurd rfl h2) | (simp[cO,cI,rk];done)
mutual
theorem uZ:∀a b c:D,dl b a=false->dl c b=false->dl c a=false:=λa b c h1 h2=>by
 have r1:rk a<=rk b:=SR λh=>by rw[DK h] at h1;cases h1
 have r2:rk b<=rk c:=SR λh=>by rw[DK h] at h2;cases h2
 rcases RL (rk a) (rk c) with h | h
 ·exact Jj h
 ·have e1:rk b=rk a:=by omega
  have e2:rk c=rk a:=by omega
  match a,b,c with
  | .int a,.int b,.int c =>
   rw[tm] at h1 h2 ⊢;simp at h1 h2 ⊢;omega
  | .tup xs,.tup ys,.tup zs =>
   rw[uS] at h1 h2 ⊢;exact Bs xs ys zs h1 h2
  | .non,_,_=>exact wV e2 (by rw[e2];decide) (by rw[e2];decide)
  | .bl _,_,_=>exact wV e2 (by rw[e2];simp[rk]) (by rw[e2];simp[rk])
  | .str _,_,_=>exact wV e2 (by rw[e2];simp[rk]) (by rw[e2];simp[rk])
  | .lst _,_,_=>exact wV e2 (by rw[e2];simp[rk]) (by rw[e2];simp[rk])
termination_by a b c=>sizeOf a+sizeOf b+sizeOf c
decreasing_by all_goals (simp_wf;omega)
theorem Bs:∀xs ys zs:List D,dlA ys xs=false->dlA zs ys=false->dlA zs xs=false
 | [],_,[],_,_=>xh
 | [],_,z::zs,_,_=>vc
 | x::xs,[],_,h1,_=>by rw[uN] at h1;cases h1
 | x::xs,y::ys,[],_,h2=>by rw[uN] at h2;cases h2
 | x::xs,y::ys,z::zs,h1,h2=>by
  simp only[u8,Bool.or_eq_false_iff,Bool.and_eq_false_iff,Bool.not_eq_false'] at h1 h2 ⊢;obtain⟨a1,a2⟩:=h1;obtain⟨b1,b2⟩:=h2;refine⟨uZ x y z a1 b1,?_⟩;cases hx:dl x z with
  | true=>exact .inl rfl
  | false =>
   right
   rcases a2 with a2 | a2
   ·have:=uZ y z x b1 hx;rw[a2] at this;cases this
   ·rcases b2 with b2 | b2
    ·have:=uZ z x y hx a1;rw[b2] at this;cases this
    ·exact Bs xs ys zs a2 b2
termination_by xs ys zs=>sizeOf xs+sizeOf ys+sizeOf zs
decreasing_by all_goals (simp_wf;omega)
end
theorem DA(a b:D)(h:dl a b=true):dl b a=false:=by
 unfold dl at h ⊢;rw[y6 a b];cases e:cO a b<;>rw[e] at h<;>first | rfl | (cases h;done)
theorem xB(ds:List D):Ord λi j=>dl (ds.getD i .non) (ds.getD j .non):=⟨λa b h=>DA _ _ h,λa b c h1 h2=>uZ _ _ _ h1 h2⟩
mutual
noncomputable def cmB:D->D->Bool
 | .int _,.int _=>true
 | .tup xs,.tup ys=>cmA xs ys
 | _,_=>false
noncomputable def cmA:List D->List D->Bool
 | x::xs,y::ys=>cmB x y&&cmA xs ys
 | _,_=>true
end
mutual
theorem uf:∀a b:D,cmB a b=true->deq a b=(!dl a b&&!dl b a)
 | .int a,.int b,_=>by
  rw[tm,tm];by_cases h:a=b
  ·simp[deq,h]
  ·rcases Int.lt_or_gt_of_ne h with h' | h'
   ·simp[deq,h,h']
   ·simp[deq,h,h']
 | .tup xs,.tup ys,h=>by
  rw[cmB] at h;rw[deq,uS,uS];exact AK xs ys h
 | .non,_,h=>by simp[cmB] at h
 | .bl _,_,h=>by simp[cmB] at h
 | .str _,_,h=>by simp[cmB] at h
 | .lst _,_,h=>by simp[cmB] at h
 | .int _,.non,h=>by simp[cmB] at h
 | .int _,.bl _,h=>by simp[cmB] at h
 | .int _,.str _,h=>by simp[cmB] at h
 | .int _,.tup _,h=>by simp[cmB] at h
 | .int _,.lst _,h=>by simp[cmB] at h
 | .tup _,.non,h=>by simp[cmB] at h
 | .tup _,.bl _,h=>by simp[cmB] at h
 | .tup _,.str _,h=>by simp[cmB] at h
 | .tup _,.int _,h=>by simp[cmB] at h
 | .tup _,.lst _,h=>by simp[cmB] at h
theorem AK:∀xs ys:List D,cmA xs ys=true->deqA xs ys=(!dlA xs ys&&!dlA ys xs)
 | [],[],_=>by simp[deqA,xh]
 | [],_::_,_=>by simp[deqA,uN,vc]
 | _::_,[],_=>by simp[deqA,uN,vc]
 | x::xs,y::ys,h=>by
  rw[cmA,OP] at h;rw[deqA,uf x y h.1,AK xs ys h.2,u8,u8];cases h1:dl x y<;>cases h2:dl y x<;>simp
end
mutual
theorem uM:∀a b:D,cmB a b=true->deq a b=true->a=b
 | .int a,.int b,_,h=>by simp[deq] at h;rw[h]
 | .tup xs,.tup ys,c,h=>by
  rw[cmB] at c;rw[deq] at h;rw[Ao xs ys c h]
 | .non,_,h,_=>by simp[cmB] at h
 | .bl _,_,h,_=>by simp[cmB] at h
 | .str _,_,h,_=>by simp[cmB] at h
 | .lst _,_,h,_=>by simp[cmB] at h
 | .int _,.non,h,_=>by simp[cmB] at h
 | .int _,.bl _,h,_=>by simp[cmB] at h
 | .int _,.str _,h,_=>by simp[cmB] at h
 | .int _,.tup _,h,_=>by simp[cmB] at h
 | .int _,.lst _,h,_=>by simp[cmB] at h
 | .tup _,.non,h,_=>by simp[cmB] at h
 | .tup _,.bl _,h,_=>by simp[cmB] at h
 | .tup _,.str _,h,_=>by simp[cmB] at h
 | .tup _,.int _,h,_=>by simp[cmB] at h
 | .tup _,.lst _,h,_=>by simp[cmB] at h
theorem Ao:∀xs ys:List D,cmA xs ys=true->deqA xs ys=true->xs=ys
 | [],[],_,_=>rfl
 | [],_::_,_,h=>by simp[deqA] at h
 | _::_,[],_,h=>by simp[deqA] at h
 | x::xs,y::ys,c,h=>by
  rw[cmA,OP] at c;rw[deqA,OP] at h;rw[uM x y c.1 h.1,Ao xs ys c.2 h.2]
end
open PySem.SeqAt in
theorem CT(e lt:Nat->Bool)(d:Bool)(f:Nat->Nat):∀l:List Nat,ltFrom e lt d (l.map f)=ltFrom (λi=>e (f i)) (λi=>lt (f i)) d l
 | []=>rfl
 | i::l=>by rw[F_,ltFrom,ltFrom,CT e lt d f l]
open PySem.SeqAt in
theorem Dd:∀xs ys:List D,cmA xs ys=true->ltFrom (λj=>deq (xs.getD j .non) (ys.getD j .non)) (λj=>dl (xs.getD j .non) (ys.getD j .non)) (decide (xs.length < ys.length)) (Pk (min xs.length ys.length))=dlA xs ys
 | [],[],_=>by simp[ltFrom,xh]
 | [],_::_,_=>by simp[ltFrom,uN]
 | _::_,[],_=>by simp[ltFrom,vc]
 | x::xs,y::ys,c=>by
  rw[cmA,OP] at c;have ih:=Dd xs ys c.2;rw[OQ,OQ,Nat.succ_min_succ,QC,ltFrom,CT,u8]
  have e:ltFrom (λi=>deq ((x::xs).getD i.succ .non) ((y::ys).getD i.succ .non)) (λi=>dl ((x::xs).getD i.succ .non) ((y::ys).getD i.succ .non)) (decide (xs.length+1 < ys.length+1)) (Pk (min xs.length ys.length))=dlA xs ys:=by
   rw[←ih]
   congr 1
   simp
  rw[e];show(if deq x y=true then dlA xs ys else dl x y)=_;rw[uf x y c.1];cases h1:dl x y<;>cases h2:dl y x<;>simp
theorem Ay:∀(xs ys:List D),cmA xs ys=true->∀j,j < xs.length->j < ys.length->cmB (xs.getD j .non) (ys.getD j .non)=true
 | [],_,_,j,h,_=>by simp at h
 | _::_,[],_,j,_,h=>by simp at h
 | x::xs,y::ys,c,j,h1,h2=>by
  rw[cmA,OP] at c;cases j with
  | zero=>exact c.1
  | succ j=>exact Ay xs ys c.2 j (by simpa using h1) (by simpa using h2)
section
variable{H:Hp}{s:d_}
open PySem.SeqAt in
theorem IW(I:Inv X aa U H s):∀(n:Nat) (A:PB),A.units+n < PK->∀(a b:D) (x y:V) (u v:b_),dep a<=n->cmB a b=true->Is X.K H a x->Is X.K H b y->RelV x u->RelV y v->RcLtAt A s u v (dl a b):=by
 intro n
 induction n with
 | zero =>
  intro A hu a b x y u v hd c ha hb ru rv;cases a<;>cases b<;>simp[cmB] at c
  ·rename_i i j;rw[qZ ha] at ru;rw[qZ hb] at rv;obtain⟨t1,rfl⟩:=ru;obtain⟨t2,rfl⟩:=rv;rw[tm];exact RcLtAt.int_int _ _ _ _
  ·rw[dep] at hd;omega
 | succ n ih =>
  intro A hu a b x y u v hd c ha hb ru rv;cases a<;>cases b<;>simp[cmB] at c
  ·rename_i i j;rw[qZ ha] at ru;rw[qZ hb] at rv;obtain⟨t1,rfl⟩:=ru;obtain⟨t2,rfl⟩:=rv;rw[tm];exact RcLtAt.int_int _ _ _ _
  ·rename_i ds es;have eZ:A.in1.units+n < PK:=by show A.units+1+n < PK;omega
   obtain⟨p,xs,rfl,h1,h2⟩:=rm ha;obtain⟨q,ys,rfl,h3,h4⟩:=rm hb;cases ru;cases rv;obtain⟨ae,r1,t1,_⟩:=I.tuple h1;obtain⟨aY,r2,t2,_⟩:=I.tuple h3;have l1:ae.toArray.size=ds.length:=by rw[q_,←r1.length,h2.length]
   have l2:aY.toArray.size=es.length:=by rw[q_,←r2.length,h4.length]
   have two:∀j (g1:j < ae.toArray.size) (g2:j < aY.toArray.size),Vn A.in1 s ae.toArray[j] aY.toArray[j] (deq (ds.getD j .non) (es.getD j .non))/\(deq (ds.getD j .non) (es.getD j .non)=false->RcLtAt A.in1 s ae.toArray[j] aY.toArray[j] (dl (ds.getD j .non) (es.getD j .non))):=λj g1 g2=>by
    obtain⟨v1,q1,q2⟩:=h2.getU r1 g1;obtain⟨v2,q3,q4⟩:=h4.getU r2 g2
    have m1:ds.getD j .non∈ds:=by
     rw[i_,f_ (by omega)];exact Pg _
    have k1:=sM m1;rw[dep] at hd;exact⟨(uB I n A.in1 eZ _ _ _ _ _ _ (.inl (by omega)) q2 q4 q1 q3).2.1,λ_=>ih A.in1 eZ _ _ _ _ _ _ (by omega) (Ay ds es c j (by omega) (by omega)) q2 q4 q1 q3⟩
   have R1:=RcLtAt.tuples (A:=A) t1 t2 (by omega) two;rw[l1,l2,Dd ds es c] at R1;rw[uS];exact R1
end
end DL
namespace DL
open PySem PySem.W PySem.Spec PyProof.Rows L2
noncomputable def leD(a b:D):Bool:=!dl b a
noncomputable def sortD(ds:List D):List D:=ds.mergeSort leD
theorem BK(a b c:D)(h1:leD a b=true)(h2:leD b c=true):leD a c=true:=by
 unfold leD at *;simp only[S5] at *;exact uZ a b c h1 h2
theorem CQ(a b:D):(leD a b||leD b a)=true:=by
 unfold leD;cases h:dl b a with
 | false=>rfl
 | true=>rw[DA b a h];rfl
theorem uJ(ds:List D):(sortD ds).Perm ds:=Rl ds leD
theorem uV(ds:List D):(sortD ds).Pairwise λa b=>leD a b=true:=SU BK CQ ds
theorem u3:∀(l m:List D),l.Perm m->(l.Pairwise λa b=>leD a b=true)->(m.Pairwise λa b=>leD a b=true)->(∀a∈l,∀b∈l,leD a b=true->leD b a=true->a=b)->l=m
 | [],m,p,_,_,_=>by rw[List.nil_perm.mp p]
 | a::l,[],p,_,_,_=>by have:=p.length_eq;simp at this
 | a::l,b::m,p,h1,h2,an=>by
  have e:a=b:=by
   have ia:a∈b::m:=p.mem_iff.mp j_;have ib:b∈a::l:=p.mem_iff.mpr j_
   rcases r_.mp ia with h | h
   ·exact h
   ·rcases r_.mp ib with h' | h'
    ·exact h'.symm
    ·exact an a j_ b ib ((RE.mp h1).1 b h') ((RE.mp h2).1 a h)
  subst e;rw[u3 l m ((List.perm_cons a).mp p) (RE.mp h1).2 (RE.mp h2).2 λx hx y hy=>an x (h_ _ hx) y (h_ _ hy)]
noncomputable def permD(p:Array Nat)(ds:List D):List D:=p.toList.map λi=>ds.getD i .non
noncomputable def permV(p:Array Nat)(zs:List V):List V:=p.toList.map λi=>zs.getD i .non
noncomputable def cmAll(ds:List D):Bool:=ds.all λa=>ds.all λb=>cmB a b
theorem Lf{p:Array Nat}(hp:Pm ds.length p)(up:Up (λi j=>dl (ds.getD i .non) (ds.getD j .non)) p ds.length)(cm:cmAll ds=true):permD p ds=sortD ds:=by
 have pm:(permD p ds).Perm ds:=by
  have h1:p.toList.Perm (Pk ds.length):=by
   have:=QJ.mp hp;simpa using this
  have h2:=h1.map λi=>ds.getD i .non
  have h3:((Pk ds.length).map λi=>ds.getD i .non)=ds:=by
   refine List.ext_getElem (by simp) λi h1 h2=>?_
   simp[h2]
  rw[h3] at h2;exact h2
 have iW:∀a∈permD p ds,∀b∈permD p ds,cmB a b=true:=λa ha b hb=>by
  have:=u_.mp cm a (pm.mem_iff.mp ha);exact u_.mp this b (pm.mem_iff.mp hb)
 refine u3 _ _ (pm.trans (uJ ds).symm) ?_ (uV ds) λa ha b hb h1 h2=>?_
 ·rw[Sn];intro i j hi hj dg;unfold permD at hi hj ⊢;rw[w_,O2,hp.size] at hi hj;have:=up i j dg hj;simp only[Su,Tv];unfold gt at this;rw[VB,dif_pos (by rw[hp.size];exact hj),VB,dif_pos (by rw[hp.size];exact hi)] at this;unfold leD;rw[S5];exact this
 ·have c:=iW a ha b hb;refine uM a b c ?_;rw[uf a b c];unfold leD at h1 h2;rw[h1,h2];rfl
section
variable{H:Hp}{s:d_}
noncomputable def fstI:D->Bool
 | .tup (.int _::_)=>true
 | _=>false
noncomputable def fstT:D->Bool
 | .tup (.tup _::_)=>true
 | _=>false
noncomputable def isInt:D->Bool
 | .int _=>true
 | _=>false
theorem BD(I:Inv X aa U H s){prog:C_}{w:J_}{n:Nat}{b fin:Bool}{Q:Bool->d_->Prop}(hu:A.units+n < PK):∀(ds es:List D) (xs ys:List V) (us vs:List b_) (i:Nat),IsA X.K H ds xs->IsA X.K H es ys->Vals xs us->Vals ys vs →
  depA ds<=n->cmA ds es=true->fin=decide (ds.length < es.length)->(b=true->i=0->∀d e r r',ds=d::r->es=e::r'->isInt d=true/\isInt e=true)->Q (dlA ds es) s->KatLex prog w A b fin Q (us.zip vs) i s
 | [],es,xs,ys,us,vs,i,h1,h2,h3,h4,hd,c,hf,fl,q=>by
  have:=h1.nil_inv;subst this;cases h3;rw[List.zip_nil_left];refine kat_nil ?_;rw[hf];cases es with
  | nil=>rw[xh] at q;exact q
  | cons e es=>rw[uN] at q;simpa using q
 | d::ds,[],xs,ys,us,vs,i,h1,h2,h3,h4,hd,c,hf,fl,q=>by
  have:=h2.nil_inv;subst this;cases h4;rw[List.zip_nil_right];refine kat_nil ?_;rw[hf];rw[vc] at q;simpa using q
 | d::ds,e::es,xs,ys,us,vs,i,h1,h2,h3,h4,hd,c,hf,fl,q=>by
  obtain⟨x,xr,rfl,a1,a2⟩:=h1.cons_inv;obtain⟨y,yr,rfl,b1,b2⟩:=h2.cons_inv;cases h3 with
  | cons r1 r2 =>
   cases h4 with
   | cons s1 s2 =>
    rename_i u oB v oC;rw[depA] at hd;rw[cmA,OP] at c;rw[u8] at q;have eq:=(uB I n A hu d e x y u v (.inl (by omega)) a1 b1 r1 s1).2.1;have lt:=IW I n A hu d e x y u v (by omega) c.1 a1 b1 r1 s1;have ed:=uf d e c.1;rw[Qc];refine kat_cons (eq prog w _ _ (kat_go (λh=>kat_yes ?_) λh=>kat_no ?_))
    ·refine BD I hu ds es xr yr oB oC (i+1) a2 b2 r2 s2 (by omega) c.2 (by rw[hf];simp) (λ_ z=>by omega) ?_;rw[h] at ed;have ed:=ed.symm;simp only[OP,S5] at ed;rw[ed.1,ed.2] at q;simpa using q
    ·have q':Q (dl d e) s:=by
      rw[h] at ed;cases h1:dl d e with
      | true=>rw[h1] at q;simpa using q
      | false =>
       rw[h1] at ed q;cases h2:dl e d with
       | true=>rw[h2] at q;simpa using q
       | false=>rw[h2] at ed;cases ed
     by_cases z:b=true/\i=0
     ·obtain⟨zb,zi⟩:=z;obtain⟨f1,f2⟩:=fl zb zi d e ds es rfl rfl;subst zb;subst zi;cases d<;>simp[isInt] at f1
      cases e<;>simp[isInt] at f2
      rw[qZ a1] at r1;rw[qZ b1] at s1;obtain⟨t1,rfl⟩:=r1;obtain⟨t2,rfl⟩:=s1;show o_ _ _ (oneLt' true _ _) _ _ _;rw[←keyLt'_oneType];rw[tm] at q';exact kat_lt_int q'
     ·have:(b&&i == 0)=false:=by
       cases b
       ·rfl
       ·simp at z ⊢;exact z
      rw[this];exact kat_one _ _ (lt prog w _ _ q')
theorem at_k(h:IsA X.K H ds zs)(r:Vals zs vs)(hk:k < vs.length):∃x,Is X.K H (ds.getD k .non) x/\RelV x (vs.getD k .none)/\ds.getD k .non∈ds/\zs[k]?=some x:=by
 have l1:=h.length;have l2:=r.length;have kq:k < ds.length:=by omega
 obtain⟨x,e1,e2⟩:=h.get (f_ kq);obtain⟨u,e3,e4⟩:=r.get e1;refine⟨x,?_,?_,?_,e1⟩
 ·rw[i_,f_ kq];exact e2
 ·rw[i_,e3];exact e4
 ·rw[i_,f_ kq];exact Pg _
theorem yV(I:Inv X aa U H s)(prog:C_)(w:J_)(P:D->Bool)(T:b_)(hP:∀d,P d=true->∃f r,d=.tup (f::r)/\∀x u,Is X.K H f x->RelV x u->Vf (s_ prog w) s.heap (Vs u) T):
  ∀(ds:List D) (zs:List V) (vs:List b_),IsA X.K H ds zs->Vals zs vs->ds.all P=true->∃fs,KatTups s.heap vs fs/\fs.length=vs.length/\∀v∈fs,Vf (s_ prog w) s.heap (Vs v) T
 | [],zs,vs,h,r,_=>by
  have:=h.nil_inv;subst this;cases r;exact⟨[],KatTups.nil,rfl,λv hv=>nomatch hv⟩
 | d::ds,zs,vs,h,r,ok=>by
  obtain⟨x,zr,rfl,h1,h2⟩:=h.cons_inv;rw[Qh,OP] at ok;cases r with
  | cons r1 r2 =>
   obtain⟨fs,k1,k2,k3⟩:=yV I prog w P T hP ds zr _ h2 r2 ok.2;obtain⟨f,ak,rfl,look⟩:=hP d ok.1;obtain⟨a,ys,rfl,g1,g2⟩:=rm h1;cases r1;obtain⟨ae,q1,q2,_⟩:=I.tuple g1;obtain⟨y,yr,rfl,g3,g4⟩:=g2.cons_inv;cases q1 with
   | cons q3 q4 =>
    obtain⟨o,e1,e2,n,e3⟩:=q2;refine⟨_::fs,KatTups.cons e1 e2 e3 rfl k1,by simp[k2],λv hv=>?_⟩
    rcases r_.mp hv with rfl | hv
    ·exact look y _ g3 q3
    ·exact k3 v hv
def SortOk(ds:List D):Prop:=ds.length < 64/\cmAll ds=true/\depA ds<=50/\(ds.all isInt=true\/ds.all fstI=true\/ds.all fstT=true)
theorem xy(hu:X.A.units+100 < PK){l:l_}{Q:VK}(I:Inv X aa U H s)(ha:IsA X.K H ds zs)(rv:Vals zs ae)(ok:SortOk ds)(gW:∀Q':List b_->d_->Prop,(∀h' tk,(∀b o,s.heap.get? b=some o->h'.get? b=some o)->s.heap.objs.size<=h'.objs.size->Q' ae { s with heap:=h',toks:=tk })->o_ (s_ X.prog X.w) X.A.in1 (Ux (.ref l)) Q' X.xe s)(k:∀l q,Pm ds.length q->permD q ds=sortD ds->H l=none->Q (.ref l) (upd H l (.lst (permV q zs)))):o_ (s_ X.prog X.w) X.A (call (.builtin "sorted") [.ref l]) (EP X aa U Q) X.xe s:=by
 obtain⟨eB,cm,dp,kd⟩:=ok;have l1:=ha.length;have l2:=rv.length;have n1:ae.length=ds.length:=by omega
 have l9:∀i j,i < ae.length->j < ae.length->cmB (ds.getD i .non) (ds.getD j .non)=true:=λi j hi hj=>by
  obtain⟨_,_,_,mi,_⟩:=at_k ha rv hi;obtain⟨_,_,_,mj,_⟩:=at_k ha rv hj;exact u_.mp (u_.mp cm _ mi) _ mj
 have aM:∀q h' tk D c,Pm ae.length q->Up (λi j=>dl (ds.getD i .non) (ds.getD j .non)) q ae.length->(∀b o,s.heap.get? b=some o->h'.get? b=some o)->s.heap.objs.size<=D->h'.get? D=some (RB "list" (byP ae q).toArray c)->EP X aa U Q (.ref D) { s with heap:=h',toks:=tk }:=λq h' tk D c hp up keep above here=>by
  rw[n1] at hp up
  have hv:Vals (permV q zs) (byP ae q):=by
   refine wY (by simp[permV,byP]) λi x u e1 e2=>?_
   obtain⟨j,f1,rfl⟩:=getMap e1;obtain⟨j',f2,rfl⟩:=getMap e2;rw[f1] at f2;cases f2
   have hj:j < ds.length:=by
    have h1:j∈q.toList:=K_ f1;have h2:=(QJ.mp hp).mem_iff.mp h1;simpa using h2
   obtain⟨x,_,e4,_,e5⟩:=at_k ha rv (k:=j) (by omega);rw[i_,e5];exact e4
  refine⟨.ref D,_,I.laid (t':=tk) keep above (o:=.lst (permV q zs)) ⟨?_,byP ae q,c,hv,here⟩,rfl,k D q hp (Lf hp up cm) (I.hok.fresh above)⟩;show(permV q zs).length<=x_;rw[permV,w_,O2,hp.size,Pf];omega
 have gX:∀(b:Bool) (P:D->Bool),(∀d,P d=true->∃f r,d=.tup (f::r)/\(b=true->isInt f=true))->ds.all P=true->∀h' tk i j C,(∀b o,s.heap.get? b=some o->h'.get? b=some o)->i < ae.length->j < ae.length->C (dl (ds.getD i .non) (ds.getD j .non)) { s with heap:=h',toks:=tk } →
   o_ (s_ X.prog X.w) X.A.in1.in1 (keyLt' (tuples' b) (ae.getD i b_.none) (ae.getD j b_.none)) C (λ_ _=>False) { s with heap:=h',toks:=tk }:=λb P hP all h' tk i j C keep hi hj hc=>by
  have I':Inv X aa U H { s with heap:=h',toks:=tk }:=I.kept (t':=tk) keep;obtain⟨x,a1,a2,a3,_⟩:=at_k ha rv hi;obtain⟨y,b1,b2,b3,_⟩:=at_k ha rv hj;have cc:=l9 i j hi hj;have dq:=sM a3;obtain⟨f1,r1,e1,g1⟩:=hP _ (u_.mp all _ a3);obtain⟨f2,r2,e2,g2⟩:=hP _ (u_.mp all _ b3);rw[e1] at a1 cc hc dq;rw[e2] at b1 cc hc;obtain⟨pa,xs,rfl,x1,x2⟩:=rm a1;obtain⟨pb,ys,rfl,y1,y2⟩:=rm b1;generalize ae.getD i b_.none=ui at a2;generalize ae.getD j b_.none=uj at b2;cases a2;cases b2;obtain⟨us,q1,q2,_⟩:=I'.tuple x1;obtain⟨vs,q3,q4,_⟩:=I'.tuple y1;obtain⟨oa,m1,m2,na,m3⟩:=q2;obtain⟨ob,m4,m5,nb,m6⟩:=q4;rw[uS] at hc;rw[cmB] at cc;rw[dep] at dq;refine kat_lt m1 m3 m4 m6 (BD I' (n:=50) (by show X.A.units+1+1+50 < PK;omega) _ _ xs ys _ _ 0 x2 y2 q1 q3 (by omega) cc ?_ (λzb _ d e rr qw z1 z2=>?_) hc)
  ·have:=x2.length;have:=y2.length;have:=q1.length;have:=q3.length;simp only[q_]
   congr 1
   apply propext
   constructor<;>intro _<;>omega
  ·cases z1;cases z2;exact⟨g1 zb,g2 zb⟩
 rcases kd with kd | kd | kd
 ·-- bC numbers
  have kt:∀k,k < ae.length->∃i t,ae.getD k b_.none=.int i t/\ds.getD k .non=.int i:=λk hk=>by
   obtain⟨x,a1,a2,a3,_⟩:=at_k ha rv hk;have:=u_.mp kd _ a3;cases e:ds.getD k .non<;>rw[e] at this a1<;>simp[isInt] at this
   rw[qZ a1] at a2;obtain⟨t,a2⟩:=a2;exact⟨_,t,a2,rfl⟩
  refine zx (κ:=oneType') (lt:=λi j=>dl (ds.getD i .non) (ds.getD j .non)) (by omega) (xB ds) gW (λh' tk Q' keep two q=>?_) (λh' tk i j C keep hi hj hc=>?_) aM
  ·refine kas_kind (T:=.type "int") two (λv hv=>?_) (by decide) (by decide) q;obtain⟨k,hk,rfl⟩:=QK hv;obtain⟨i,t,e,_⟩:=kt k hk;rw[i_,f_ hk] at e
   change ae[k]=_ at e
   rw[e];exact Vf.now
  ·obtain⟨a,t1,e1,f1⟩:=kt i hi;obtain⟨b,t2,e2,f2⟩:=kt j hj;rw[f1,f2,tm] at hc;rw[e1,e2];exact kat_lt_int hc
 ·-- tuples that begin with a bC number
  refine zx (κ:=tuples' true) (lt:=λi j=>dl (ds.getD i .non) (ds.getD j .non)) (by omega) (xB ds) gW (λh' tk Q' keep two q=>?_) (λh' tk i j C keep hi hj hc=>gX true fstI (λd hd=>?_) kd h' tk i j C keep hi hj hc) aM
  ·have I':Inv X aa U H { s with heap:=h',toks:=tk }:=I.kept (t':=tk) keep
   obtain⟨fs,k1,k2,k3⟩:=yV I' X.prog X.w fstI (.type "int") (λd hd=>by
    unfold fstI at hd;split at hd
    ·refine⟨_,_,rfl,λx u hx hr=>?_⟩;rw[qZ hx] at hr;obtain⟨t,rfl⟩:=hr;exact Vf.now
    ·cases hd) ds zs ae ha rv kd
   exact kat_kind k1 (by omega) k3 (by decide) q
  ·unfold fstI at hd;split at hd
   ·exact⟨_,_,rfl,λ_=>rfl⟩
   ·cases hd
 ·-- tuples that begin with a tuple
  refine zx (κ:=tuples' false) (lt:=λi j=>dl (ds.getD i .non) (ds.getD j .non)) (by omega) (xB ds) gW (λh' tk Q' keep two q=>?_) (λh' tk i j C keep hi hj hc=>gX false fstT (λd hd=>?_) kd h' tk i j C keep hi hj hc) aM
  ·have I':Inv X aa U H { s with heap:=h',toks:=tk }:=I.kept (t':=tk) keep
   obtain⟨fs,k1,k2,k3⟩:=yV I' X.prog X.w fstT (.type "tuple") (λd hd=>by
    unfold fstT at hd;split at hd
    ·refine⟨_,_,rfl,λx u hx hr=>?_⟩;obtain⟨a,ys,rfl,g1,g2⟩:=rm hx;cases hr;obtain⟨aY,q1,q2,_⟩:=I'.tuple g1;obtain⟨o,e1,e2,n,e3⟩:=q2;have look:Vf (s_ X.prog X.w) h' (Vs (.ref a)) o.cls:=(Vf.ld e1).andThen .now;rw[e2] at look;exact look
    ·cases hd) ds zs ae ha rv kd
   exact kat_kind k1 (by omega) k3 (by decide) q
  ·unfold fstT at hd;split at hd
   ·exact⟨_,_,rfl,λh=>by cases h⟩
   ·cases hd
theorem Fs(hu:X.A.units+100 < PK):CallR X (.builtin "sorted") (λxs H Q=>∃(p:l_) (zs:List V) (ds:List D),xs=[.ref p]/\SqL X.K H p zs/\IsA X.K H ds zs/\SortOk ds/\∀l q,Pm ds.length q->permD q ds=sortD ds->H l=none->Q (.ref l) (upd H l (.lst (permV q zs)))):=by
 intro aa s U H xs us Q I r h;obtain⟨p,zs,ds,rfl,hq,ha,ok,k⟩:=h;obtain⟨u,rfl,ru⟩:=vals1 r;cases ru;obtain⟨ae,rv,t,hz⟩:=I.list hq;have l1:=ha.length;have l2:=rv.length;have line:64<=x_:=by rw[Pf];decide
 refine xy hu I ha rv ok (λQ' q=>collect_list t.isList (q _ s.toks (λb o x=>?_) ?_) (by have:=ok.1;omega)) k
 ·exact(OK _ _ (O4 (OI (H_ x)))).trans (e_ _ x)
 ·rw[I_.size_update,size_push'];exact Uo _
end
section
variable{B:BB}{kr:Nat}
noncomputable def sortF(ds:List D):Option (List D):=match ds with
 | [.lst xs]=>if xs.length < 64/\cmAll xs=true/\depA xs<=50/\(xs.all isInt=true\/xs.all fstI=true\/xs.all fstT=true) then some (sortD xs) else none
 | _=>none
theorem IsA.perm{K:PySem.W.Frag}{q:Array Nat}(h:IsA K I ds zs)(hp:Pm ds.length q):IsA K I (permD q ds) (permV q zs):=by
 have low:∀j∈q.toList,j < ds.length:=λj hj=>by
  have:=(QJ.mp hp).mem_iff.mp hj;simpa using this
 unfold permD permV;clear hp;generalize q.toList=js at low
 induction js with
 | nil=>exact IsA.nil
 | cons j js ih =>
  rw[F_,F_];refine IsA.cons ?_ (ih λi hi=>low i (h_ _ hi));have hj:=low j j_;obtain⟨x,e1,e2⟩:=h.get (f_ hj);rw[i_,i_,e1,f_ hj];exact e2
theorem wc{p:Pos}{t:M (List D)}(hr:Room kr X.A)(hg:Gl X "sorted")(hm:X.mg "sorted"=none)(ha:AD X B [e] t)(he:g_ [e] X.env=(false,O1 e X.env)::g_ [] X.env:=by rfl)(aK:(Pa pos (g_ [] X.env)).any (·.1)=false:=by rfl):
  EO X B (.Call (.Name "sorted" p) [e] [] pos) (fn1 sortF t):=JF (Fs (hu100 hr)) (λds d e B G I H U Y xs Q r h k=>by
 unfold sortF at e;split at e
 ·obtain⟨ok,rfl⟩:=rJ e;obtain⟨x,rfl,hx⟩:=h.one;obtain⟨q,zs,rfl,h3,h4⟩:=rl hx;refine⟨q,zs,_,rfl,(Same.rdK r.iH h3).sq,h4.mono r.iH,ok,λl q' hp es hl=>?_⟩;refine k.new r hl ?_;rw[←es];exact h4.perm hp
 ·cases e) hg hm boot_sorted ha (by decide) (by decide) he aK
end
end DL
namespace DL
open PySem PySem.SetTable
def Ris(xs:Array Nat):Prop:=∀i j (hi:i < xs.size) (hj:j < xs.size),i < j->xs[i] < xs[j]
theorem zw{xs:Array Nat}(R:Ris xs)(j:Nat):∀(f lo hi:Nat),hi<=xs.size->lo<=hi->hi - lo<=f->(∀i (h:i < xs.size),i < lo->xs[i] < j)->(∀i (h:i < xs.size),hi<=i->j<=xs[i]) →
  (Rv.go xs j f lo hi<=xs.size/\(∀i (h:i < xs.size),i < Rv.go xs j f lo hi->xs[i] < j)/\∀i (h:i < xs.size),Rv.go xs j f lo hi<=i->j<=xs[i])
 | 0,lo,hi,h1,h2,h3,h4,h5=>by
  rw[Rv.go];exact⟨by omega,h4,λi h x=>h5 i h (by omega)⟩
 | f+1,lo,hi,h1,h2,h3,h4,h5=>by
  rw[Rv.go];split
  ·have hm:(lo+hi) / 2 < xs.size:=by omega
   have e:xs.getD ((lo+hi) / 2) j=xs[(lo+hi) / 2]:=by rw[VB,dif_pos hm];rfl
   dsimp only;rw[e];split
   ·rename_i lt;refine zw R j f ((lo+hi) / 2+1) hi h1 (by omega) (by omega) (λi h x=>?_) h5;by_cases z:i=(lo+hi) / 2
    ·subst z;exact lt
    ·exact Nat.lt_trans (R i _ h hm (by omega)) lt
   ·rename_i ma;refine zw R j f lo ((lo+hi) / 2) (by omega) (by omega) (by omega) h4 λi h x=>?_
    by_cases z:i=(lo+hi) / 2
    ·subst z;omega
    ·have:=R _ i hm h (by omega);omega
  ·exact⟨by omega,h4,λi h x=>h5 i h (by omega)⟩
theorem v5{xs:Array Nat}(R:Ris xs)(j:Nat):Rv xs j<=xs.size/\(∀i (h:i < xs.size),i < Rv xs j->xs[i] < j)/\∀i (h:i < xs.size),Rv xs j<=i->j<=xs[i]:=
 zw R j xs.size 0 xs.size (v_ _) (O5 _) (v_ _) (λi h x=>by omega) λi h x=>by omega
theorem HM{xs:Array Nat}(R:Ris xs)(h:i < xs.size):Rv xs xs[i]=i:=by
 obtain⟨b1,b2,b3⟩:=v5 R xs[i]
 rcases QV (Rv xs xs[i]) i with l | l | l
 ·have:=b3 (Rv xs xs[i]) (by omega) (v_ _);have:=R _ i (by omega) h l;omega
 ·exact l
 ·have:=b2 i h l;omega
section
variable {t:Pl}
theorem DV(R:Ris t.place)(h:i < t.place.size):t.slot t.place[i]=.live i:=by
 unfold slot;dsimp only;rw[HM R h,m_ h];simp
theorem LK(R:Ris t.place)(hd:t.dummies=#[])(h:j∉t.place):t.slot j=.empty:=by
 unfold slot;dsimp only
 have e:¬(t.place[Rv t.place j]? == some j)=true:=by
  intro z;have z:t.place[Rv t.place j]?=some j:=by simpa using z
  exact h (Rw z)
 rw[if_neg e];unfold has;rw[hd];simp
noncomputable def hd(m i p:Nat):Probe:=⟨i,Qz m i - i,i,p,none⟩
noncomputable def adv(m:Nat)(p:Probe):Probe:=match p with
 | ⟨j,k+1,i,q,d⟩=>⟨j+1,k,i,q,d⟩
 | ⟨_,0,i,q,d⟩=>⟨(Vy m i q).1,Qz m (Vy m i q).1 - (Vy m i q).1,(Vy m i q).1,(Vy m i q).2,d⟩
noncomputable def pth(m:Nat)(h:Int):Nat->Probe
 | 0=>hd m (TQ h % (m+1)) (TQ h)
 | k+1=>adv m (pth m h k)
theorem B3(h:Int)(k:Nat):t.advance (pth t.mask h k)=pth t.mask h (k+1):=by
 rw[pth]
 rcases pth t.mask h k with⟨j,more,i,q,d⟩
 cases more<;>rfl
theorem CI(m:Nat)(h:Int):∀k,(pth m h k).dummy=none
 | 0=>rfl
 | k+1=>by
  have ih:=CI m h k;rw[pth]
  revert ih
  rcases pth m h k with⟨j,more,i,q,d⟩
  intro ih;cases more<;>exact ih
noncomputable def sl(m:Nat)(h:Int)(k:Nat):Nat:=(pth m h k).j
theorem yZ{m:Nat}{h:Int}{c i p:Nat}(e:pth m h c=hd m i p):∀d,d<=Qz m i - i->pth m h (c+d)=⟨i+d,Qz m i - i - d,i,p,none⟩
 | 0,_=>e
 | d+1,cg=>by
  have ih:=yZ e d (by omega);rw[←Nat.add_assoc,pth,ih];obtain⟨k,hk⟩:∃k,Qz m i - i - d=k+1:=⟨Qz m i - i - d - 1,by omega⟩;rw[hk,show Qz m i - i - (d+1)=k by omega];rfl
theorem DH{c p:Nat}(e:pth m h c=hd m i p):pth m h (c+(Qz m i - i)+1)=hd m (Vy m i p).1 (Vy m i p).2:=by
 have:=yZ e (Qz m i - i) (v_ _);rw[pth,this,Nat.sub_self];rfl
theorem Er(m i:Nat):Qz m i - i<=9:=by
 unfold Qz;split<;>omega
noncomputable def lp(m:Nat):Nat->Nat->Nat->Nat×Nat
 | 0,i,p=>(i,p)
 | n+1,i,p=>lp m n (Vy m i p).1 (Vy m i p).2
theorem Dh{m:Nat}{h:Int}:∀(n c i p:Nat),pth m h c=hd m i p->∃c',c<=c'/\c'<=c+10*n/\pth m h c'=hd m (lp m n i p).1 (lp m n i p).2
 | 0,c,i,p,e=>⟨c,v_ _,by omega,e⟩
 | n+1,c,i,p,e=>by
  obtain⟨c',h1,h2,h3⟩:=Dh n _ _ _ (DH e);have:=Er m i;exact⟨c',by omega,by omega,h3⟩
theorem Ed(m:Nat):∀(a b i p:Nat),lp m (a+b) i p=lp m b (lp m a i p).1 (lp m a i p).2
 | 0,b,i,p=>by rw[Ve];rfl
 | a+1,b,i,p=>by rw[Nat.succ_add,lp,Ed m a b];rfl
theorem BE(m:Nat):∀(n i p:Nat),(lp m n i p).2=p / 32 ^ n
 | 0,i,p=>by simp[lp]
 | n+1,i,p=>by
  rw[lp,BE m n];show(p / 32) / 32 ^ n=_;rw[Nat.div_div_eq_div_mul,Nat.pow_succ,Nat.mul_comm]
theorem BH{m:Nat}:∀(n i p:Nat),i < m+1->(lp m n i p).1 < m+1
 | 0,i,p,h=>h
 | n+1,i,p,h=>by
  rw[lp];exact BH n _ _ (Vz _ (Vg _))
theorem EN(h:Int):TQ h < 2 ^ 64:=by
 unfold TQ;have h1:=Rm h (b:=2 ^ 64) (by decide);have h2:=Sv h (b:=2 ^ 64) (by decide);omega
def Round(m:Nat):Prop:=∀i,i < m+1->∀j,j < m+1->∃n,n < m+1/\(lp m n i 0).1=j
theorem round7:Round 7:=by
 have:∀i,i < 8->∀j,j < 8->∃n,n < 8/\(lp 7 n i 0).1=j:=by decide +kernel
 exact this
theorem round31:Round 31:=by
 have:∀i,i < 32->∀j,j < 32->∃n,n < 32/\(lp 31 n i 0).1=j:=by decide +kernel
 exact this
theorem DB(R:Round m)(h:Int)(hj:j < m+1):∃n,n < m+14/\(lp m n (TQ h % (m+1)) (TQ h)).1=j:=by
 have p0:(lp m 13 (TQ h % (m+1)) (TQ h)).2=0:=by
  rw[BE];refine Nat.div_eq_of_lt (L_ (EN h) ?_);decide
 have l0:=BH (m:=m) 13 (TQ h % (m+1)) (TQ h) (Vz _ (Vg _));obtain⟨n,h1,h2⟩:=R _ l0 j hj;refine⟨13+n,by omega,?_⟩;rw[Ed,p0];exact h2
theorem Gy(R:Round m)(h:Int)(hj:j < m+1):∃k,k < 10*(m+14)/\sl m h k=j:=by
 obtain⟨n,h1,h2⟩:=DB R h hj;obtain⟨c,h3,h4,h5⟩:=Dh (m:=m) (h:=h) n 0 _ _ rfl;refine⟨c,by omega,?_⟩;unfold sl;rw[h5];exact h2
end
noncomputable def hA(es:Array (Int×b_))(i:Nat):Int:=(es[i]?.map (·.1)).getD 0
theorem CK(h:i < es.size):hA es i=es[i].1:=by
 unfold hA;rw[m_ h];rfl
structure TabOk(t:Pl)(es:Array (Int×b_)):Prop where
 nd:t.dummies=#[]
 ris:Ris t.place
 sz:t.place.size=es.size
 low:∀i (h:i < t.place.size),t.place[i]<=t.mask
 few:t.place.size<=18/\(t.mask=31\/(t.mask=7/\t.place.size<=4))
 pl:t.plain=true
 reach:∀i (h:i < es.size) (h':i < t.place.size),∃k,sl t.mask es[i].1 k=t.place[i]/\∀k',k' < k->sl t.mask es[i].1 k'∈t.place
theorem yi:∀(n:Nat) (l:List Nat),(∀j,j < n->j∈l)->n<=l.length
 | 0,_,_=>O5 _
 | n+1,l,h=>by
  have:=yi n (l.erase n) λj hj=>(List.mem_erase_of_ne (by omega)).mpr (h j (by omega))
  rw[SL (h n (by omega))] at this;have:0 < l.length:=List.length_pos_of_mem (h n (by omega));omega
section
variable{t:Pl}
theorem TabOk.round(T:TabOk t es):Round t.mask:=by
 rcases T.few.2 with h | h
 ·rw[h];exact round31
 ·rw[h.1];exact round7
theorem TabOk.free(T:TabOk t es)(h:Int):∃K,K < 10*(t.mask+14)/\sl t.mask h K∉t.place/\∀k,k < K->sl t.mask h k∈t.place:=by
 have ex:∃k,k < 10*(t.mask+14)/\sl t.mask h k∉t.place:=by
  apply RP
  intro no
  have:t.mask+1<=t.place.toList.length:=yi (t.mask+1) _ λj hj=>by
   obtain⟨k,k1,k2⟩:=Gy T.round h hj
   apply RP
   intro nj;exact no ⟨k,k1,by rw[k2];simpa using nj⟩
  rw[O2] at this;have:=T.few;omega
 obtain⟨k,k1,k2⟩:=ex
 induction k using Nat.strongRecOn with
 | ind k ih =>
  by_cases z:∃k',k' < k/\sl t.mask h k'∉t.place
  ·obtain⟨k',a,b⟩:=z;exact ih k' a (by omega) b
  ·refine⟨k,k1,k2,λk' bp=>?_⟩
   apply RP
   intro nj;exact z ⟨k',bp,nj⟩
theorem Ce(h:i<=m):i+(Qz m i - i)<=m:=by
 unfold Qz;split<;>omega
theorem vP(m:Nat)(h:Int):∀k,(pth m h k).j+(pth m h k).more<=m/\(pth m h k).i<=m
 | 0=>by
  have:TQ h % (m+1)<=m:=Uy (Vz _ (Vg _));exact⟨Ce this,this⟩
 | k+1=>by
  have ih:=vP m h k;rw[pth]
  revert ih
  rcases pth m h k with⟨j,more,i,q,d⟩
  intro ih;cases more with
  | zero =>
   have:(Vy m i q).1<=m:=Uy (Vz _ (Vg _));exact⟨Ce this,this⟩
  | succ more =>
   dsimp only at ih;exact⟨by show j+1+more<=m;omega,ih.2⟩
theorem FF{xs:Array Nat}(h:j∈xs):∃i,∃h:i < xs.size,xs[i]=j:=by
 obtain⟨i,hi,e⟩:=RM h;exact⟨i,hi,e⟩
theorem Cr(T:TabOk t es){h:Int}{K:Nat}(hK:sl t.mask h K∉t.place)(hk:∀k,k < K->sl t.mask h k∈t.place):∀(f k:Nat),k<=K->K - k < f →
  (∃k' i,∃hi:i < es.size,∃ba:i < t.place.size,k<=k'/\k' < K/\t.place[i]=sl t.mask h k'/\es[i].1=h/\Sh t (hA es) h f (pth t.mask h k)=some (.candidate (sl t.mask h k') i (pth t.mask h (k'+1))) ∧
   ∀br,k<=br->br < k'->∀j (hj:j < es.size) (bq:j < t.place.size),t.place[j]=sl t.mask h br->es[j].1≠h) ∨
  (Sh t (hA es) h f (pth t.mask h k)=some (.empty (sl t.mask h K) none)/\∀br,k<=br->br < K->∀j (hj:j < es.size) (bq:j < t.place.size),t.place[j]=sl t.mask h br->es[j].1≠h)
 | 0,k,h1,h2=>by omega
 | f+1,k,h1,h2=>by
  by_cases z:k=K
  ·subst z;right;refine⟨?_,λbr a b=>by omega⟩;rw[Sh,show(pth t.mask h k).j=sl t.mask h k from rfl,LK T.ris T.nd hK,CI]
  ·obtain⟨i,hi,e⟩:=FF (hk k (by omega));have bX:i < es.size:=by rw[←T.sz];exact hi
   have st:t.slot (pth t.mask h k).j=.live i:=by
    rw[show(pth t.mask h k).j=t.place[i] from e.symm];exact DV T.ris hi
   have only:∀j (bq:j < t.place.size),t.place[j]=sl t.mask h k->j=i:=λj bq ej=>by
    rcases QV j i with l | l | l
    ·have:=T.ris j i bq hi l;omega
    ·exact l
    ·have:=T.ris i j hi bq l;omega
   by_cases same:es[i].1=h
   ·left;refine⟨k,i,bX,hi,v_ _,by omega,e,same,?_,λbr a b=>by omega⟩;rw[Sh,st];dsimp only;rw[CK bX,same,if_pos (by simp),B3];rfl
   ·have go:Sh t (hA es) h (f+1) (pth t.mask h k)=Sh t (hA es) h f (pth t.mask h (k+1)):=by
     rw[Sh,st];dsimp only;rw[CK bX,if_neg (by simpa using same),B3]
    rw[go]
    have here:∀j (hj:j < es.size) (bq:j < t.place.size),t.place[j]=sl t.mask h k->es[j].1≠h:=λj hj bq ej=>by
     have:=only j bq ej;subst this;exact same
    rcases Cr T hK hk f (k+1) (by omega) (by omega) with⟨k',i',a1,a2,a3,a4,a5,a6,a7,a8⟩ | ⟨a1,a2⟩
    ·refine .inl ⟨k',i',a1,a2,by omega,a4,a5,a6,a7,λbr b1 b2 j hj bq ej=>?_⟩;by_cases z':br=k
     ·subst z';exact here j hj bq ej
     ·exact a8 br (by omega) b2 j hj bq ej
    ·refine .inr ⟨a1,λbr b1 b2 j hj bq ej=>?_⟩;by_cases z':br=k
     ·subst z';exact here j hj bq ej
     ·exact a2 br (by omega) b2 j hj bq ej
theorem uO{α:Type}{xs:Array α}{p:Nat}(hp:p<=xs.size)(x:α)(i:Nat):(Pn xs p x)[i]?=if i < p then xs[i]? else if i=p then some x else xs[i - 1]?:=by
 unfold Pn;rw[Array.getElem?_append,Array.size_push,RY];have e:min p xs.size - 0=p:=by omega
 rw[e];by_cases h1:i < p
 ·rw[if_pos (by omega),if_pos h1,TR,RY,e,if_neg (by omega),S6,if_pos (by omega),Ve]
 ·rw[if_neg h1];by_cases h2:i=p
  ·rw[if_pos (by omega),if_pos h2,TR,RY,e,if_pos h2]
  ·rw[if_neg (by omega),if_neg h2,S6];by_cases h3:i - (p+1) < min xs.size xs.size - p
   ·rw[if_pos h3]
    congr 1
    omega
   ·rw[if_neg h3]
    symm
    rw[PL];omega
theorem yR{α:Type}{xs:Array α}{p:Nat}(hp:p<=xs.size)(x:α):(Pn xs p x).size=xs.size+1:=by
 unfold Pn;rw[Array.size_append,Array.size_push,RY,RY];omega
theorem Ds{α:Type}{xs:Array α}{p:Nat}(hp:p<=xs.size)(x y:α):y∈Pn xs p x↔y=x\/y∈xs:=by
 constructor
 ·intro h;obtain⟨i,e⟩:=QQ.mp h;rw[uO hp] at e;split at e
  ·exact .inr (Rw e)
  ·split at e
   ·cases e;exact .inl rfl
   ·exact .inr (Rw e)
 ·rintro(rfl | h)
  ·refine QQ.mpr ⟨p,?_⟩;rw[uO hp,if_neg (by omega),if_pos rfl]
  ·obtain⟨i,e⟩:=QQ.mp h;by_cases z:i < p
   ·exact QQ.mpr ⟨i,by rw[uO hp,if_pos z];exact e⟩
   ·exact QQ.mpr ⟨i+1,by rw[uO hp,if_neg (by omega),if_neg (by omega)];exact e⟩
theorem Li(T:TabOk t es){x:b_}{K:Nat}(hK:sl t.mask h K∉t.place)(hk:∀k,k < K->sl t.mask h k∈t.place):
  let q:=t.put (sl t.mask h K)
  q.1.dummies=#[]/\Ris q.1.place/\q.1.place.size=(Pn es q.2 (h,x)).size/\(∀i (h:i < q.1.place.size),q.1.place[i]<=q.1.mask)/\q.1.mask=t.mask/\q.1.plain=t.plain/\q.1.led=t.led/\q.1.moves=t.moves/\q.1.place.size=t.place.size+1/\q.2<=es.size ∧
   (∀i (h1:i < (Pn es q.2 (h,x)).size) (h2:i < q.1.place.size),∃k,sl q.1.mask (Pn es q.2 (h,x))[i].1 k=q.1.place[i]/\∀k',k' < k->sl q.1.mask (Pn es q.2 (h,x))[i].1 k'∈q.1.place):=by
 intro q;obtain⟨b1,b2,b3⟩:=v5 T.ris (sl t.mask h K);have q2:q.2=Rv t.place (sl t.mask h K):=rfl;have q1:q.1.place=Pn t.place (Rv t.place (sl t.mask h K)) (sl t.mask h K):=rfl;have hp:q.2<=es.size:=by rw[q2,←T.sz];exact b1
 have nh:has t.dummies (sl t.mask h K)=false:=by rw[T.nd];rfl
 have qd:q.1.dummies=#[]:=by
  show(if has t.dummies (sl t.mask h K)=true then _ else t.dummies)=_;rw[nh,if_neg k_];exact T.nd
 have get:∀i (h2:i < q.1.place.size),(i < q.2/\∃hi:i < t.place.size,q.1.place[i]=t.place[i])\/(i=q.2/\q.1.place[i]=sl t.mask h K)\/(q.2 < i/\∃hi:i - 1 < t.place.size,q.1.place[i]=t.place[i - 1]):=λi h2=>by
  have e:=uO (x:=sl t.mask h K) b1 i;rw[←q1,←q2,m_ h2] at e;by_cases z1:i < q.2
  ·rw[if_pos z1] at e;obtain⟨hi,e⟩:=N_.mp e.symm;exact .inl ⟨z1,hi,e.symm⟩
  ·rw[if_neg z1] at e;by_cases z2:i=q.2
   ·rw[if_pos z2] at e;exact .inr (.inl ⟨z2,OL e⟩)
   ·rw[if_neg z2] at e;obtain⟨hi,e⟩:=N_.mp e.symm;exact .inr (.inr ⟨by omega,hi,e.symm⟩)
 have sz:q.1.place.size=t.place.size+1:=by rw[q1];exact yR b1 _
 have ne:∀i (hi:i < t.place.size),t.place[i]≠sl t.mask h K:=λi hi z=>hK (by rw[←z];exact QE hi)
 refine⟨qd,?_,by rw[sz,yR hp,T.sz],?_,rfl,rfl,rfl,rfl,sz,hp,?_⟩
 ·intro i j hi hj lt
  rcases get i hi with⟨a1,a2,a3⟩ | ⟨a1,a3⟩ | ⟨a1,a2,a3⟩<;>rcases get j hj with⟨c1,c2,c3⟩ | ⟨c1,c3⟩ | ⟨c1,c2,c3⟩
  ·rw[a3,c3];exact T.ris i j a2 c2 lt
  ·rw[a3,c3];exact b2 i a2 (by omega)
  ·rw[a3,c3];have:=b2 i a2 (by omega);have:=b3 (j - 1) c2 (by omega);omega
  ·omega
  ·omega
  ·rw[a3,c3];have:=b3 (j - 1) c2 (by omega);have:=ne (j - 1) c2;omega
  ·omega
  ·omega
  ·rw[a3,c3];exact T.ris (i - 1) (j - 1) a2 c2 (by omega)
 ·intro i hi;show _<=t.mask
  rcases get i hi with⟨a1,a2,a3⟩ | ⟨a1,a3⟩ | ⟨a1,a2,a3⟩
  ·rw[a3];exact T.low _ _
  ·rw[a3];have:=(vP t.mask h K).1;unfold sl;omega
  ·rw[a3];exact T.low _ _
 ·intro i h1 h2;have dy:∀y,y∈t.place->y∈q.1.place:=λy hy=>by rw[q1];exact(Ds b1 _ _).mpr (.inr hy)
  have e:=uO (x:=(h,x)) hp i;rw[m_ h1] at e;show ∃k,sl t.mask _ k=_/\∀k',k' < k->sl t.mask _ k'∈_
  rcases get i h2 with⟨a1,a2,a3⟩ | ⟨a1,a3⟩ | ⟨a1,a2,a3⟩
  ·rw[if_pos a1] at e;obtain⟨hi,e⟩:=N_.mp e.symm;obtain⟨k,k1,k2⟩:=T.reach i hi a2;rw[←e,a3];exact⟨k,k1,λk' bp=>dy _ (k2 k' bp)⟩
  ·rw[if_neg (by omega),if_pos a1] at e;rw[OL e,a3];exact⟨K,rfl,λk' bp=>dy _ (hk k' bp)⟩
  ·rw[if_neg (by omega),if_neg (by omega)] at e;obtain⟨hi,e⟩:=N_.mp e.symm;obtain⟨k,k1,k2⟩:=T.reach (i - 1) hi a2;rw[←e,a3];exact⟨k,k1,λk' bp=>dy _ (k2 k' bp)⟩
end
noncomputable def tak(o:Array (Option Nat))(j:Nat):Bool:=(o.getD j (some 0)).isSome
theorem AX{m:Nat}{o:Array (Option Nat)}{h:Int}:∀(f c i p:Nat),pth m h c=hd m i p →
  (∃k,c<=k/\RF m o f i p=some (sl m h k)/\tak o (sl m h k)=false/\∀k',c<=k'->k' < k->tak o (sl m h k')=true)\/(∀n,n < f->tak o (lp m n i p).1=true)
 | 0,c,i,p,e=>.inr λn h=>by omega
 | f+1,c,i,p,e=>by
  have run:=λd cg=>yZ e d cg
  have aU:∀d,d<=Qz m i - i->sl m h (c+d)=i+d:=λd cg=>by unfold sl;rw[run d cg]
  have up:i<=Qz m i:=by unfold Qz;split<;>omega
  rw[RF];cases hf:(Pk (Qz m i+1 - i)).find? λk=>(o.getD (i+k) (some 0)).isNone with
  | some d =>
   obtain⟨d1,d2,d3⟩:=List.find?_range_eq_some.mp hf;rw[PF] at d2;left;refine⟨c+d,by omega,?_,?_,λk' a b=>?_⟩
   ·dsimp only;rw[aU d (by omega)]
   ·rw[aU d (by omega)];unfold tak;cases x:o.getD (i+d) (some 0) with
    | none=>rfl
    | some v=>rw[x] at d1;cases d1
   ·obtain⟨d',rfl⟩:∃d',k'=c+d':=⟨k' - c,by omega⟩;rw[aU d' (by omega)];have:=d3 d' (by omega);unfold tak;cases x:o.getD (i+d') (some 0) with
    | none=>rw[x] at this;cases this
    | some v=>rfl
  | none =>
   have no:=List.find?_range_eq_none.mp hf
   have all:∀k',c<=k'->k' < c+(Qz m i - i)+1->tak o (sl m h k')=true:=λk' a b=>by
    obtain⟨d',rfl⟩:∃d',k'=c+d':=⟨k' - c,by omega⟩;rw[aU d' (by omega)];have:=no d' (by omega);unfold tak;cases x:o.getD (i+d') (some 0) with
    | none=>rw[x] at this;cases this
    | some v=>rfl
   dsimp only
   rcases AX (o:=o) f _ _ _ (DH e) with⟨k,k1,k2,k3,k4⟩ | ak
   ·left;refine⟨k,by omega,k2,k3,λk' a b=>?_⟩;by_cases z:k' < c+(Qz m i - i)+1
    ·exact all k' a z
    ·exact k4 k' (by omega) b
   ·right;intro n hn;cases n with
    | zero =>
     have:=all c (v_ _) (by omega);rw[←Nat.add_zero c,aU 0 (by omega)] at this;exact this
    | succ n =>
     rw[lp];exact ak n (by omega)
theorem wC:∀(k:Nat) (l:List Nat),l.Nodup->(∀x∈l,x < k)->l.length<=k
 | 0,l,_,h=>by
  cases l with
  | nil=>exact v_ _
  | cons x l=>exact absurd (h x j_) (Tw _)
 | k+1,l,nd,h=>by
  by_cases z:k∈l
  ·have:=wC k (l.erase k) (nd.erase k) λx hx=>by
    have h1:=h x (List.mem_of_mem_erase hx)
    have h2:x≠k:=λe=>by
     subst e;exact(Vh.not_mem_erase nd) hx
    omega
   rw[SL z] at this;omega
  ·have:=wC k l nd λx hx=>by
    have h1:=h x hx;have h2:x≠k:=λe=>z (e▸hx)
    omega
   omega
structure Laid(m:Nat)(hs:List Int)(o:Array (Option Nat))(k:Nat):Prop where
 sz:o.size=m+1
 old:∀(j v:Nat),o[j]?=some (some v)->v < k
 one:∀(j j' v:Nat),o[j]?=some (some v)->o[j']?=some (some v)->j=j'
 way:∀(v:Nat),v < k->∃(j c:Nat),o[j]?=some (some v)/\sl m (hs.getD v 0) c=j/\∀c',c' < c->tak o (sl m (hs.getD v 0) c')=true
theorem Laid.room{hs:List Int}{o:Array (Option Nat)}(L:Laid m hs o k)(hk:k<=m):∃j,j < m+1/\tak o j=false:=by
 apply RP
 intro no
 have all:∀j,j < m+1->∃v,o[j]?=some (some v):=λj hj=>by
  have t:tak o j=true:=by
   cases x:tak o j with
   | true=>rfl
   | false=>exact absurd ⟨j,hj,x⟩ no
  unfold tak at t;rw[VB,dif_pos (by rw[L.sz];exact hj)] at t;rw[m_ (by rw[L.sz];exact hj)];cases x:o[j]'(by rw[L.sz];exact hj) with
  | none=>simp[x] at t
  | some v=>exact⟨v,rfl⟩
 have nd:((Pk (m+1)).map λj=>((o[j]?).bind id).getD 0).Nodup:=by
  unfold Vh;rw[Sw];refine imp_of_mem ?_ List.nodup_range;intro a b ha hb ne e;obtain⟨v,hv⟩:=all a (PF.mp ha);obtain⟨v',bY⟩:=all b (PF.mp hb);rw[hv,bY] at e;have e:v=v':=e;subst e;exact ne (L.one a b v hv bY)
 have:=wC k _ nd λx hx=>by
  obtain⟨j,hj,rfl⟩:=z_.mp hx;obtain⟨v,hv⟩:=all j (PF.mp hj);rw[hv];exact L.old j v hv
 rw[w_,Rf] at this;omega
theorem Laid.step(R:Round m){hs:List Int}{o:Array (Option Nat)}(L:Laid m hs o k)(hk:k<=m):∃j,RF m o (Vi m) (TQ (hs.getD k 0) % (m+1)) (TQ (hs.getD k 0))=some j/\Laid m hs (o.setIfInBounds j (some k)) (k+1):=by
 rcases AX (m:=m) (o:=o) (h:=hs.getD k 0) (Vi m) 0 _ _ rfl with⟨K,_,k2,k3,k4⟩ | full
 ·refine⟨_,k2,?_⟩
  have hj:sl m (hs.getD k 0) K < o.size:=by
   rw[L.sz];have:=(vP m (hs.getD k 0) K).1;unfold sl;omega
  have free:o[sl m (hs.getD k 0) K]?=some none:=by
   unfold tak at k3;rw[P4,m_ hj] at k3;rw[m_ hj];cases x:o[sl m (hs.getD k 0) K] with
   | none=>rfl
   | some v=>rw[x] at k3;cases k3
  have get:∀i,(o.setIfInBounds (sl m (hs.getD k 0) K) (some k))[i]?=if sl m (hs.getD k 0) K=i then some (some k) else o[i]?:=λi=>by
   rw[Array.getElem?_setIfInBounds];split
   ·rename_i e;subst e;simp[hj]
   ·rfl
  have more:∀i,tak o i=true->tak (o.setIfInBounds (sl m (hs.getD k 0) K) (some k)) i=true:=λi hi=>by
   unfold tak at hi ⊢;rw[P4] at hi ⊢;rw[get];split
   ·rfl
   ·exact hi
  refine⟨by rw[Array.size_setIfInBounds];exact L.sz,λj v e=>?_,λj j' v e e'=>?_,λv hv=>?_⟩
  ·rw[get] at e;split at e
   ·cases e;omega
   ·have:=L.old j v e;omega
  ·rw[get] at e e';split at e
   ·cases e;split at e'
    ·omega
    ·have:=L.old j' k e';omega
   ·split at e'
    ·cases e';have:=L.old j k e;omega
    ·exact L.one j j' v e e'
  ·by_cases z:v=k
   ·subst z;exact⟨_,K,by rw[get,if_pos rfl],rfl,λc' aJ=>more _ (k4 c' (O5 _) aJ)⟩
   ·obtain⟨j,c,e1,e2,e3⟩:=L.way v (by omega);refine⟨j,c,?_,e2,λc' aJ=>more _ (e3 c' aJ)⟩;rw[get,if_neg ?_]
    ·exact e1
    ·intro e;subst e;rw[free] at e1;cases e1
 ·obtain⟨j,hj,tj⟩:=L.room hk;obtain⟨n,n1,n2⟩:=DB R (hs.getD k 0) hj;have:=full n (by unfold Vi;omega);rw[n2,tj] at this;cases this
theorem Ll(R:Round m)(hs:List Int)(hm:hs.length<=m):∃o,layClean m hs.toArray=some o/\Laid m hs o hs.length:=by
 unfold layClean;rw[←Array.foldl_toList]
 have key:∀(l pre:List Int) (o:Array (Option Nat)),hs=pre++l->Laid m hs o pre.length->∃o',List.foldl (λah h=>do
   let (owner,k) ←ah
   let j ←RF m owner (Vi m) (TQ h % (m+1)) (TQ h)
   pure (owner.setIfInBounds j (some k),k+1)) (some (o,pre.length)) l=some (o',hs.length)/\Laid m hs o' hs.length:=by
  intro l
  induction l with
  | nil =>
   intro pre o e L;rw[PY] at e;subst e;exact⟨o,rfl,L⟩
  | cons h l ih =>
   intro pre o e L;have gk:hs.getD pre.length 0=h:=by rw[e,i_];simp
   have lk:pre.length<=m:=by
    have:=congrArg length e;simp at this;omega
   obtain⟨j,j1,j2⟩:=L.step R lk;rw[gk] at j1;obtain⟨o',h1,h2⟩:=ih (pre++[h]) (o.setIfInBounds j (some pre.length)) (by rw[e];simp) (by simpa using j2);refine⟨o',?_,h2⟩;rw[Uh,←h1]
   congr 1
   show(RF m o (Vi m) (TQ h % (m+1)) (TQ h)).bind _=_;rw[j1];simp
 have aV:∀(j v:Nat),(Array.replicate (m+1) (none:Option Nat))[j]?=some (some v)->False:=λj v e=>by
  rw[Array.getElem?_replicate] at e;split at e
  ·cases e
  ·cases e
 obtain⟨o',h1,h2⟩:=key hs [] (Array.replicate (m+1) none) rfl ⟨by simp,λj v e=>(aV j v e).elim,λj j' v e=>(aV j v e).elim,λv hv=>absurd hv (Tw _)⟩
 exact⟨o',by
  have:=congrArg (Option.map (·.1)) h1
  exact this,h2⟩
theorem Jx(few:es.size<=18)(finger moves:Nat)(led:Bool):∃t bH,laid 31 finger moves led true (es.map (·.1))=some (t,bH)/\(bH.filterMap (es[·]?)).size=es.size/\TabOk t (bH.filterMap (es[·]?))/\t.mask=31/\t.led=led ∧
  (∀x,x∈bH.filterMap (es[·]?)↔x∈es):=by
 obtain⟨o,h1,L⟩:=Ll round31 (es.map (·.1)).toList (by simp;omega);rw[Array.toArray_toList] at h1;have nl:(es.map (·.1)).toList.length=es.size:=by simp
 rw[nl] at L;obtain⟨live,dI⟩:∃live:List (Nat×Nat),live=(Pk 32).filterMap λj=>(o.getD j none).map (j,·):=⟨_,rfl⟩
 have mem:∀j v,(j,v)∈live↔o[j]?=some (some v):=λj v=>by
  rw[dI,R9];constructor
  ·rintro⟨a,ha,e⟩;rw[P4] at e;cases x:o[a]? with
   | none=>rw[x] at e;cases e
   | some w =>
    rw[x] at e;cases w with
    | none=>cases e
    | some w=>cases e;exact x
  ·intro e;have:=(N_.mp e).1;refine⟨j,PF.mpr (by rw[L.sz] at this;exact this),?_⟩;rw[P4,e];rfl
 have ris:live.Pairwise λa b=>a.1 < b.1:=by
  rw[dI,List.pairwise_filterMap];refine T_.imp ?_ List.pairwise_lt_range;intro a b lt x hx y hy;cases e:o.getD a none with
  | none=>rw[e] at hx;cases hx
  | some v =>
   rw[e] at hx;cases hx;cases e':o.getD b none with
   | none=>rw[e'] at hy;cases hy
   | some v'=>rw[e'] at hy;cases hy;exact lt
 have md:(live.map (·.2)).Nodup:=by
  unfold Vh;rw[Sw];refine imp_of_mem ?_ ris;intro a b ha hb lt e;have h1:=(mem a.1 a.2).mp ha;have h2:=(mem b.1 b.2).mp hb;rw[e] at h1;have:=L.one _ _ _ h1 h2;omega
 have lo:live.length=es.size:=by
  refine Nat.le_antisymm ?_ ?_
  ·have:=wC es.size (live.map (·.2)) md λx hx=>by
    obtain⟨q,hq,rfl⟩:=z_.mp hx;exact L.old q.1 q.2 ((mem _ _).mp hq)
   simpa using this
  ·have:=yi es.size (live.map (·.2)) λv hv=>by
    obtain⟨j,c,e,_⟩:=L.way v hv;exact z_.mpr ⟨(j,v),(mem j v).mpr e,rfl⟩
   simpa using this
 have low:∀q∈live,q.2 < es.size:=λq hq=>L.old q.1 q.2 ((mem _ _).mp hq)
 have aM:((live.map (·.2)).toArray.filterMap (es[·]?)).toList=live.map λq=>es[q.2]?.getD (0,b_.none):=by
  rw[Array.toList_filterMap];show(live.map (·.2)).filterMap (es[·]?)=_;clear lo md ris mem dI
  induction live with
  | nil=>rfl
  | cons q live ih =>
   have hq:=low q j_;rw[F_,R6,m_ hq,F_,m_ hq];rw[ih λq hq=>low q (h_ _ hq)];rfl
 refine⟨{ mask:=31,place:=(live.map (·.1)).toArray,dummies:=#[],finger,led,moves,plain:=true },(live.map (·.2)).toArray,?_,?_,?_,rfl,rfl,λx=>?_⟩
 ·unfold laid;rw[h1];show some _=some _;rw[dI]
 ·rw[←O2,aM,w_,lo]
 ·have oD:((live.map (·.2)).toArray.filterMap (es[·]?)).size=live.length:=by rw[←O2,aM,w_]
  have oE:∀i (h1:i < ((live.map (·.2)).toArray.filterMap (es[·]?)).size) (h2:i < live.length),((live.map (·.2)).toArray.filterMap (es[·]?))[i]=es[live[i].2]?.getD (0,b_.none):=λi h1 h2=>by
   rw[←Tv]
   have:((live.map (·.2)).toArray.filterMap (es[·]?)).toList[i]'(by rw[O2];exact h1)=(live.map λq=>es[q.2]?.getD (0,b_.none))[i]'(by simpa using h2):=by
    congr 1
   rw[this,Su]
  refine⟨rfl,λi j hi hj lt=>?_,?_,λi hi=>?_,⟨?_,.inl rfl⟩,rfl,λi h1 h2=>?_⟩
  ·simp at hi hj;simp only[RN,Su];exact(Sn.mp ris) i j hi hj lt
  ·rw[oD];simp
  ·simp at hi;simp only[RN,Su];have:=(mem live[i].1 live[i].2).mp (Pg hi);have:=(N_.mp this).1;rw[L.sz] at this;show _<=31;omega
  ·simp;omega
  ·have kw:i < live.length:=by simpa using h2
   rw[oE i h1 kw];simp only[RN,Su];have m1:=(mem live[i].1 live[i].2).mp (Pg kw);have v1:=low live[i] (Pg kw);obtain⟨j,c,e1,e2,e3⟩:=L.way live[i].2 v1;have:j=live[i].1:=L.one _ _ _ e1 m1;subst this
   have hh:(es.map (·.1)).toList.getD live[i].2 0=es[live[i].2].1:=by
    rw[i_];simp[v1]
   rw[hh] at e2 e3;rw[m_ v1];refine⟨c,e2,λc' aJ=>?_⟩;have tk:=e3 c' aJ;unfold tak at tk;have lt:=(vP 31 es[live[i].2].1 c').1;have lt:sl 31 es[live[i].2].1 c' < o.size:=by rw[L.sz];unfold sl;omega
   rw[VB,dif_pos lt] at tk;show sl 31 es[live[i].2].1 c'∈_;cases x:o[sl 31 es[live[i].2].1 c'] with
   | none=>simp[x] at tk
   | some v =>
    have:(sl 31 es[live[i].2].1 c',v)∈live:=(mem _ _).mpr (by rw[m_ lt,x]);simp only[List.mem_toArray,z_];exact⟨_,this,rfl⟩
 ·rw[←Tx,aM,z_];constructor
  ·rintro⟨q,hq,rfl⟩;rw[m_ (low q hq)];exact QE _
  ·intro hx;obtain⟨v,hv,rfl⟩:=RM hx;obtain⟨j,c,e,_⟩:=L.way v hv;refine⟨(j,v),(mem j v).mpr e,?_⟩;dsimp only;rw[m_ hv];rfl
end DL
namespace DL
open PySem PySem.W PySem.Spec PyProof.Rows L2
mutual
def KV(h:I_):D->b_->Prop
 | .int i,u=>∃t,u=.int i t
 | .tup ds,u=>∃a o ae e,u=.ref a/\h.get? a=some o/\o.cls=.type "tuple"/\o.data=.seq (ae:List b_).toArray e/\KVs h ds ae
 | _,_=>False
def KVs(h:I_):List D->List b_->Prop
 | [],[]=>True
 | d::ds,u::us=>KV h d u/\KVs h ds us
 | _,_=>False
end
mutual
noncomputable def kyB:D->Bool
 | .int _=>true
 | .tup ds=>kyA ds
 | _=>false
noncomputable def kyA:List D->Bool
 | []=>true
 | d::ds=>kyB d&&kyA ds
end
section
variable{H:Hp}{s:d_}
mutual
theorem xl(I:Inv X aa U H s):∀(d:D) (x:V) (u:b_),kyB d=true->Is X.K H d x->RelV x u->KV s.heap d u
 | .int i,x,u,_,h,r=>by
  rw[qZ h] at r;obtain⟨t,rfl⟩:=r;rw[KV];exact⟨t,rfl⟩
 | .tup ds,x,u,ky,h,r=>by
  obtain⟨a,xs,rfl,h1,h2⟩:=rm h;cases r;obtain⟨ae,r1,t1,_⟩:=I.tuple h1;obtain⟨o,e1,e2,n,e3⟩:=t1;rw[kyB] at ky;rw[KV];exact⟨a,o,ae,n,rfl,e1,e2,e3,Ee I ds xs ae ky h2 r1⟩
 | .non,_,_,ky,_,_=>by simp[kyB] at ky
 | .bl _,_,_,ky,_,_=>by simp[kyB] at ky
 | .str _,_,_,ky,_,_=>by simp[kyB] at ky
 | .lst _,_,_,ky,_,_=>by simp[kyB] at ky
theorem Ee(I:Inv X aa U H s):∀(ds:List D) (xs:List V) (us:List b_),kyA ds=true->IsA X.K H ds xs->Vals xs us->KVs s.heap ds us
 | [],xs,us,_,h,r=>by
  have:=h.nil_inv;subst this;cases r;rw[KVs];trivial
 | d::ds,xs,us,ky,h,r=>by
  obtain⟨x,xr,rfl,h1,h2⟩:=h.cons_inv;cases r with
  | cons r1 r2 =>
   rw[kyA,OP] at ky;rw[KVs];exact⟨xl I d x _ ky.1 h1 r1,Ee I ds xr _ ky.2 h2 r2⟩
end
end
section
variable {prog:C_}{w:J_}{E:b_->d_->Prop}
mutual
noncomputable def hD:D->Int
 | .int i=>hashInt i
 | .tup ds=>reduceHash (tupleHashOf (hDs ds))
 | _=>0
noncomputable def hDs:List D->List Int
 | []=>[]
 | d::ds=>hD d::hDs ds
end
mutual
theorem Bj:∀(d:D) (u:b_) (A:PB) (s:d_) (Q:Int->d_->Prop),KV s.heap d u->A.units+dep d < PK->(∀tk,Q (hD d) { s with toks:=tk })->o_ (s_ prog w) A (pyHash u) Q E s
 | .int i,u,A,s,Q,x,hu,q=>by
  rw[KV] at x;obtain⟨t,rfl⟩:=x;exact wpAny_pyHash_int (by have:=q (s.toks+1);rw[hD] at this;exact this)
 | .tup ds,u,A,s,Q,x,hu,q=>by
  rw[KV] at x;obtain⟨a,o,ae,e,rfl,x1,x2,x3,x4⟩:=x;rw[dep] at hu;refine pyHash_slot (T:= "tuple") ⟨o,x1,x2⟩ Uz F.entry_tuple_hash (F.args_tuple_hash_1 _) (beq_builtin_none _) (.inr (by omega)) ?_;refine a_ (m:=tupleItemsOf (.ref a)) (wpAny_tupleItemsOf x1 x3 (a_ ?_));rw[←RZ];refine AF ds ae A.in1 s #[] _ x4 (by show A.units+1+_ < _;omega) λtk b hb=>?_
  refine a_ (m:=mkInt (tupleHashOf b.toList)) (wpAny_mkInt (c_ ⟨_,_,rfl,?_⟩));rw[hb];have:=q (tk+1);rw[hD] at this;exact this
 | .non,_,_,_,_,x,_,_=>by simp[KV] at x
 | .bl _,_,_,_,_,x,_,_=>by simp[KV] at x
 | .str _,_,_,_,_,x,_,_=>by simp[KV] at x
 | .lst _,_,_,_,_,x,_,_=>by simp[KV] at x
theorem AF:∀(ds:List D) (us:List b_) (A:PB) (s:d_) (b:Array Int) (Q:Array Int->d_->Prop),KVs s.heap ds us->A.units+depA ds < PK->(∀tk b',b'.toList=b.toList++hDs ds->Q b' { s with toks:=tk }) →
  o_ (s_ prog w) A (forIn us b λx r=>do let h ←pyHash x;pure unit;pure (U_ (r.push h))) Q E s
 | [],us,A,s,b,Q,x,hu,q=>by
  cases us with
  | cons u us=>simp[KVs] at x
  | nil =>
   rw[Q7];exact c_ (q s.toks b (by simp[hDs]))
 | d::ds,us,A,s,b,Q,x,hu,q=>by
  cases us with
  | nil=>simp[KVs] at x
  | cons u us =>
   rw[KVs] at x;rw[depA] at hu;rw[PZ];refine a_ (a_ (Bj d u A s _ x.1 (by omega) λtk=>a_ (c_ (c_ ?_))));exact AF ds us A { s with toks:=tk } _ Q x.2 (by omega) λfQ b' hb=>q fQ b' (by rw[hb,hDs];simp)
end
mutual
theorem yM:∀(d:D) (u:b_) (n:Nat) (A:PB) (s:d_) (Q:Bool->d_->Prop),KV s.heap d u->dep d<=n->Q true s->o_ (s_ prog w) A (eqIsQuiet n u) Q E s
 | .int i,u,n,A,s,Q,x,hn,q=>by
  rw[KV] at x;obtain⟨t,rfl⟩:=x;exact PC (eqIsQuiet_byValue n rfl) q
 | .tup ds,u,n,A,s,Q,x,hn,q=>by
  rw[KV] at x;obtain⟨a,o,ae,e,rfl,x1,x2,x3,x4⟩:=x;rw[dep] at hn;obtain⟨n,rfl⟩:∃k,n=k+1:=⟨n - 1,by omega⟩;have hT:s.TypeIs (.ref a) "tuple":=⟨o,x1,x2⟩;unfold eqIsQuiet;refine a_ (RQ hT F.slot_tuple_eq.lookup ?_);refine a_ (m:=Vj (.ref a) (.type "tuple")) (Pw hT isSubtype_tuple_tuple ?_);simp only[RG,QW,if_false];refine a_ (OV x1 x3 (a_ ?_));show o_ _ _ (forIn ae.toArray _ _) _ _ s;rw[←RZ];refine Ax ds ae n A s _ x4 (by omega) ?_;exact c_ q
 | .non,_,_,_,_,_,x,_,_=>by simp[KV] at x
 | .bl _,_,_,_,_,_,x,_,_=>by simp[KV] at x
 | .str _,_,_,_,_,_,x,_,_=>by simp[KV] at x
 | .lst _,_,_,_,_,_,x,_,_=>by simp[KV] at x
theorem Ax:∀(ds:List D) (us:List b_) (n:Nat) (A:PB) (s:d_) (Q:Option Bool×PUnit->d_->Prop),KVs s.heap ds us->depA ds<=n->Q (none,()) s →
  o_ (s_ prog w) A (forIn us (none,()) λy r=>do
   let __do_lift ←eqIsQuiet n y
   if(!__do_lift)=true then pure (Tz (some false,())) else do pure unit;pure (U_ (none,()))) Q E s
 | [],us,n,A,s,Q,x,hn,q=>by
  cases us with
  | cons u us=>simp[KVs] at x
  | nil =>
   rw[Q7];exact c_ q
 | d::ds,us,n,A,s,Q,x,hn,q=>by
  cases us with
  | nil=>simp[KVs] at x
  | cons u us =>
   rw[KVs] at x;rw[depA] at hn;rw[PZ];refine a_ (a_ (yM d u n A s _ x.1 (by omega) ?_));rw[if_neg (by simp)];refine a_ (c_ (c_ ?_));exact Ax ds us n A s Q x.2 (by omega) q
end
mutual
theorem xH:∀(d:D) (u:b_) (n:Nat) (A:PB) (s:d_) (Q:Bool->d_->Prop),KV s.heap d u->dep d<=n->Q false s->o_ (s_ prog w) A (Rn n u) Q E s
 | .int i,u,n,A,s,Q,x,hn,q=>by
  rw[KV] at x;obtain⟨t,rfl⟩:=x;unfold Rn;exact c_ q
 | .tup ds,u,n,A,s,Q,x,hn,q=>by
  rw[KV] at x;obtain⟨a,o,ae,e,rfl,x1,x2,x3,x4⟩:=x;rw[dep] at hn;obtain⟨n,rfl⟩:∃k,n=k+1:=⟨n - 1,by omega⟩;have look:Vf (s_ prog w) s.heap (Vs (.ref a)) o.cls:=(Vf.ld x1).andThen .now;rw[x2] at look;unfold Rn;refine a_ (look.here ?_);dsimp only;rw[if_pos (by decide)];refine a_ (c_ ?_);simp only[RG,QW,if_false];refine a_ (OV x1 x3 (a_ ?_));show o_ _ _ (forIn ae.toArray _ _) _ _ s;rw[←RZ];refine Dx ds ae n A s _ x4 (by omega) ?_;exact c_ q
 | .non,_,_,_,_,_,x,_,_=>by simp[KV] at x
 | .bl _,_,_,_,_,_,x,_,_=>by simp[KV] at x
 | .str _,_,_,_,_,_,x,_,_=>by simp[KV] at x
 | .lst _,_,_,_,_,_,x,_,_=>by simp[KV] at x
theorem Dx:∀(ds:List D) (us:List b_) (n:Nat) (A:PB) (s:d_) (Q:Option Bool×PUnit->d_->Prop),KVs s.heap ds us->depA ds<=n->Q (none,()) s →
  o_ (s_ prog w) A (forIn us (none,()) λy r=>do
   let __do_lift ←Rn n y
   if __do_lift=true then pure (Tz (some true,())) else do pure unit;pure (U_ (none,()))) Q E s
 | [],us,n,A,s,Q,x,hn,q=>by
  cases us with
  | cons u us=>simp[KVs] at x
  | nil =>
   rw[Q7];exact c_ q
 | d::ds,us,n,A,s,Q,x,hn,q=>by
  cases us with
  | nil=>simp[KVs] at x
  | cons u us =>
   rw[KVs] at x;rw[depA] at hn;rw[PZ];refine a_ (a_ (xH d u n A s _ x.1 (by omega) ?_));rw[if_neg k_];refine a_ (c_ (c_ ?_));exact Dx ds us n A s Q x.2 (by omega) q
end
mutual
theorem Be:∀(d:D) (u:b_) (n:Nat) (A:PB) (s:d_) (Q:Bool->d_->Prop),KV s.heap d u->dep d<=n->Q true s->o_ (s_ prog w) A (Sx n u) Q E s
 | .int i,u,n,A,s,Q,x,hn,q=>by
  rw[KV] at x;obtain⟨t,rfl⟩:=x;unfold Sx;exact c_ q
 | .tup ds,u,n,A,s,Q,x,hn,q=>by
  rw[KV] at x;obtain⟨a,o,ae,e,rfl,x1,x2,x3,x4⟩:=x;rw[dep] at hn;obtain⟨n,rfl⟩:∃k,n=k+1:=⟨n - 1,by omega⟩;have hT:s.TypeIs (.ref a) "tuple":=⟨o,x1,x2⟩;unfold Sx;refine a_ (RQ hT Uz.lookup ?_);refine a_ (m:=seqItems? (.ref a)) (OV x1 x3 (a_ ?_));show o_ _ _ (forIn ae.toArray _ _) _ _ s;rw[←RZ];refine BX ds ae n A s _ x4 (by omega) ?_;exact c_ q
 | .non,_,_,_,_,_,x,_,_=>by simp[KV] at x
 | .bl _,_,_,_,_,_,x,_,_=>by simp[KV] at x
 | .str _,_,_,_,_,_,x,_,_=>by simp[KV] at x
 | .lst _,_,_,_,_,_,x,_,_=>by simp[KV] at x
theorem BX:∀(ds:List D) (us:List b_) (n:Nat) (A:PB) (s:d_) (Q:Option Bool×PUnit->d_->Prop),KVs s.heap ds us->depA ds<=n->Q (none,()) s →
  o_ (s_ prog w) A (forIn us (none,()) λy r=>do
   let __do_lift ←Sx n y
   if(!__do_lift)=true then pure (Tz (some false,())) else do pure unit;pure (U_ (none,()))) Q E s
 | [],us,n,A,s,Q,x,hn,q=>by
  cases us with
  | cons u us=>simp[KVs] at x
  | nil =>
   rw[Q7];exact c_ q
 | d::ds,us,n,A,s,Q,x,hn,q=>by
  cases us with
  | nil=>simp[KVs] at x
  | cons u us =>
   rw[KVs] at x;rw[depA] at hn;rw[PZ];refine a_ (a_ (Be d u n A s _ x.1 (by omega) ?_));rw[if_neg (by simp)];refine a_ (c_ (c_ ?_));exact BX ds us n A s Q x.2 (by omega) q
end
end
end DL
namespace DL
open PySem PySem.W PySem.Spec PyProof.Rows L2 PySem.SetTable
section
variable{prog:C_}{w:J_}{E:b_->d_->Prop}{s:d_}
theorem TabOk.fits{t:Pl}(T:TabOk t es):t.fits es.size=true:=by
 have:=T.few;have:=T.sz;unfold Pl.fits Pl.fill;rw[T.nd];simp[T.sz];omega
theorem TabOk.gave{t:Pl}(T:TabOk t es):t.gaveWay=false:=by
 unfold gaveWay
 rcases T.few.2 with h | h
 ·rw[h];decide
 ·rw[h.1];decide
theorem Gq{o:Obj}{t:Pl}(ho:s.heap.get? a=some o)(eC:o.data=.set es ep t)(T:TabOk t es){x:b_}(gY:∀i (hi:i < es.size),∃b,es[i].2=.ref b)(eq:∀i (hi:i < es.size),es[i].1=h->PySem.SeqAt.EqAt A s es[i].2 x (eqf i))(seen:t.led=false->∀Q:Bool->d_->Prop,Q false s->o_ (s_ prog w) A (Ro x ((es.filter (·.1 == h)).toList.map (·.2))) Q E s){K:Nat}(hK:sl t.mask h K∉t.place)(hk:∀k,k < K->sl t.mask h k∈t.place)(bK:K < 10*(t.mask+14)){Q:SetFound->d_->Prop}(kz:∀i (hi:i < es.size),es[i].1=h->eqf i=true->Q (.there none) s)(free:(∀i (hi:i < es.size),es[i].1=h->eqf i=false)->Q (.free (sl t.mask h K) false) s):
  ∀(f k:Nat) (bF:Option Probe),k<=K->K - k < f->bF.getD (t.probeStart h)=pth t.mask h k->(∀br,br < k->∀j (hj:j < es.size) (bq:j < t.place.size),t.place[j]=sl t.mask h br->es[j].1=h->eqf j=false) →
   o_ (s_ prog w) A (setSearchFrom a x h true f bF) Q E s:=by
 intro f
 induction f with
 | zero=>intro k bF h1 h2;omega
 | succ f ih =>
  intro k bF h1 h2 hs fE;unfold setSearchFrom;refine a_ (Ph ho eC T.fits ?_);dsimp only;rw[T.gave,if_neg k_]
  have pr:∀m,Sh t (hA es) h (10*Vi t.mask) (pth t.mask h k)=some m->t.probe (W.hashAt es) h (bF.getD (t.probeStart h))=some m:=λm e=>by
   rw[hs];exact e
  rcases Cr T hK hk (10*Vi t.mask) k h1 (by unfold Vi;omega) with⟨k',i,hi,ba,a1,a2,a3,a4,a5,a6⟩ | ⟨a1,a2⟩
  ·have e:=pr _ a5
   change t.probe _ h _=_ at e
   have e':t.probe (λi=>(es[i]?.map (·.1)).getD 0) h (bF.getD (t.probeStart h))=some (.candidate (sl t.mask h k') i (pth t.mask h (k'+1))):=e;show o_ _ _ (match t.probe (λi=>(es[i]?.map (·.1)).getD 0) h (bF.getD (t.probeStart h)) with | some met=>_ | _=>_) _ _ _;rw[e'];dsimp only;obtain⟨b,eb⟩:=gY i hi;have gi:es[i]?=some es[i]:=m_ hi;have oF:t.slot (sl t.mask h k')=.live i:=by rw[←a3];exact DV T.ris ba
   have me:=eq i hi a4;rw[eb] at me;have ask:t.led=true\/t.led=false:=by cases t.led<;>simp
   rcases ask with led | led
   all_goals
    first
     | (rw[led,RG,if_neg k_])
     | (rw[led,Bool.not_false,if_pos rfl];refine a_ (seen led _ ?_);rw[if_neg k_])
    rw[gi];dsimp only;rw[eb];refine a_ (OT (me prog w _ _ (a_ (Ph ho eC T.fits ?_))));dsimp only;cases c:eqf i with
    | true =>
     rw[if_pos (by rfl)];exact c_ (kz i hi a4 c)
    | false =>
     rw[if_neg (by decide)];have sm:t.sameMemory t.moves t.mask=some true:=by unfold sameMemory;simp
     rw[sm];dsimp only;rw[if_pos rfl,oF];dsimp only;rw[gi];dsimp only;rw[eb];refine a_ (wpAny_isSame_ref_self (a_ (c_ ?_)));rw[if_pos rfl];dsimp only;rw[if_neg k_];refine ih (k'+1) _ (by omega) (by omega) rfl λbr b1 j hj bq ej hh=>?_
     by_cases z1:br < k
     ·exact fE br z1 j hj bq ej hh
     ·by_cases z2:br=k'
      ·have:j=i:=by
        rw[z2,←a3] at ej
        rcases QV j i with l | l | l
        ·have:=T.ris j i bq ba l;omega
        ·exact l
        ·have:=T.ris i j ba bq l;omega
       subst this;exact c
      ·exact absurd hh (a6 br (by omega) (by omega) j hj bq ej)
  ·have e':t.probe (λi=>(es[i]?.map (·.1)).getD 0) h (bF.getD (t.probeStart h))=some (.empty (sl t.mask h K) none):=pr _ a1;show o_ _ _ (match t.probe (λi=>(es[i]?.map (·.1)).getD 0) h (bF.getD (t.probeStart h)) with | some met=>_ | _=>_) _ _ _;rw[e'];dsimp only;refine c_ (free λi hi hh=>?_);have ba:i < t.place.size:=by rw[T.sz];exact hi
   obtain⟨c,c1,c2⟩:=T.reach i hi ba;rw[hh] at c1 c2
   have cK:c < K:=by
    rcases QV c K with l | l | l
    ·exact l
    ·subst l;exact absurd (by rw[c1];exact QE ba) hK
    ·exact absurd (c2 K l) hK
   by_cases z:c < k
   ·exact fE c z i hi ba c1.symm hh
   ·exact absurd hh (a2 c (by omega) cK i hi ba c1.symm)
end
section
variable{prog:C_}{w:J_}{E:b_->d_->Prop}{s:d_}
def SetAt(h:I_)(a:l_)(led:Bool)(es:Array (Int×b_)):Prop:=∃o ep t,h.get? a=some o/\o.cls=.type "set"/\o.data=.set es ep t/\TabOk t es/\t.led=led
theorem BG{h:I_}{o:Obj}{es':Array (Int×b_)}{t t':Pl}(ho:h.get? a=some o)(hd:o.data=.set es ep t):(h.update a (putSet es' t')).get? a=some { o with data:=.set es' (ep+1) t' }:=by
 have e:=putSet_of es' t' hd;have:=O0 (putSet es' t') ho (by rw[e];rfl);rw[e] at this;exact this
theorem JM{led:Bool}{Q:Bool->d_->Prop}(S:SetAt s.heap a led es)(few:(∀i (hi:i < es.size),es[i].1=h->eqf i=false)->es.size<=17)(gY:∀i (hi:i < es.size),∃b,es[i].2=.ref b)(eq:∀i (hi:i < es.size),es[i].1=h->PySem.SeqAt.EqAt A s es[i].2 (.ref b) (eqf i))(seen:∀Q:Bool->d_->Prop,Q false s->o_ (s_ prog w) A (Ro (.ref b) ((es.filter (·.1 == h)).toList.map (·.2))) Q E s)(value:∀Q:Bool->d_->Prop,Q true s->o_ (s_ prog w) A (Sx 8 (.ref b)) Q E s)(old:∀i (hi:i < es.size),es[i].1=h->eqf i=true->Q false s)(new:(∀i (hi:i < es.size),es[i].1=h->eqf i=false)->∀h' es',SetAt h' a led es'->(∀e,e∈es'↔e=(h,.ref b)\/e∈es)->es'.size=es.size+1->KeptBut a s.heap h'->Q true { s with heap:=h' }):
  o_ (s_ prog w) A (setAddHashed a (.ref b) h) Q E s:=by
 have line:64<=x_:=by rw[Pf];decide
 obtain⟨o,ep,t,ho,hc,eC,T,tl⟩:=S;obtain⟨K,k1,k2,k3⟩:=T.free h;have fits:=T.fits;unfold setAddHashed;refine OT ?_;unfold setAddHashedIn;refine a_ (Ph ho eC fits ?_);dsimp only;rw[if_neg (by simp[byScan,b_.scannable])];unfold setSearch;refine a_ (Gq ho eC T gY eq (λ_=>seen) k2 k3 k1 (λi hi hh ee=>?_) (λaV=>?_) 100000 0 none (O5 _) ?_ rfl λbr z=>by omega)
 ·exact c_ (old i hi hh ee)
 ·have few:=few aV;dsimp only;refine a_ (Ph ho eC fits ?_);dsimp only;obtain⟨p1,p2,p3,p4,p5,p6,p7,p8,p9,kA,mf⟩:=Li T (h:=h) (x:=.ref b) k2 k3;obtain⟨q,oG⟩:∃q,q=t.put (sl t.mask h K):=⟨_,rfl⟩;rw[←oG] at p1 p2 p3 p4 p5 p6 p7 p8 p9 kA mf ⊢;rw[p6,T.pl,if_pos rfl];refine a_ (value _ ?_);rw[if_pos rfl];have cr:(Pn es q.2 (h,b_.ref b)).size=es.size+1:=yR kA _;refine a_ (UA ho eC ?_ (by rw[cr];omega));have g1:=BG (es':=Pn es q.2 (h,b_.ref b)) (t':=q.1) ho eC;have cu:KeptBut a s.heap (s.heap.update a (putSet (Pn es q.2 (h,b_.ref b)) q.1)):=λc u ne e=>(OK _ _ (O4 ne)).trans e
  have dy:∀e,e∈Pn es q.2 (h,b_.ref b)↔e=(h,.ref b)\/e∈es:=λe=>Ds kA _ e
  obtain⟨h1,oH⟩:∃h1,h1=s.heap.update a (putSet (Pn es q.2 (h,b_.ref b)) q.1):=⟨_,rfl⟩;rw[←oH] at g1 cu ⊢
  have fill:q.1.fill=es.size+1:=by
   unfold Pl.fill;rw[p1,p9,T.sz];rfl
  by_cases full:q.1.tooFull=true
  ·-- laid anew: five things,32 places
   have m7:t.mask=7/\es.size+1=5:=by
    unfold tooFull at full;rw[fill,p5] at full;simp only[ge_iff_le,decide_eq_true_eq] at full;have:=T.few;have:=T.sz
    rcases this with x
    rcases T.few.2 with m | m
    ·rw[m] at full;omega
    ·rw[m.1] at full;omega
   rw[if_pos (by simp[full])];unfold setRelay
   have kB:q.1.fits (Pn es q.2 (h,b_.ref b)).size=true:=by
    unfold Pl.fits;rw[fill,cr,p5,m7.1,p9,T.sz];simp;omega
   refine a_ (a_ (Ph (s:={ s with heap:=h1 }) g1 rfl kB ?_));dsimp only;have sa:sizeAbove (grown (es.size+1))=32:=by rw[m7.2];decide
   rw[sa,if_neg (by omega)];obtain⟨t2,bH,l1,l2,l3,l4,l5,l6⟩:=Jx (es:=Pn es q.2 (h,b_.ref b)) (by rw[cr];omega) q.1.finger (q.1.movedTo 31) q.1.led
   have cR:q.1.relaid ((Pn es q.2 (h,b_.ref b)).map (·.1)) (grown (es.size+1))=some (t2,bH):=by
    unfold relaid;rw[sa,p6,T.pl];exact l1
   rw[cR];refine a_ (PC (a:=(bH.filterMap ((Pn es q.2 (h,b_.ref b))[·]?),t2)) ?_ ?_)
   ·show(if((bH.filterMap ((Pn es q.2 (h,b_.ref b))[·]?)).size != (Pn es q.2 (h,b_.ref b)).size)=true then _ else pure _)=_;rw[l2,bne_self_eq_false,if_neg k_]
   ·dsimp only;refine UA g1 rfl ?_ (by rw[l2,cr];omega);refine c_ (new aV _ _ ⟨_,_,t2,BG g1 rfl,hc,rfl,l3,by rw[l5,p7,tl]⟩ (λe=>(l6 e).trans (dy e)) (by rw[l2,cr]) λc u ne e=>(OK _ _ (O4 ne)).trans (cu c u ne e))
  ·rw[if_neg (by simp[full])];refine c_ (new aV h1 _ ⟨_,_,q.1,g1,hc,rfl,⟨p1,p2,p3,p4,?_,by rw[p6];exact T.pl,mf⟩,by rw[p7,tl]⟩ dy cr cu);unfold tooFull at full;rw[fill,p5] at full;simp only[ge_iff_le,decide_eq_true_eq] at full;have:=T.sz;rw[p9,p5];refine⟨by omega,?_⟩
   rcases T.few.2 with m | m
   ·exact .inl m
   ·refine .inr ⟨m.1,?_⟩;rw[m.1] at full;omega
 ·rcases T.few.2 with m | m
  ·rw[m] at k1;omega
  ·rw[m.1] at k1;omega
end
noncomputable def dstep(ah:List D)(d:D):List D:=if ah.any (λe=>deq e d)=true then ah else ah++[d]
noncomputable def dd(ds:List D):List D:=ds.foldl dstep []
theorem JL(ah:List D)(d:D):ah.length<=(dstep ah d).length:=by
 unfold dstep;split
 ·exact v_ _
 ·simp
theorem BW:∀(ds ah:List D),ah.length<=(ds.foldl dstep ah).length
 | [],ah=>v_ _
 | d::ds,ah=>E_ (JL ah d) (BW ds _)
theorem ET(ds:List D)(h:i < ds.length):dd (ds.take (i+1))=dstep (dd (ds.take i)) ds[i]:=by
 unfold dd;rw[Qv,Sy,f_ h];rfl
theorem K3(ds:List D)(i:Nat):(dd (ds.take i)).length<=(dd ds).length:=by
 unfold dd
 conv=>rhs;rw[←Qm i ds,Sy]
 exact BW _ _
theorem Bi{d:D}:∀(ds ah:List D),d∈ds.foldl dstep ah->d∈ah\/d∈ds
 | [],ah,h=>.inl h
 | e::ds,ah,h=>by
  rcases Bi ds _ h with h | h
  ·unfold dstep at h;split at h
   ·exact .inl h
   ·rcases D_.mp h with h | h
    ·exact .inl h
    ·exact .inr (by rw[n_.mp h];exact j_)
  ·exact .inr (h_ _ h)
theorem vp(h:d∈dd ds):d∈ds:=by
 rcases Bi ds [] h with h | h
 ·cases h
 ·exact h
section
variable{H:Hp}{s0 s:d_}{prog:C_}{w:J_}{E:b_->d_->Prop}
def Stn(X:Cx)(H:Hp)(e:Int×b_)(d:D):Prop:=e.1=hD d/\∃x,Is X.K H d x/\RelV x e.2
def EsOk(X:Cx)(H:Hp)(es:Array (Int×b_))(L:List D):Prop:=es.size=L.length/\(∀e∈es,∃d∈L,Stn X H e d)/\∀d∈L,∃e∈es,Stn X H e d
noncomputable def isT:D->Bool
 | .tup _=>true
 | _=>false
theorem vH{x:V}(ht:isT d=true)(h:Is X.K H d x)(r:RelV x u):∃b,x=.ref b/\u=.ref b:=by
 cases d<;>simp[isT] at ht
 obtain⟨a,xs,rfl,h1,h2⟩:=rm h;cases r;exact⟨a,rfl,rfl⟩
theorem Stn.det(I:Inv X aa U H s){e:Int×b_}{d':D}(h:isT d=true)(h':isT d'=true)(x:Stn X H e d)(y:Stn X H e d'):d=d':=by
 obtain⟨_,v,a1,a2⟩:=x;obtain⟨_,v',b1,b2⟩:=y;obtain⟨b,rfl,e1⟩:=vH h a1 a2;obtain⟨b',rfl,e2⟩:=vH h' b1 b2;rw[e1] at e2;cases e2;exact vm I a1 b1
theorem LU{x:b_}(hx:KV s.heap d x)(dx:dep d<=8):∀(ys:List b_) (Q:Bool->d_->Prop),(∀y∈ys,∃e,KV s.heap e y/\dep e<=8)->Q false s->o_ (s_ prog w) A (Ro x ys) Q E s:=by
 intro ys Q hy q;unfold Ro;refine a_ ?_
 have key:∀(ys:List b_) (R:Option Bool×PUnit->d_->Prop) (body:b_->Option Bool×PUnit->Sem (ForInStep (Option Bool×PUnit))),(∀y∈ys,∀R':ForInStep (Option Bool×PUnit)->d_->Prop,R' (.yield (none,())) s->o_ (s_ prog w) A (body y (none,())) R' E s)->R (none,()) s →
   o_ (s_ prog w) A (forIn ys (none,()) body) R E s:=by
  intro ys R body hb r
  induction ys with
  | nil=>rw[Q7];exact c_ r
  | cons y ys ih =>
   rw[PZ];exact a_ (hb y j_ _ (ih λz hz=>hb z (h_ _ hz)))
 refine key ys _ _ (λy oI R' r'=>?_) (c_ q);obtain⟨e,ky,ke⟩:=hy y oI;dsimp only;split
 all_goals
  split
  ·exact c_ r'
  ·refine a_ (yM d _ 8 A s _ hx dx ?_);rw[if_neg (by simp)];refine a_ (yM e _ 8 A s _ ky ke ?_);rw[if_neg (by simp)];refine a_ (xH d _ 8 A s _ hx dx ?_);rw[if_neg k_];refine a_ (xH e _ 8 A s _ ky ke ?_);rw[if_neg k_];exact c_ r'
end
section
variable{H:Hp}{s0 s:d_}{prog:C_}{w:J_}{E:b_->d_->Prop}
def Ext(s0 s:d_):Prop:=∃h tk,s={ s0 with heap:=h,toks:=tk }/\∀b o,s0.heap.get? b=some o->h.get? b=some o
theorem Ext.inv(I:Inv X aa U H s0)(e:Ext s0 s):Inv X aa U H s:=by
 obtain⟨h,tk,rfl,k⟩:=e;exact I.kept (t':=tk) k
theorem Ext.next(e:Ext s0 s)(k:∀b o,b < s0.heap.objs.size->s.heap.get? b=some o->h'.get? b=some o):Ext s0 { s with heap:=h',toks:=tk }:=by
 obtain⟨h,t,rfl,k0⟩:=e;exact⟨h',tk,rfl,λb o x=>k b o (H_ x) (k0 b o x)⟩
def SetOk(ds:List D):Prop:=cmAll ds=true/\ds.all kyB=true/\ds.all isT=true/\depA ds<=8/\(dd ds).length<=18
theorem SetAt.kept{h:I_}{led:Bool}(S:SetAt h a led es)(k:∀o,h.get? a=some o->h'.get? a=some o):SetAt h' a led es:=by
 obtain⟨o,ep,t,r1,r2⟩:=S;exact⟨o,ep,t,k _ r1,r2⟩
theorem Stn.up{J:Hp}(hJ:∀d x,Is X.K J d x->Is X.K H d x){e:Int×b_}{d:D}(h:Stn X J e d):Stn X H e d:=by
 obtain⟨h1,x,h2,h3⟩:=h;exact⟨h1,x,hJ _ _ h2,h3⟩
theorem E2(I0:Inv X aa U H s0){It:l_}(hS:s0.heap.objs.size<=S)(oJ:s0.heap.objs.size<=It){P:Nat->b_->Prop}{St:Nat->I_->Prop}(W:Walks prog w A.in1 It fp [It] n P St)(mh:S∉fp)(hJ:∀d x,Is X.K J d x->Is X.K H d x)(ha:IsA X.K J ds zs)(ok:SetOk ds)(hn:n=ds.length)(hP:∀i v,P i v->∃x,zs[i]?=some x/\RelV x v)(hu:A.units+20 < PK){led:Bool}{R:Result->d_->Prop}:
  ∀(k i:Nat) (s:d_),n - i=k->i<=n->Ext s0 s->St i s.heap->(∃es,SetAt s.heap S led es/\EsOk X J es (dd (ds.take i))) →
   (∀s' es,Ext s0 s'->SetAt s'.heap S led es->EsOk X J es (dd ds)->R (.ok (.ret .none)) s') →
   Ra (s_ prog w) A (.builtin "set.update.loop" ⟨[.ref S,.ref It],[]⟩) R s:=by
 obtain⟨cm,ky,ti,dp,few⟩:=ok;have ml:S≠It:=λe=>mh (by rw[e];exact W.sub It j_)
 have nb:∀b,b < s0.heap.objs.size->b∉[It]:=λb hb h=>by
  rw[n_.mp h] at hb;exact absurd oJ (Nat.not_le.mpr hb)
 have oK:∀b,b < s0.heap.objs.size->b≠S:=λb hb h=>by
  rw[h] at hb;exact absurd hS (Nat.not_le.mpr hb)
 intro k
 induction k with
 | zero =>
  intro i s hk hi ex st gZ r;obtain⟨es,s1,s2⟩:=gZ;have:i=n:=by omega
  subst this;refine Pj SV ?_;rw[PN Qn _];refine a_ (m:=QF (.ref It)) (W.done s _ _ st λh' tk keep=>c_ ?_);rw[hn,PP] at s2;exact r _ es (ex.next λb o hb x=>keep b o (nb b hb) x) (s1.kept λo x=>keep S o (by simpa using ml) x) s2
 | succ k ih =>
  intro i s hk hi ex st gZ r;obtain⟨es,s1,s2⟩:=gZ;have lt:i < ds.length:=by omega
  refine Pj SV ?_;rw[PN Qn _];refine a_ (m:=QF (.ref It)) (W.item i s _ _ (by omega) st λv h1 oM pv iV cu=>?_);obtain⟨x,e1,rv⟩:=hP i v pv;obtain⟨x',eY,hx⟩:=ha.get (f_ lt);rw[e1] at eY;cases eY;have dm:ds[i]∈ds:=Pg lt;have td:isT ds[i]=true:=u_.mp ti _ dm;have mn:dep ds[i]<=8:=E_ (sM dm) dp;obtain⟨b,rfl,rfl⟩:=vH td hx rv;have kC:∀tk,Ext s0 { s with heap:=h1,toks:=tk }:=λtk=>ex.next λb o hb x=>cu b o (nb b hb) x
  have mq:SetAt h1 S led es:=s1.kept λo x=>cu S o (by simpa using ml) x
  have I1:=(kC oM).inv I0;have kD:=xl I1 _ _ _ (u_.mp ky _ dm) (hJ _ _ hx) rv;refine a_ (m:=RV [.ref b] (setAdd S (.ref b))) (OT ?_);unfold setAdd;refine OT (a_ (Bj _ _ _ _ _ kD (by show A.units+1+_ < _;omega) λtk=>?_));have I2:=(kC tk).inv I0
  have ch:∀k,∃d',∀hk:k < es.size,d'∈dd (ds.take i)/\Stn X J es[k] d':=λk=>by
   by_cases hk:k < es.size
   ·obtain⟨d',m,q⟩:=s2.2.1 es[k] (QE hk);exact⟨d',λ_=>⟨m,q⟩⟩
   ·exact⟨.non,λh=>absurd h hk⟩
  have g0:∀k (hk:k < es.size),(ch k).choose∈dd (ds.take i)/\Stn X J es[k] (ch k).choose:=λk hk=>(ch k).choose_spec hk
  have sub:∀d'∈dd (ds.take i),d'∈ds:=λd' h=>Ps (vp h)
  have oN:∀d'∈dd (ds.take i),cmB d' ds[i]=true:=λd' h=>u_.mp (u_.mp cm _ (sub d' h)) _ dm
  have cT:∀d'∈dd (ds.take i),isT d'=true:=λd' h=>u_.mp ti _ (sub d' h)
  have jK:∀d'∈dd (ds.take i),dep d'<=8:=λd' h=>E_ (sM (sub d' h)) dp
  have oO:∀d'∈dd (ds.take i),∀e,Stn X J e d'->KV h1 d' e.2:=λd' h e q=>by
   obtain⟨_,y,q1,q2⟩:=q;exact xl I2 _ _ _ (u_.mp ky _ (sub d' h)) (hJ _ _ q1) q2
  have aV:(∀k (hk:k < es.size),es[k].1=hD ds[i]->deq (ch k).choose ds[i]=false)->(dd (ds.take i)).any (λe=>deq e ds[i])=false:=λhz=>by
   rw[Sz];intro h;obtain⟨d',m,q⟩:=O'.mp h;obtain⟨e,m1,q1⟩:=s2.2.2 d' m;obtain⟨k,hk,rfl⟩:=RM m1;have same:=Stn.det I2 (cT _ (g0 k hk).1) (cT _ m) ((g0 k hk).2.up hJ) (q1.up hJ);have oP:=uM _ _ (oN d' m) q;have:=hz k hk (by rw[q1.1,oP]);rw[same,q] at this;cases this
  have step:dd (ds.take (i+1))=dstep (dd (ds.take i)) ds[i]:=ET ds lt
  have cont:∀h2 es',KeptBut S h1 h2->SetAt h2 S led es'->EsOk X J es' (dd (ds.take (i+1)))->Ra (s_ prog w) A (.builtin "set.update.loop" ⟨[.ref S,.ref It],[]⟩) R { s with heap:=h2,toks:=tk }:=λh2 es' kb sa eo=>by
   refine ih (i+1) _ (by omega) (by omega) ((kC tk).next (tk:=tk) λb o hb x=>kb b o (oK b hb) x) (W.frame _ _ _ iV λb hb o x=>kb b o (λe=>mh (e▸hb)) x) ⟨es',sa,eo⟩ r
  refine JM (s:={ s with heap:=h1,toks:=tk }) (led:=led) (es:=es) (eqf:=λk=>deq (ch k).choose ds[i]) mq (λhz=>?_) (λk hk=>?_) (λk hk _=>?_) (λQ q=>?_) (λQ q=>Be _ _ 8 _ _ _ kD mn q) (λk hk hh ee=>?_) λhz h2 es' sa mem sz kb=>?_
  ·have l1:=K3 ds (i+1);rw[step,dstep,if_neg (by rw[aV hz];exact k_),y_,Qx,←s2.1] at l1;omega
  ·obtain⟨m,_,y,q1,q2⟩:=g0 k hk;obtain⟨b',_,e⟩:=vH (cT _ m) q1 q2;exact⟨b',e⟩
  ·obtain⟨m,_,y,q1,q2⟩:=g0 k hk;exact(uB I2 8 A.in1 (by show A.units+1+8 < _;omega) _ _ _ _ _ _ (.inl (jK _ m)) (hJ _ _ q1) (hJ _ _ hx) q2 rv).2.1
  ·refine LU (s:={ s with heap:=h1,toks:=tk }) (d:=ds[i]) kD mn _ _ (λy hy=>?_) q;obtain⟨e,m,rfl⟩:=z_.mp hy;have m':e∈es:=(Array.mem_filter.mp (Tx.mp m)).1;obtain⟨d',m1,q1⟩:=s2.2.1 e m';exact⟨d',oO d' m1 e q1,jK d' m1⟩
  ·refine c_ ⟨Po Qn _,cont h1 es (λb o _ x=>x) mq ?_⟩;rw[step,dstep,if_pos (O'.mpr ⟨_,(g0 k hk).1,ee⟩)];exact s2
  ·refine c_ ⟨Po Qn _,cont h2 es' kb sa ?_⟩;rw[step,dstep,if_neg (by rw[aV hz];exact k_)];have own:Stn X J (hD ds[i],.ref b) ds[i]:=⟨rfl,_,hx,rv⟩;refine⟨by rw[sz,s2.1];simp,λe he=>?_,λd' cg=>?_⟩
   ·rcases(mem e).mp he with rfl | he
    ·exact⟨_,by simp,own⟩
    ·obtain⟨d',m,q⟩:=s2.2.1 e he;exact⟨d',O_ _ m,q⟩
   ·rcases D_.mp cg with h | h
    ·obtain⟨e,m,q⟩:=s2.2.2 d' h;exact⟨e,(mem e).mpr (.inr m),q⟩
    ·rw[n_.mp h];exact⟨_,(mem _).mpr (.inl rfl),own⟩
end
theorem CP:Manifest.owners.lookup (String.ofList ['r','o','t','a','r','e','t','i','_','t','e','s'].reverse)=some Manifest.sig_set_iterator:=by kernel_rfl
theorem uR:Slot "set_iterator" "__next__" "set_iterator.__next__":=.of (owner:= "set_iterator") (n:= "__next__") (by rw[typeLookup_type,Te];kernel_rfl) (by decide +kernel) (by decide +kernel) (by decide +kernel) (by first | exact .inl (by decide +kernel) | exact .inr (by decide +kernel)) (by rw[isSubtype_type];kernel_rfl)
theorem Ar:entryFor table "set_iterator.__next__"=some P3.«set_iterator.__next__»:=entryFor_of_tree (by kernel_rfl)
theorem Ch(a:b_):argsOk "set_iterator.__next__" ⟨[a],[]⟩:=by
 unfold argsOk;rw[signature?_of (id:= "set_iterator.__next__") (n:=['_','_','t','x','e','n','_','_']) (o:=['r','o','t','a','r','e','t','i','_','t','e','s']) (by kernel_rfl) CP]
 kernel_rfl
theorem F9:entryFor table "set.__iter__"=some P3.«frozenset.__iter__»:=entryFor_alias (id':= "frozenset.__iter__") (by kernel_rfl) rfl (by decide +kernel) (by kernel_rfl)
theorem A0{α:Type}:∀(l:List α) (i:Nat) (h:i < l.length),(l[i]::l.eraseIdx i).Perm l
 | a::l,0,h=>TB _
 | a::l,i+1,h=>by
  rw[Q8,S7];exact(swap a _ _).trans ((A0 l i (by simpa using h)).cons a)
theorem Cn{α:Type}(next:Nat->Nat):∀(f k:Nat) (left:List α) (aM:Array α),left.length=f->(SW.go next f k left aM).toList.Perm (aM.toList++left)
 | 0,k,left,aM,h=>by
  rw[SW.go,O8.mp h,PY]
 | f+1,k,left,aM,h=>by
  have lt:next k % left.length < left.length:=Vz _ (by omega);rw[SW.go,f_ lt];dsimp only;refine(Cn next f (k+1) _ _ (by rw[List.length_eraseIdx_of_lt lt];omega)).trans ?_;rw[Array.toList_push,P_];exact List.Perm.append_left _ (A0 left _ lt)
theorem GE{α:Type}(next:Nat->Nat)(xs:Array α):(SW next xs).toList.Perm xs.toList:=by
 have:=Cn next xs.size 0 xs.toList #[] (by simp);simpa[SW] using this
section
variable{prog:C_}{w:J_}{E:b_->d_->Prop}{s:d_}
noncomputable def byTx(w:J_):Bool:=w.params.followText "set-order"
noncomputable def walkOf(w:J_)(S:l_)(ep:Nat)(es:Array (Int×b_)):Array (Int×b_):=if byTx w=true then SW (w.params.setOrder S ep) es else es
theorem zJ(w:J_)(S:l_)(ep:Nat)(es:Array (Int×b_)):(walkOf w S ep es).toList.Perm es.toList:=by
 unfold walkOf;split
 ·exact GE _ _
 ·exact TB _
theorem wk(w:J_)(S:l_)(ep:Nat)(es:Array (Int×b_)):(walkOf w S ep es).size=es.size:=by
 have:=(zJ w S ep es).length_eq;simpa using this
noncomputable def slotAt(w:J_)(t:Pl)(k:Nat):Nat:=if byTx w=true then 0 else match k with
 | 0=>0
 | k+1=>t.place.getD k 0+1
def SitAt(h:I_)(I S:l_)(slot k n ep:Nat):Prop:=∃o,h.get? I=some o/\o.cls=.type "set_iterator"/\o.data=.fields #[.int slot 0,.int k 0,.ref S,.int n 0,.int ep 0]
def SetIs(h:I_)(S:l_)(es:Array (Int×b_))(ep:Nat)(t:Pl):Prop:=∃o,h.get? S=some o/\o.cls=.type "set"/\o.data=.set es ep t
theorem Ip{w:J_}{t:Pl}(T:TabOk t es)(hb:byTx w=false)(hk:k<=es.size):Rv t.place (slotAt w t k)=k:=by
 unfold slotAt;rw[hb,if_neg k_];have sz:=T.sz;cases k with
 | zero =>
  dsimp only;obtain⟨b1,b2,b3⟩:=v5 T.ris 0
  rcases Nat.eq_zero_or_pos (Rv t.place 0) with h | h
  ·exact h
  ·have:=b2 0 (by omega) h;omega
 | succ k =>
  dsimp only;have lt:k < t.place.size:=by omega
  rw[VB,dif_pos lt]
  change Rv t.place (t.place[k]+1)=k+1
  obtain⟨b1,b2,b3⟩:=v5 T.ris (t.place[k]+1)
  rcases QV (Rv t.place (t.place[k]+1)) (k+1) with l | l | l
  ·have:=b3 k lt (by omega);omega
  ·exact l
  ·have h1:k+1 < t.place.size:=by omega
   have:=b2 (k+1) h1 l;have:=T.ris k (k+1) lt h1 (by omega);omega
theorem yT{Q:Bool->d_->Prop}(q:Q (byTx w) s):o_ (s_ prog w) A setsByText Q E s:=a_ (SX (c_ q))
theorem By{t:Pl}(T:TabOk t es)(led:t.led=!byTx w)(hS:SetIs s.heap S es ep t)(hk:k<=es.size){Q:Option (b_×Nat)->d_->Prop}(q:Q ((walkOf w S ep es)[k]?.map λe=>(e.2,slotAt w t (k+1))) s):o_ (s_ prog w) A (VA S (slotAt w t k) k ep) Q E s:=by
 obtain⟨o,ho,hc,hd⟩:=hS;unfold VA;refine a_ (Ph ho hd T.fits ?_);dsimp only;refine a_ (yT ?_);cases hb:byTx w with
 | true =>
  rw[if_pos rfl,bne_self_eq_false,if_neg k_];have z:∀k,slotAt w t k=0:=λk=>by unfold slotAt;rw[hb,if_pos rfl]
  rw[z];rw[z] at q;refine a_ ?_;unfold setWalk;refine a_ (Ph ho hd T.fits ?_);dsimp only;refine a_ (yT ?_);rw[hb,if_pos rfl];refine a_ (SX (c_ (c_ ?_)));unfold walkOf at q;rw[hb,if_pos rfl] at q;exact q
 | false =>
  rw[if_neg k_];show o_ _ _ (if(!t.plain&&decide (es.size > 1))=true then _ else _) _ _ _;rw[T.pl,RG,Tl,if_neg k_];refine a_ ?_;show o_ _ _ (if(!t.led&&!es.isEmpty)=true then _ else _) _ _ _;rw[led,hb,Bool.not_false,RG,Tl,if_neg k_];refine c_ (c_ ?_);rw[Ip T hb hk];unfold walkOf at q;rw[hb,if_neg k_] at q;have sz:=T.sz;by_cases lt:k < es.size
  ·have lt':k < t.place.size:=by omega
   rw[m_ lt,m_ lt'];rw[m_ lt] at q;unfold slotAt at q;rw[hb,if_neg k_] at q;simp only[map_some,VB,lt',dif_pos] at q;exact q
  ·rw[PL (by omega)];rw[PL (by omega)] at q;exact q
end
section
variable{prog:C_}{w:J_}{E:b_->d_->Prop}{s:d_}
theorem Bd:Slot "set_iterator" "__iter__" "set_iterator.__iter__":=.of (owner:= "set_iterator") (n:= "__iter__") (by rw[typeLookup_type,Te];kernel_rfl) (by decide +kernel) (by decide +kernel) (by decide +kernel) (by first | exact .inl (by decide +kernel) | exact .inr (by decide +kernel)) (by rw[isSubtype_type];kernel_rfl)
theorem F1:entryFor table "set_iterator.__iter__"=some P3.«dict_keyiterator.__iter__»:=entryFor_alias (id':= "dict_keyiterator.__iter__") (by kernel_rfl) rfl (by decide +kernel) (by kernel_rfl)
theorem F3(a:b_):argsOk "set_iterator.__iter__" ⟨[a],[]⟩:=by
 unfold argsOk;rw[signature?_of (id:= "set_iterator.__iter__") (n:=['_','_','r','e','t','i','_','_']) (o:=['r','o','t','a','r','e','t','i','_','t','e','s']) (by kernel_rfl) CP]
 kernel_rfl
theorem SitAt.type{I:l_}{slot:Nat}(h:SitAt s.heap I S slot k n ep):s.TypeIs (.ref I) "set_iterator":=by
 obtain⟨o,h1,h2,_⟩:=h;exact⟨o,h1,h2⟩
theorem SetIs.type{t:Pl}(h:SetIs s.heap S es ep t):s.TypeIs (.ref S) "set":=by
 obtain⟨o,h1,h2,_⟩:=h;exact⟨o,h1,h2⟩
theorem Gw{t:Pl}(T:TabOk t es)(hS:SetIs s.heap S es ep t){Q:b_->d_->Prop}(q:Q (.ref s.heap.objs.size) { s with heap:=s.heap.push { cls:=.type "set_iterator", data:=.fields #[.int 0 0,.int 0 0,.ref S,.int es.size 0,.int ep 0] } }):o_ (s_ prog w) A (SB (.ref S)) Q E s:=by
 have hT:=hS.type;obtain⟨o,ho,hc,hd⟩:=hS;refine Rp hT F.slot_set_iter (ON F.slot_set_iter hT F9 ?_ (F.args_set_iter_1 _));refine a_ (m:=slot0 "__iter__" ⟨[.ref S],[]⟩) (a_ (c_ (c_ ?_)));refine a_ (m:=P3.Frozenset.sizeOf S) (a_ (RT ho hd T.fits (c_ ?_)));refine a_ (m:=setDrawn S) ?_;unfold setDrawn;refine a_ (Ph ho hd T.fits ?_);dsimp only;refine a_ (yT (c_ ?_));have z:(!byTx w&&(!t.plain&&decide (es.size > 1)))=false:=by rw[T.pl];simp
 show o_ _ _ (if(!byTx w&&(!t.plain&&decide (es.size > 1)))=true then _ else _) _ _ _;rw[z,if_neg k_];refine a_ (c_ (a_ ?_));unfold setEpoch;refine a_ (Ph ho hd T.fits (c_ ?_));exact a_ (M_ (c_ ⟨_,rfl, "set_iterator", _,⟨_,t_ _ rfl,rfl⟩,uR.lookup,q⟩))
theorem EL(hh:A.handled=none){Q:Option b_->d_->Prop}(q:∀h',(∀b o,s.heap.get? b=some o->h'.get? b=some o)->Q none { s with heap:=h' }):
  o_ (s_ prog w) A (Vw (.type "StopIteration") [] >>= λe=>(Vb e:Sem PySem.Fin)) (λ_ _=>False) (λe s'=>o_ (s_ prog w) A (Vj e (.type "StopIteration")) (λb fM=>b=true/\Q none fM) (λ_ _=>False) s') s:=by
 refine a_ ?_;unfold Vw newTuple;refine a_ (M_ (a_ (m:=Sc _ _) (PC (a:=b_.none) (by first | rfl | (simp only[Sc];rfl)) (M_ ?_ (by size_fits)))) (by size_fits));unfold Vb;refine a_ (Ub ?_);rw[hh];refine a_ (c_ (UP ?_));refine Pw (T:= "StopIteration") (b:=true) ⟨_,t_ _ rfl,rfl⟩ Rj ⟨rfl,q _ λb o x=>?_⟩;exact e_ _ (e_ _ x)
theorem GK{I:l_}{t:Pl}(T:TabOk t es)(led:t.led=!byTx w)(hI:SitAt s.heap I S (slotAt w t k) k es.size ep)(hS:SetIs s.heap S es ep t)(hk:k < es.size){Q:Option b_->d_->Prop}(q:∀v h',(walkOf w S ep es)[k]?.map (·.2)=some v->SitAt h' I S (slotAt w t (k+1)) (k+1) es.size ep->KeptBut I s.heap h'->Q (some v) { s with heap:=h' }):o_ (s_ prog w) A (QF (.ref I)) Q E s:=by
 have hT:=hI.type;obtain⟨o,ho,hc,hd⟩:=hI;obtain⟨oS,kE,oQ,kF⟩:=id hS;unfold QF;refine a_ (Qb (OM (name:=Re "__next__") hT uR (ON uR hT Ar ?_ (Ch _))));refine a_ (m:=slotArgs "__next__" 0 ⟨[.ref I],[]⟩) (c_ ?_);refine a_ (TC ho hd ?_);refine a_ (RT kE kF T.fits ?_);rw[if_neg (by simp)];dsimp only;have lt:k < (walkOf w S ep es).size:=by rw[wk];exact hk
 refine a_ (m:=VA S _ _ _) ?_;simp only[Qa];refine By T led hS (Q9 hk) ?_;rw[m_ lt,map_some];dsimp only;refine a_ (Qi ho hd (by simp) ?_);obtain⟨h1,e1⟩:∃h1,h1=s.heap.update I (Uc (·.setIfInBounds 0 (PX ((slotAt w t (k+1):Nat):Int)))):=⟨_,rfl⟩;have kG:=O0 (Uc (·.setIfInBounds 0 (PX ((slotAt w t (k+1):Nat):Int)))) ho (Qy (Qj hd _));have kH:=Qj hd (·.setIfInBounds 0 (PX ((slotAt w t (k+1):Nat):Int)));have k1:KeptBut I s.heap h1:=λb o ne x=>by rw[e1];exact(OK _ _ (O4 ne)).trans x
 rw[←e1] at kG ⊢;refine a_ (Qi kG kH (by simp) (c_ ⟨_,rfl,c_ (q _ _ (by rw[m_ lt];rfl) ⟨_,O0 _ kG (Qy (Qj kH _)),?_,?_⟩ λb o ne x=>(OK _ _ (O4 ne)).trans (k1 b o ne x))⟩))
 ·exact((Rh ..).trans (Rh ..)).trans hc
 ·rw[Qj kH];simp[PX]
theorem GG(hh:A.handled=none){I:l_}{t:Pl}(T:TabOk t es)(led:t.led=!byTx w)(hI:SitAt s.heap I S (slotAt w t es.size) es.size es.size ep)(hS:SetIs s.heap S es ep t){Q:Option b_->d_->Prop}(q:∀h',KeptBut I s.heap h'->Q none { s with heap:=h' }):o_ (s_ prog w) A (QF (.ref I)) Q E s:=by
 have hT:=hI.type;obtain⟨o,ho,hc,hd⟩:=hI;obtain⟨oS,kE,oQ,kF⟩:=id hS;unfold QF;refine a_ (Qb (OM (name:=Re "__next__") hT uR (ON uR hT Ar ?_ (Ch _))));refine a_ (m:=slotArgs "__next__" 0 ⟨[.ref I],[]⟩) (c_ ?_);refine a_ (TC ho hd ?_);refine a_ (RT kE kF T.fits ?_);rw[if_neg (by simp)];dsimp only;refine a_ (m:=VA S _ _ _) ?_;simp only[Qa];refine By T led hS (v_ _) ?_;rw[PL (by rw[wk];exact v_ _),Option.map_none];dsimp only;refine a_ (Qi ho hd (by simp) ?_);refine Pp (EL (A:=A.in1) (s:={ s with heap:=_ }) (Q:=Q) hh λh' keep=>q h' λb o ne x=>keep b o ((OK _ _ (O4 ne)).trans x)) (λ_ _ x=>x.elim) λe s' h=>?_
 refine a_ (Pp (wpAny_of_in1 h) (λb fM hb=>?_) λ_ _ x=>x.elim);obtain⟨rfl,hq⟩:=hb;exact c_ hq
theorem HW(hh:A.handled=none){I:l_}(ne:S≠I){t:Pl}(T:TabOk t es)(led:t.led=!byTx w):
  Walks prog w A I [I,S] [I] es.size (λk v=>(walkOf w S ep es)[k]?.map (·.2)=some v) (λk h=>SitAt h I S (slotAt w t k) k es.size ep/\SetIs h S es ep t) where
 sub:=λb hb=>by
  rw[n_.mp hb];exact j_
 frame:=λk h h' st keep=>by
  obtain⟨⟨o,a1,a2⟩,⟨o',b1,b2⟩⟩:=st;exact⟨⟨o,keep I (by simp) o a1,a2⟩,⟨o',keep S (by simp) o' b1,b2⟩⟩
 item:=λk s Q E hk st q=>GK T led st.1 st.2 hk λv h' e si kb=>by
  refine q v h' s.toks e ⟨si,?_⟩ λb o nb x=>kb b o (λz=>nb (by rw[z];simp)) x
  obtain⟨o',b1,b2⟩:=st.2;exact⟨o',kb S o' ne b1,b2⟩
 done:=λs Q E st q=>GG hh T led st.1 st.2 λh' kb=>q h' s.toks λb o nb x=>kb b o (λz=>nb (by rw[z];simp)) x
 self:=λk s Q E st q=>by
  have hT:=st.1.type;exact Rp hT Bd (ON Bd hT F1 (c_ ⟨_,rfl, "set_iterator", _,hT,uR.lookup,q⟩) (F3 _))
end
section
variable{prog:C_}{w:J_}{E:b_->d_->Prop}{s:d_}
theorem Gu{xs:Array b_}(h:ItemsOf (λk v=>xs[k]?=some v) ah xs.size):ah=xs:=by
 refine Array.ext h.1 λi h1 h2=>?_
 have:=h.2 i ah[i] (m_ h1)
 change xs[i]?=some ah[i] at this
 rw[m_ h2] at this;exact Eq.symm (OL this)
theorem F6{Q:Bool->d_->Prop}(hT:s.TypeIs (.ref S) "set")(q:Q false s):o_ (s_ prog w) A (Si (.ref S)) Q E s:=by
 unfold Si;refine a_ (RQ hT F.slot_set_len.lookup ?_);have sp:splitId "set.__len__"=some ("set", "__len__"):=by decide +kernel
 dsimp only;rw[sp];dsimp only;refine a_ (Pw hT sub_set_self ?_);rw[if_neg (by decide)];exact a_ (RW hT (c_ q))
theorem FK(hh:A.handled=none){t:Pl}(T:TabOk t es)(led:t.led=!byTx w)(hS:SetIs s.heap S es ep t){Q:List b_->d_->Prop}(q:∀h' tk,(∀b o,s.heap.get? b=some o->h'.get? b=some o)->s.heap.objs.size<=h'.objs.size->Q ((walkOf w S ep es).toList.map (·.2)) { s with heap:=h',toks:=tk }):o_ (s_ prog w) A (Ux (.ref S)) Q E s:=by
 have line:64<=x_:=by rw[Pf];decide
 have few:es.size<=18:=by have:=T.few;have:=T.sz;omega
 have g9:S < s.heap.objs.size:=by
  obtain⟨o,ho,_⟩:=hS;exact H_ ho
 unfold Ux;refine a_ (TF (Pj Tf ?_));rw[PN Tg _];refine a_ (m:=Vv []) (M_ (c_ ⟨Po Rq _,Pj UB ?_⟩));rw[PN Rq _];obtain⟨h1,e1⟩:∃h1,h1=s.heap.push { cls:=.type "list", data:=.seq ([]:List b_).toArray }:=⟨_,rfl⟩;have cX:h1.objs.size=s.heap.objs.size+1:=by rw[e1,P5]
 have cY:∀b o,s.heap.get? b=some o->h1.get? b=some o:=λb o x=>by rw[e1];exact e_ _ x
 have hG:h1.get? s.heap.objs.size=some { cls:=.type "list", data:=.seq ([]:List b_).toArray }:=by rw[e1];exact t_ _ rfl
 rw[←e1]
 have fg:SetIs h1 S es ep t:=by
  obtain⟨o,ho,r⟩:=hS;exact⟨o,cY _ _ ho,r⟩
 have cj:s.heap.objs.size≠S:=Q_ g9;show o_ _ A.in1 (Sj (.ref s.heap.objs.size) (.ref S) (.ref s.heap.objs.size)) _ _ { s with heap:=h1 };unfold Sj;refine a_ (RW (s:={ s with heap:=h1 }) fg.type ?_);rw[if_neg (by simp[listSameRef,cj])];refine a_ (Gw (s:={ s with heap:=h1 }) T fg ?_);obtain⟨I,eI⟩:∃I,I=h1.objs.size:=⟨_,rfl⟩;obtain⟨h2,e2⟩:∃h2,h2=h1.push { cls:=.type "set_iterator", data:=.fields #[.int 0 0,.int 0 0,.ref S,.int es.size 0,.int ep 0] }:=⟨_,rfl⟩;have cZ:∀b o,h1.get? b=some o->h2.get? b=some o:=λb o x=>by rw[e2];exact e_ _ x
 have hU:SitAt h2 I S (slotAt w t 0) 0 es.size ep:=⟨_,by rw[e2,eI];exact t_ _ rfl,rfl,by unfold slotAt;split<;>rfl⟩
 have hV:SetIs h2 S es ep t:=by
  obtain⟨o,ho,r⟩:=fg;exact⟨o,cZ _ _ ho,r⟩
 show o_ _ _ _ _ _ { s with heap:=h1.push _ };rw[←e2];rw[←eI];refine a_ (OT (F6 (s:={ s with heap:=h2 }) hV.type ?_));rw[if_pos (by decide +kernel)];refine a_ (Se (a_ (m:=listTouch (.ref s.heap.objs.size)) ?_));have eD:=cZ _ _ hG;refine a_ (m:=UJ s.heap.objs.size (·.push .none)) (P6 eD rfl ?_ (by simp) (by simp));have eE:=O0 (Rz (·.push b_.none)) eD rfl;refine P6 eE rfl ?_ (by show(#[b_.none]:Array b_).size<=_;simp;omega) (by simp);have eF:=O0 (Rz (·.pop)) eE rfl;obtain⟨h4,e4⟩:∃h4,h4=((h2.update s.heap.objs.size (Rz (·.push b_.none))).update s.heap.objs.size (Rz (·.pop))):=⟨_,rfl⟩;have da:KeptBut s.heap.objs.size h2 h4:=λb o ne x=>by rw[e4];exact(OK _ _ (O4 ne)).trans ((OK _ _ (O4 ne)).trans x)
 rw[←e4] at eF;show o_ _ _ _ _ _ { s with heap:=I_.update (I_.update h2 _ _) _ _ };rw[←e4];have fh:s.heap.objs.size≠I:=by rw[eI,cX];exact OI (RX _)
 have hW:S≠I:=by rw[eI,cX];exact OI (RD g9)
 have W:=(HW (prog:=prog) (w:=w) (A:=A.in1) (ep:=ep) (by exact hh) hW T led).toS;refine c_ ⟨Po TU _,TH W (by omega) s.heap.objs.size (by simp[fh,cj]) _ es.size 0 _ _ _ rfl (O5 _) ?_ eF (ItemsOf.nil _) λs' ah c mv here it=>?_⟩
 ·obtain⟨o,a1,a2⟩:=hU;obtain⟨o',b1,b2⟩:=hV;exact⟨⟨o,da _ _ (O4 fh) a1,a2⟩,⟨o',da _ _ (O4 cj) b1,b2⟩⟩
 ·obtain⟨h',g',d',fQ,gm⟩:=s';have eg:g'=s.gens:=mv.gens;have ed:d'=s.drawn:=mv.drawn;have eo:gm=s.os:=mv.os;subst eg;subst ed;subst eo;refine a_ (UY here (c_ ?_));have size:es.size=((walkOf w S ep es).map (·.2)).size:=by rw[Array.size_map,wk]
  have all:ah=(walkOf w S ep es).map (·.2):=Gu (by
   rw[←size];refine⟨it.1,λj v hj=>?_⟩;have:=it.2 j v hj;show((walkOf w S ep es).map (·.2))[j]?=some v;rw[Array.getElem?_map]
   exact this)
  have lt':s.heap.objs.size < h'.objs.size:=H_ here;have:=q h' fQ (λb o x=>mv.heap b o (λhb=>?_) (da b o (OI (H_ x)) (cZ _ _ (cY _ _ x)))) (Q9 lt')
  ·rw[all];simpa using this
  ·have lb:=H_ x
   rcases r_.mp hb with z | z
   ·exact OI lb z
   ·rw[n_.mp z,eI,cX] at lb;exact absurd lb (Vx.mpr (Uo _))
end
section
variable{prog:C_}{w:J_}{E:b_->d_->Prop}{s:d_}
noncomputable def fresh0(w:J_):Obj:={ cls:=.type "set", dict:=none,data:=.set #[] 0 (.fresh 0 0 (!byTx w)) }
theorem FP(a:b_){Q:b_->d_->Prop}(q:Q (.ref s.heap.objs.size) { s with heap:=s.heap.push (fresh0 w) }):
  Ra (s_ prog w) A (.call (.builtin "set.__new__") ⟨[.type "set", a],[]⟩) (wants Q E) s:=by
 refine codeAny_of_tree (a_ (m:=checkBuiltinCall "set.__new__" ⟨[.type "set", a],[]⟩) (PC (PySem.F.newCall_set_1 a) (c_ ⟨Po F.plain_set_new _,Pj F.entry_set_new ?_⟩)));rw[PN F.plain_set_new _];unfold P3.«set.__new__» newClass;have gO:=sub_set_self;obtain⟨hp,g,d,tk,os⟩:=s;dsimp only
 wp_walk
 refine SX (c_ (a_ (wpAny_alloc (c_ (c_ q)))))
theorem FB(w:J_):TabOk (.fresh 0 0 (!byTx w)) #[]:=by
 refine⟨rfl,λi j hi=>?_,rfl,λi hi=>?_,⟨O5 _,.inr ⟨rfl,O5 _⟩⟩,rfl,λi hi=>?_⟩
 all_goals exact absurd hi (Tw _)
variable{H:Hp}
theorem HL(I0:Inv X aa U H s)(hh:A.handled=none){l:l_}{ai:List b_}(hl:s.heap.IsList l ai.toArray)(hJ:∀d x,Is X.K J d x->Is X.K H d x)(ha:IsA X.K J ds zs)(hv:Vals zs ai)(ok:SetOk ds)(hu:A.units+50 < PK){Q:b_->d_->Prop}(q:∀S s' es,Ext s s'->s.heap.objs.size<=S->SetAt s'.heap S (!byTx w) es->EsOk X J es (dd ds)->Q (.ref S) s'):o_ (s_ prog w) A (call (.type "set") [.ref l]) Q E s:=by
 obtain⟨c,tl,pW⟩:=Q5.mro;have oR:=Q5.made;have gO:=Q5.sub;refine wpAny_call (codeAny_of_tree (c_ ⟨Code.quiet_builtin _ (by decide +kernel),Pj F.entry_type_call ?_⟩));rw[PB.under_plain (weight_type_call_type "set" [.ref l] []) rfl];have h1:=Q5.notType;have h2:=Q5.canCreate;have qx:=PySem.F.typeCall_set_1 (.ref l)
 repeat any_goals first | assumption | wp_step
 refine QN (FP (w:=w) (.ref l) (E:=E) (Q:=λobj ay=>obj=.ref s.heap.objs.size/\ay={ s with heap:=s.heap.push (fresh0 w) }) ⟨rfl,rfl⟩) λr ay hr=>?_
 rcases r with e | fl
 ·exact hr
 cases fl with
 | ret obj =>
  obtain⟨rfl,rfl⟩:=hr;have hS:(s.heap.push (fresh0 w)).get? s.heap.objs.size=some (fresh0 w):=t_ _ rfl;have hT:d_.TypeIs { s with heap:=s.heap.push (fresh0 w) } (.ref s.heap.objs.size) "set":=⟨_,hS,rfl⟩;have lR:=Q5.init.lookup;have qy:=Q5.init.bind (.ref s.heap.objs.size)
  repeat any_goals first | assumption | wp_step
  refine QN (codeAny_call_builtin (R:=wants (λr dS=>r=.none/\∃es,Ext s dS/\SetAt dS.heap s.heap.objs.size (!byTx w) es/\EsOk X J es (dd ds)) E) Q5.init.plain F.entry_set_init (check_set_init_1 hT ?_)) λmr dS fi=>?_
  ·obtain⟨ol,mw,fO,nl,my⟩:=hl;have mz:l < s.heap.objs.size:=H_ mw;obtain⟨pX,kI,oU,iX⟩:=ol;simp only at fO my;subst fO;subst my;have jL:(s.heap.push (fresh0 w)).get? l=some { cls:=.type "list", dict:=kI,data:=.seq ai.toArray nl,slots:=iX }:=e_ _ mw;have pY:=PySem.F.sub_list_set;have pZ:=PySem.F.sub_list_frozenset;have dG:(type "list" == type "dict")=false:=(by decide);have cG:(s.heap.push (fresh0 w)).IsList l ai.toArray:=⟨_,jL,rfl,nl,rfl⟩;obtain⟨h1,e1⟩:∃h1,h1=s.heap.push (fresh0 w):=⟨_,rfl⟩;have cX:h1.objs.size=s.heap.objs.size+1:=by rw[e1,P5]
   have cY:∀b o,s.heap.get? b=some o->h1.get? b=some o:=λb o x=>by rw[e1];exact e_ _ x
   rw[←e1] at hS jL cG;show o_ _ _ _ _ _ { s with heap:=s.heap.push (fresh0 w) };rw[←e1];have oV:h1.get? s.heap.objs.size=some { cls:=.type "set", dict:=none,data:=.set #[] 0 (.fresh 0 0 (!byTx w)) }:=hS;unfold P3.«set.__init__» noKeywords updateFrom;generalize hPI:SB=PI
   wp_walk
   subst hPI;refine P9 (s:={ s with heap:=h1 }) cG (a_ (TF ?_));have fh:l≠h1.objs.size:=by rw[cX];exact OI (RD mz)
   refine E2 (s0:=s) (led:=!byTx w) I0 (v_ _) (by rw[cX];exact Uo _) (Ug (by exact hh) h1.objs.size l fh ai.toArray) ?_ hJ ha ok (by rw[q_,←hv.length,←ha.length]) (λi v hi=>?_) (by show A.units+1+1+20 < _;omega) _ 0 _ rfl (O5 _) ?_ ?_ ?_ λs' es ex sa eo=>?_
   ·rw[cX];intro hm
    rcases r_.mp hm with z | z
    ·exact absurd z (OI (RX _))
    ·exact absurd (n_.mp z) (Q_ mz)
   ·have ba:ai[i]?=some v:=by simpa using hi
    have li:i < zs.length:=by
     rw[hv.length]
     rcases RL i ai.length with z | z
     ·exact z
     ·rw[Pv z] at ba;cases ba
    obtain⟨u,e3,e4⟩:=hv.get (f_ li);rw[ba] at e3;cases e3;exact⟨_,f_ li,e4⟩
   ·exact⟨_,s.toks,rfl,λb o x=>e_ _ (cY b o x)⟩
   ·exact⟨⟨_,t_ _ rfl,rfl,rfl⟩,cG.push _⟩
   ·refine⟨#[],⟨_,0,_,e_ _ oV,rfl,rfl,FB w,rfl⟩,rfl,λe he=>?_,λd hd=>?_⟩
    ·simp at he
    ·cases hd
   ·exact c_ (c_ ⟨rfl,es,ex,sa,eo⟩)
  ·rcases mr with e | kJ
   ·exact fi
   ·cases kJ with
    | ret r =>
     obtain⟨rfl,es,e1,e2,e3⟩:=fi
     repeat any_goals first | assumption | wp_step
     exact q _ _ es e1 (v_ _) e2 e3
    | _=>exact fi.elim
 | _=>exact hr.elim
end
theorem IsA.up{K:PySem.W.Frag}{J H:Hp}(h:∀d x,Is K J d x->Is K H d x):∀{ds:List D}{zs:List V},IsA K J ds zs->IsA K H ds zs
 | [],zs,a=>by rw[a.nil_inv];exact IsA.nil
 | d::ds,zs,a=>by
  obtain⟨x,r,rfl,h1,h2⟩:=a.cons_inv;exact IsA.cons (h _ _ h1) (IsA.up h h2)
section
variable{H:Hp}{s:d_}
theorem wR{α:Type}:∀(l m:List α),l.Nodup->(∀x∈l,x∈m)->m.length<=l.length->l.Perm m
 | [],m,_,_,h=>by rw[O8.mp (Nat.le_zero.mp h)]
 | x::l,m,nd,h,len=>by
  obtain⟨a,b,rfl⟩:=Sk (h x j_);rw[Pc] at nd
  have p:=wR l (a++b) nd.2 (λy hy=>by
   have:=h y (h_ _ hy)
   rcases D_.mp this with z | z
   ·exact(O_ _ z)
   ·rcases r_.mp z with z | z
    ·subst z;exact absurd hy nd.1
    ·exact OH _ z) (by simp at len ⊢;omega)
  exact(p.cons x).trans List.perm_middle.symm
theorem Au:∀(ds ah:List D),ah.Nodup->(ds.foldl dstep ah).Nodup
 | [],ah,h=>h
 | d::ds,ah,h=>by
  refine Au ds _ ?_;unfold dstep;split
  ·exact h
  ·rename_i no;rw[R0];refine⟨h,by simp,λa ha b hb e=>?_⟩;rw[n_.mp hb] at e;subst e;exact no (O'.mpr ⟨a,ha,sg a⟩)
theorem Dw(ds:List D):(dd ds).Nodup:=Au ds [] R4
theorem Go{l m:List D}(p:l.Perm m)(cm:cmAll l=true):sortD l=sortD m:=by
 refine u3 _ _ ((uJ l).trans (p.trans (uJ m).symm)) (uV l) (uV m) λa ha b hb h1 h2=>?_
 have c:=u_.mp (u_.mp cm a ((uJ l).mem_iff.mp ha)) b ((uJ l).mem_iff.mp hb);refine uM a b c ?_;rw[uf a b c];unfold leD at h1 h2;rw[h1,h2];rfl
theorem BL{n:Nat}:∀{xs:List D},(∀x∈xs,dep x<=n)->depA xs<=n
 | [],_=>by rw[depA];exact O5 _
 | x::xs,h=>by
  rw[depA];exact Nat.max_le.mpr ⟨h x j_,BL λy hy=>h y (h_ _ hy)⟩
theorem Ec{J:Hp}{M:List D}:∀(L:List (Int×b_)),(∀e∈L,∃d∈M,Stn X J e d)->∃ds zs,IsA X.K J ds zs/\Vals zs (L.map (·.2))/\ds.length=L.length/\(∀d∈ds,d∈M)/\∀e∈L,∃d∈ds,Stn X J e d
 | [],_=>⟨[],[],IsA.nil,.nil,rfl,λd hd=>(by cases hd),λe he=>(by cases he)⟩
 | e::L,h=>by
  obtain⟨ds,zs,a1,a2,a3,a4,a5⟩:=Ec L λe he=>h e (h_ _ he)
  obtain⟨d,m,q⟩:=h e j_;obtain⟨_,x,q1,q2⟩:=id q;refine⟨d::ds,x::zs,IsA.cons q1 a1,.cons q2 a2,by simp[a3],λd' cg=>?_,λe' ef=>?_⟩
  ·rcases r_.mp cg with z | z
   ·rw[z];exact m
   ·exact a4 d' z
  ·rcases r_.mp ef with z | z
   ·rw[z];exact⟨d,j_,q⟩
   ·obtain⟨d',m',q'⟩:=a5 e' z;exact⟨d',h_ _ m',q'⟩
theorem EI(hu:X.A.units+100 < PK)(hh:X.A.handled=none)(I:Inv X aa U H s){p:l_}(hJ:∀d x,Is X.K J d x->Is X.K H d x)(hq:SqL X.K H p zs)(ha:IsA X.K J ds zs)(ok:SetOk ds)(kd:ds.all fstI=true\/ds.all fstT=true){Q:VK}(k:∀l eG,IsA X.K J (sortD (dd ds)) eG->H l=none->Q (.ref l) (upd H l (.lst eG))):
  o_ (s_ X.prog X.w) X.A (call (.type "set") [.ref p]) (λv s'=>o_ (s_ X.prog X.w) X.A (call (.builtin "sorted") [v]) (EP X aa U Q) X.xe s') X.xe s:=by
 obtain⟨ae,rv,t,hz⟩:=I.list hq;refine HL I hh t.isList hJ ha rv ok (by omega) λS s' es ex le sa eo=>?_
 have I':=ex.inv I;obtain⟨cm,ky,ti,dp,few⟩:=ok;obtain⟨o,ep,tb,ho,hc,hd,T,led⟩:=sa
 obtain⟨dZ,eG,a1,a2,a3,a4,a5⟩:=Ec (X:=X) (J:=J) (M:=dd ds) (walkOf X.w S ep es).toList λe he=>eo.2.1 e (by
  have:=(zJ X.w S ep es).mem_iff.mp he
  simpa using this)
 have tt:∀d∈dd ds,isT d=true:=λd hd=>u_.mp ti _ (vp hd)
 have pm:(dd ds).Perm dZ:=by
  refine wR _ _ (Dw ds) (λd hd=>?_) (by rw[a3,O2,wk,eo.1];exact v_ _);obtain⟨e,m,q⟩:=eo.2.2 d hd;obtain⟨d',m',q'⟩:=a5 e ((zJ X.w S ep es).mem_iff.mpr (by simpa using m));have:=Stn.det I' (tt d hd) (tt d' (a4 d' m')) (q.up hJ) (q'.up hJ);rw[this];exact m'
 have sub:∀d∈dZ,d∈ds:=λd hd=>vp (a4 d hd)
 have iW:cmAll dZ=true:=u_.mpr λa oW=>u_.mpr λb oX=>u_.mp (u_.mp cm a (sub a oW)) b (sub b oX)
 have oY:IsA X.K H dZ eG:=IsA.up hJ a1;refine xy hu I' oY a2 ⟨by have:=pm.length_eq;omega,iW,E_ (BL λx hx=>sM (sub x hx)) (by omega),?_⟩ (λQ' q=>FK (A:=X.A.in1) (by exact hh) T led ⟨o,ho,hc,hd⟩ q) λl q hp e hl=>k l _ ?_ hl
 ·rcases kd with z | z
  ·exact .inr (.inl (u_.mpr λx hx=>u_.mp z x (sub x hx)))
  ·exact .inr (.inr (u_.mpr λx hx=>u_.mp z x (sub x hx)))
 ·rw[←Go pm.symm iW,←e];exact a1.perm hp
end
section
variable{B:BB}{kr:Nat}
def rSS(X:Cx)(xs:List V)(H:Hp)(Q:VK):Prop:=∃(p:l_) (zs:List V) (ds:List D) (J:Hp),xs=[.ref p]/\SqL X.K H p zs/\IsA X.K J ds zs/\(∀d x,Is X.K J d x->Is X.K H d x)/\SetOk ds/\(ds.all fstI=true\/ds.all fstT=true) ∧
 ∀l eG,IsA X.K J (sortD (dd ds)) eG->H l=none->Q (.ref l) (upd H l (.lst eG))
theorem LQ{p:Pos}{t:TA}(hr:Room kr X.A)(hg:Gl X "sorted")(hm:X.mg "sorted"=none)(kK:Gl X "set")(fR:X.mg "set"=none)(ha:PA X [e] t)(he:g_ [e] X.env=(false,O1 e X.env)::g_ [] X.env:=by rfl)(ef:g_ [.Call (.Name "set" p') [e] [] aG] X.env=(false,O1 (.Call (.Name "set" p') [e] [] aG) X.env)::g_ [] X.env:=by rfl)(aK:∀pos,(Pa pos (g_ [] X.env)).any (·.1)=false:=by intros;rfl):
  PE X (.Call (.Name "sorted" p) [.Call (.Name "set" p') [e] [] aG] [] pos) (tCB (rSS X) t):=by
 intro aa s U H Q I h;refine Qr (sw I hg hm boot_sorted (Ry ?_ ef (aK _)) (by decide) (by decide));rw[ef];refine R_ (Qr (sw I kK fR boot_set (OJ ?_ he (aK _)) (by decide) (by decide)));refine thn (ha aG aa s U H _ I h) λus s1 ⟨vs,H1,I1,r1,p,zs,ds,J,e1,q1,q2,q3,q4,q5,q6⟩=>?_
 subst e1;obtain⟨u,rfl,ru⟩:=vals1 r1;cases ru;exact thn (EI (hu100 hr) hr.hd I1 q3 q1 q2 q4 q5 q6) λv s2 q=>Sq q
noncomputable def setF(ds:List D):Option (List D):=match ds with
 | [.lst xs]=>if(cmAll xs=true/\xs.all kyB=true/\xs.all isT=true/\depA xs<=8/\(dd xs).length<=18)/\(xs.all fstI=true\/xs.all fstT=true) then some (sortD (dd xs)) else none
 | _=>none
theorem Jw{p:Pos}{t:M (List D)}(hr:Room kr X.A)(hg:Gl X "sorted")(hm:X.mg "sorted"=none)(kK:Gl X "set")(fR:X.mg "set"=none)(ha:AD X B [e] t)(he:g_ [e] X.env=(false,O1 e X.env)::g_ [] X.env:=by rfl)(ef:g_ [.Call (.Name "set" p') [e] [] aG] X.env=(false,O1 (.Call (.Name "set" p') [e] [] aG) X.env)::g_ [] X.env:=by rfl)(aK:∀pos,(Pa pos (g_ [] X.env)).any (·.1)=false:=by intros;rfl):
  EO X B (.Call (.Name "sorted" p) [.Call (.Name "set" p') [e] [] aG] [] pos) (fn1 setF t):=PE.imp (LQ hr hg hm kK fR ha he ef aK) (yH λds d e B G I H U Y xs Q r h k=>by
 unfold setF at e;split at e
 ·obtain⟨ok,rfl⟩:=rJ e;obtain⟨x,rfl,hx⟩:=h.one;obtain⟨q,zs,rfl,h3,h4⟩:=rl hx;exact⟨q,zs,_,I,rfl,(Same.rdK r.iH h3).sq,h4,λd x hx=>hx.mono r.iH,ok.1,ok.2,λl eG hz hl=>k.new r hl hz⟩
 ·cases e)
end
end DL
namespace DL
open PySem PySem.W PySem.Spec PyProof.Rows L2
section
variable{B:BB}{a st:OU}{p:Pos}{ga gs:M D}
noncomputable def rRv(K:PySem.W.Frag):R2:=λx y H Q=>∃b xs,x=.ref b/\y=.int (-1)/\SqL K H b xs/\∀l,H l=none->Q (.ref l) (upd H l (.lst xs.reverse))
theorem Vals.rev:∀{xs:List V}{us:List b_},Vals xs us->Vals xs.reverse us.reverse:=λ{xs us} h=>by
 refine wY (by simp[h.length]) λi x u e f=>?_
 have l:=h.length
 have hi:i < xs.length:=by
  rcases RL i xs.length with z | z
  ·exact z
  ·rw[Pv (by simpa using z)] at e;cases e
 rw[Th hi] at e;rw[Th (by omega)] at f;obtain⟨u',e1,e2⟩:=h.get e;rw[l,f] at e1;cases e1;exact e2
theorem FV{ta ts:TE}(he:PE X a ta)(hs:PE X st ts):PE X (.Subscript a (.Slice none none (some st) p2) pos) (tOp (rRv X.K) ta ts):=by
 intro aa s U H Q I h;refine U5 (thn (he aa s U H _ I h) λv s1 ⟨x,H1,I1,r1,q1⟩=>?_);refine wpAny_Slice ?_;rw[T9,evalPart_some];refine c_ (c_ (thn (hs aa s1 U H1 _ I1 q1) λvk s2 ⟨y,H2,I2,r2,q2⟩=>?_));obtain⟨b,xs,rfl,rfl,hx,q⟩:=q2;cases r1;have I3:Inv X aa U H2 { s2 with heap:=s2.heap.push { cls:=.type "slice", data:=.fields #[.none,.none,vk] } }:=I2.kept (t':=s2.toks) λb ob q=>e_ _ q
 obtain⟨ae,r,ht,hz⟩:=I3.list hx;have aQ:=r.length;show o_ (s_ X.prog X.w) X.A (T' a (.Slice none none (some st) p2) (.ref b) (.ref s2.heap.objs.size)) (EP X aa U Q) X.xe { s2 with heap:=s2.heap.push { cls:=.type "slice", data:=.fields #[.none,.none,vk] } };refine tail_any (ops:=[.ref b,.ref s2.heap.objs.size]) ht.isList.typeIs Sr.lookup ?_ (by with_unfolding_all rfl);obtain⟨tk,rfl⟩:=r2;refine SE ht.isList (I_.IsSliceOf.new ..) .none .none (.int _ _) (by simp) ?_ (by rw[q_]<;>omega);rw[krv_pick];refine⟨.ref _,_,I3.laid (t':=s2.toks) (o:=.lst xs.reverse) (λb ob q=>e_ _ q) (v_ _) ?_,rfl,q _ (I3.hok.fresh (v_ _))⟩;exact⟨by rw[TV];exact hz,_,0,Vals.rev r,t_ _ rfl⟩
noncomputable def rvF(c k:D):Option (List D):=match c,k with
 | .lst ds,.int j=>if j=-1 then some ds.reverse else none
 | _,_=>none
theorem Ir(ha:ED X B a ga)(hs:ED X B st gs):EO X B (.Subscript a (.Slice none none (some st) p2) pos) (op2 rvF ga gs):=PE.imp (FV ha hs) (As λa b d e B G I H U Y x y Q r hx hy k=>by
 unfold rvF at e;split at e
 ·obtain⟨rfl,rfl⟩:=rJ e;obtain⟨q,zs,rfl,h3,h4⟩:=rl hx;exact⟨q,zs,rfl,qZ hy,(Same.rdK r.iH h3).sq,λl hl=>k.new r hl h4.reverse⟩
 ·cases e)
end
section
variable{B:BB}{g:M (List D)}
noncomputable def setY(i:Nat)(g:M (List D)):M Fl:=bnd g λd=>bnd (putS i (.fro d)) λ_=>ret .nx
theorem Dc{K:PySem.W.Frag}:∀E U H,tS K B (setY i g) E U H->tAsg (tO K B g) (gName i) E U H:=λE U H q=>by
 obtain⟨G,I,Y,f,af,r,e1,k⟩:=q;obtain⟨d1,ac,e2,e3⟩:=qT e1;obtain⟨d2,aj,e4,e5⟩:=qT e3;cases e5;obtain⟨hl,rfl⟩:=tZ e4;exact⟨G,I,Y,d1,ac,r,e2,λp xs H1 I1 r1 g1 h1 h2 h3 h4 h5=>k _ H1 _ ((r1.freeze h1 h2 h4).store (by rw[r1.len];exact hl) ⟨p,xs,rfl,rn,h3,h5.mono (rN h2 _)⟩ (λm=>nomatch m) (λ_ z=>nomatch z)) (g1.trans (growFreeze h2 h3))⟩
theorem Lc(hN:X.N.Nodup)(he:EO X B e g)(hi:X.N[i]?=some x:=by rfl)(hx:locB X.env.scope x=true:=by rfl)(hs:Pu e (some (.Name x aG)) pos.line X.env=pure false:=by rfl)(hf:fnB X x=true:=by rfl):SD X B (.Assign [.Name x aG] e pos) (setY i g):=PS.imp (vo hN hi (locI hx) he hs (fnI hf)) Dc
noncomputable def froS(j:Nat):M (List D):=λY=>match Y[j]? with
 | some (some (.fro ds))=>some (ds,Y)
 | _=>none
theorem Dg(h:froS j Y=some (ds,af)):af=Y/\Y[j]?=some (some (.fro ds)):=by
 unfold froS at h;split at h
 ·rename_i e;cases h;exact⟨rfl,e⟩
 ·cases h
noncomputable def cpS(i j:Nat):M Fl:=bnd (froS j) λd=>bnd (putS i (.fro d)) λ_=>ret .nx
theorem Bz{p:Pos}(hN:X.N.Nodup)(he:PE X (.Name y p) (tVar j))(hi:X.N[i]?=some x:=by rfl)(hx:locB X.env.scope x=true:=by rfl)(hs:Pu (.Name y p) (some (.Name x aG)) pos.line X.env=pure false:=by rfl)(hf:fnB X x=true:=by rfl):SD X B (.Assign [.Name x aG] (.Name y p) pos) (cpS i j):=PS.imp (vo hN hi (locI hx) he hs (fnI hf)) λE U H q=>by
 obtain⟨G,I,Y,f,af,r,e1,k⟩:=q;obtain⟨d1,ac,e2,e3⟩:=qT e1;obtain⟨d2,aj,e4,e5⟩:=qT e3;cases e5;obtain⟨hl,rfl⟩:=tZ e4;obtain⟨rfl,aU⟩:=Dg e2;obtain⟨v,h1,h2⟩:=r.slot j _ aU;exact⟨v,h1,k _ H I (r.store (by rw[r.len];exact hl) h2 (λm=>nomatch m) (λ_ z=>nomatch z)) (Grow.refl _ _)⟩
noncomputable def retY(j:Nat):M Fl:=bnd (froS j) λd=>ret (.rt (.fro d))
theorem IT{p:Pos}(he:PE X (.Name y p) (tVar j)):SD X B (.Return (some (.Name y p)) pos) (retY j):=PS.imp (zh he) λE U H q=>by
 obtain⟨G,I,Y,f,af,r,e1,k⟩:=q;obtain⟨d1,ac,e2,e3⟩:=qT e1;cases e3;obtain⟨rfl,aU⟩:=Dg e2;obtain⟨v,h1,h2⟩:=r.slot j _ aU;exact⟨v,h1,k U H I r (Grow.refl _ _) v h2⟩
end
section
variable{B:BB}{bg:OU}{N':List Str}
theorem LW(S:CompScope X.env.scope scope X.N N' m)(hc:X.calm=true)(hN:X.N.Nodup)(hi:ITD X B tg iter it)(hg:∀C s H ex,GD (cxC X scope N' C s H ex) (bUp m B) m tg aE)(ht:∀C s H ex,TDs (cxC X scope N' C s H ex) (bUp m B) a9 ts)(he:∀C s H ex,ED (cxC X scope N' C s H ex) (bUp m B) bg el)(ba:X.N[i]?=some y:=by rfl)(hy:X.env.scope.names.lookup y=some .local:=by rfl)(gK:Pu (.ListComp bg [⟨tg,iter,a9,0⟩] scope pos) (some (.Name y py)) cz.line X.env=pure true:=by rfl)(hs:∀x,Pq iter X.env x=pure x:=by intros;rfl):SD X B (.Assign [.Name y py] (.ListComp bg [⟨tg,iter,a9,0⟩] scope pos) cz) (setY i (compO m it aE ts el)):=PS.imp (Cg (g:=tGD X.K (bUp m B) m aE) (tt:=tTD X.K (bUp m B) ts) (te:=tD X.K (bUp m B) el) S hc hN ba hy hi hg ht he gK hs) λE U H q=>by
 have z:=Dc E U H q;exact yC U H _ z
end
end DL
namespace DL
open PySem
end DL
namespace DL
open PySem PySem.W PySem.Spec PyProof.Rows L2
section
variable{B:BB}{c:OU}{st:Pb}{ss sa sb body:List Pb}{g h:M Fl}{tc:M Bool}{ga:M D}
@[irreducible] def SI(X:Cx)(B:BB)(st:Pb)(g:M Fl):Prop:=SD X B st g
@[irreducible] def SIs(X:Cx)(B:BB)(ss:List Pb)(g:M Fl):Prop:=SDs X B ss g
theorem qS(k:SD X B st g):SI X B st g:=by unfold SI;exact k
theorem rb(k:SIs X B ss g):SDs X B ss g:=by unfold SIs at k;exact k
theorem rj:SIs X B [] (ret .nx):=by unfold SIs;exact Jl
theorem qU(k:SI X B st g):SIs X B [st] g:=by unfold SI at k;unfold SIs;exact Jg k
theorem qk(k:SI X B st g)(t:SIs X B ss h):SIs X B (st::ss) (seqS g h):=by unfold SI at k;unfold SIs at t ⊢;exact K4 k t
theorem rh(hc:TD X B c tc)(ha:SIs X B sa g)(hb:SIs X B sb h):SI X B (.If c sa sb pos) (ifS tc g h):=by unfold SIs at ha hb;unfold SI;exact IS hc ha hb
theorem rL(hp:PassesOwn (s_ X.prog X.w) X.A X.env X.xe)(hc:X.calm=true)(hi:ITD X B tg iter it)(hg:GD X B m tg aE)(hb:SIs X B body g)(hs:∀x,Pq iter X.env x=pure x:=by intros;rfl):SI X B (.For tg iter body [] pos) (forS it aE g):=by unfold SIs at hb;unfold SI;exact JN hp hc hi hg hb hs
theorem qY(hN:X.N.Nodup)(he:ED X B e ga)(hi:X.N[i]?=some x:=by rfl)(hx:locB X.env.scope x=true:=by rfl)(hs:Pu e (some (.Name x aG)) pos.line X.env=pure false:=by rfl)(hf:fnB X x=true:=by rfl):SI X B (.Assign [.Name x aG] e pos) (setV i ga):=by unfold SI;exact Le hN he hi hx hs hf
end
noncomputable def keyP(k:Int×Int):List Key:=[.inl k.1,.inl k.2]
theorem Bm{a b:Int×Int}(h:keyP a=keyP b):a=b:=by
 cases a;cases b;cases h;rfl
noncomputable def putD(ag:List ((Int×Int)×D))(k:Int×Int)(d:D):List ((Int×Int)×D):=if(ag.any λkv=>decide (kv.1=k))=true then ag.map (λkv=>if kv.1=k then(kv.1,d) else kv) else ag++[(k,d)]
section
variable{K:PySem.W.Frag}
theorem IsK.nil:IsK K I [] []:=⟨rfl,IsA.nil⟩
theorem IsK.cons{p:(Int×Int)×D}{v:V}{ag:List ((Int×Int)×D)}{xs:List (List Key×V)}(h:Is K I p.2 v)(t:IsK K I ag xs):IsK K I (p::ag) ((keyP p.1,v)::xs):=by
 obtain⟨t1,t2⟩:=t;exact⟨by rw[F_,F_,t1];rfl,IsA.cons h t2⟩
theorem IsK.cons_inv{p:(Int×Int)×D}{xs:List (List Key×V)}(h:IsK K I (p::ag) xs):∃v r,xs=(keyP p.1,v)::r/\Is K I p.2 v/\IsK K I ag r:=by
 obtain⟨h1,h2⟩:=h;cases xs with
 | nil=>simp at h1
 | cons x r =>
  obtain⟨a,v⟩:=x;simp only[F_,List.cons.injEq] at h1;obtain⟨rfl,h1⟩:=h1;rw[F_,F_] at h2;obtain⟨y,r',e,g1,g2⟩:=h2.cons_inv;cases e;exact⟨v,r,rfl,g1,h1,g2⟩
theorem IsK.nil_inv{xs:List (List Key×V)}(h:IsK K I [] xs):xs=[]:=by
 have:=h.1;simpa using this
theorem IsK.len{xs:List (List Key×V)}(h:IsK K I ag xs):xs.length=ag.length:=by
 have:=congrArg length h.1;simpa using this
theorem IsK.any{k:Int×Int}:∀{ag:List ((Int×Int)×D)}{xs:List (List Key×V)},IsK K I ag xs->(xs.any λkv=>decide (kv.1=keyP k))=ag.any λkv=>decide (kv.1=k)
 | [],xs,h=>by rw[h.nil_inv];rfl
 | p::ag,xs,h=>by
  obtain⟨v,r,rfl,h1,h2⟩:=h.cons_inv;rw[RK,RK,IsK.any h2]
  congr 1
  by_cases e:p.1=k
  ·rw[decide_eq_true e,decide_eq_true (by rw[e])]
  ·rw[decide_eq_false e,decide_eq_false λz=>e (Bm z)]
theorem IsK.repl{k:Int×Int}{d:D}{v:V}(hd:Is K I d v):∀{ag:List ((Int×Int)×D)}{xs:List (List Key×V)},IsK K I ag xs->IsK K I (ag.map λkv=>if kv.1=k then(kv.1,d) else kv) (xs.map λkv=>if kv.1=keyP k then(kv.1,v) else kv)
 | [],xs,h=>by rw[h.nil_inv];exact IsK.nil
 | p::ag,xs,h=>by
  obtain⟨w,r,rfl,h1,h2⟩:=h.cons_inv;rw[F_,F_];by_cases e:p.1=k
  ·rw[if_pos e,if_pos (by rw[e])];exact IsK.cons hd (IsK.repl hd h2)
  ·rw[if_neg e,if_neg λz=>e (Bm z)];exact IsK.cons h1 (IsK.repl hd h2)
theorem IsK.put{k:Int×Int}{v:V}{xs:List (List Key×V)}(h:IsK K I ag xs)(hd:Is K I d v):IsK K I (putD ag k d) (putK xs (keyP k) v):=by
 unfold putD putK;rw[h.any];split
 ·exact h.repl hd
 ·refine⟨by simp[h.1,keyP],?_⟩;rw[Qs,Qs];exact IsA.append h.2 (IsA.cons hd IsA.nil)
end
section
variable{K:PySem.W.Frag}{B:BB}{H:Hp}
theorem Rep.writeK(r:Rep K B G I H U Y){aX:List ((Int×Int)×D)}{p:l_}{ys:List (List Key×V)}(hq:Y[i]?=some (some (.dic ag)))(hs:U[i]?=some (some (.ref p)))(hd:IsK K I aX ys):
  Rep K B G I (upd H p (.dT ys)) U (Y.set i (some (.dic aX))):=by
 obtain⟨v,e1,e2⟩:=r.slot i _ hq;obtain⟨p',bx,h1,h2,h3,h4,_⟩:=e2;have hp:p'=p:=by rw[hs] at e1;subst h1;cases e1;rfl
 subst hp;have bS:∀(j:Nat) (r':R),j≠i->Y[j]?=some (some r')->r'.ptr=true->U[j]?≠some (some (.ref p')):=λj r' n z m s=>n (r.dist j i r' _ _ z hq m rfl s hs)
 have sI:Same I (upd H p' (.dT ys)):=λb u z=>by
  have ne:b≠p':=λe=>by subst e;rw[h3] at z;cases z
  rw[qX ne];exact r.iH b u z
 have sG:Same G (upd H p' (.dT ys)):=λb u z=>by
  have ne:b≠p':=λe=>by subst e;rw[h4] at z;cases z
  rw[qX ne];exact r.gH b u z
 have r1:Rep K B G I (upd H p' (.dT ys)) U (Y.set i none):={
  iH:=sI,gH:=sG,len:=by rw[Q1];exact r.len
  slot:=λj q1 e=>by
   rcases rG e with⟨_,z,_⟩ | ⟨n,z⟩
   ·cases z
   obtain⟨w,e3,e4⟩:=r.slot j q1 z;refine⟨w,e3,?_⟩
   have mt:q1.ptr=true->∀ds,Mt K G I H ds w->Mt K G I (upd H p' (.dT ys)) ds w:=λm ds hh=>by
    obtain⟨p2,c9,g1,g2,g3,g4,g5⟩:=hh;refine⟨p2,c9,g1,?_,g3,g4,g5⟩;have ne:p2≠p':=λz2=>bS j q1 n z m (by rw[e3,g1,z2])
    rw[qX ne];exact g2
   cases q1 with
   | val d=>exact e4
   | dic ds =>
    obtain⟨p2,c9,g1,g2,g3,g4,g5⟩:=e4;refine⟨p2,c9,g1,?_,g3,g4,g5⟩;have ne:p2≠p':=λz2=>bS j _ n z rfl (by rw[e3,g1,z2])
    rw[qX ne];exact g2
   | own ds=>exact mt rfl ds e4
   | bor ds=>exact mt rfl ds e4
   | fro ds=>exact e4
   | tfr ds=>exact e4
  dist:=(r.forget i).dist
  bor:=(r.forget i).bor }
 have r2:=r1.learn (i:=i) (q:=.dic aX) (v:=.ref p') hs ⟨p',ys,rfl,rn,h3,h4,hd⟩ (λm p2 e j r' n z m' s=>by
  cases e
  rcases rG z with⟨_,z',_⟩ | ⟨_,z'⟩
  ·cases z'
  ·exact bS j r' n z' m' s) (λds z=>nomatch z)
 rw[UT] at r2;exact r2
end
section
variable (K:PySem.W.Frag)(B:BB)
def KK(G I:Hp)(U:L2.St)(af:Gm)(ag:List ((Int×Int)×D))(Q:VK):Prop:=∀p xs H' I',Rep K B G I' H' U af->Grow G I I'->H' p=some (.dT xs)->I' p=none->G p=none->Apart U af p->IsK K I' ag xs->Q (.ref p) H'
noncomputable def tK(g:M (List ((Int×Int)×D))):TE:=λU H Q=>∃G I Y ag af,Rep K B G I H U Y/\g Y=some (ag,af)/\KK K B G I U af ag Q
end
def EK(X:Cx)(B:BB)(e:OU)(g:M (List ((Int×Int)×D))):Prop:=PE X e (tK X.K B g)
section
variable{B:BB}{k v:OU}{es:List OU}{p:Pos}{g:M (List ((Int×Int)×D))}{gk:M D}
noncomputable def setK(i:Nat)(g:M (List ((Int×Int)×D))):M Fl:=bnd g λd=>bnd (putS i (.dic d)) λ_=>ret .nx
theorem Ls{K:PySem.W.Frag}:∀E U H,tS K B (setK i g) E U H->tAsg (tK K B g) (gName i) E U H:=λE U H q=>by
 obtain⟨G,I,Y,f,af,r,e1,k⟩:=q;obtain⟨d1,ac,e2,e3⟩:=qT e1;obtain⟨d2,aj,e4,e5⟩:=qT e3;cases e5;obtain⟨hl,rfl⟩:=tZ e4;exact⟨G,I,Y,d1,ac,r,e2,λp xs H1 I1 r1 g1 h1 h2 h3 h4 h5=>k _ H1 _ (r1.store (by rw[r1.len];exact hl) ⟨p,xs,rfl,h1,h2,h3,h5⟩ (λ_ p' z=>by cases z;exact h4) (λ_ z=>nomatch z)) g1⟩
theorem LL(hN:X.N.Nodup)(he:EK X B e g)(hi:X.N[i]?=some x:=by rfl)(hx:locB X.env.scope x=true:=by rfl)(hs:Pu e (some (.Name x aG)) pos.line X.env=pure false:=by rfl)(hf:fnB X x=true:=by rfl):SD X B (.Assign [.Name x aG] e pos) (setK i g):=PS.imp (vo hN hi (locI hx) he hs (fnI hf)) Ls
noncomputable def lookK(i:Nat):M (List ((Int×Int)×D)):=λY=>match Y[i]? with
 | some (some (.dic ag))=>some (ag,Y)
 | _=>none
theorem GY{K:PySem.W.Frag}{H:Hp}(h:lookK i Y=some (ag,af))(r:Rep K B G I H U Y):af=Y/\Y[i]?=some (some (.dic ag))/\∃p xs,U[i]?=some (some (.ref p))/\H p=some (.dT xs)/\IsK K I ag xs:=by
 unfold lookK at h;split at h
 ·rename_i e;cases h;obtain⟨v,h1,p,xs,rfl,g1,_,_,g4⟩:=r.slot i _ e;exact⟨rfl,e,p,xs,h1,g1,g4⟩
 ·cases h
end
def RawD(h:I_)(d:l_)(es:Array UI)(ep:Nat):Prop:=∃o,h.get? d=some o/\o.ExactDict/\o.data=.dict es ep
theorem RawD.keep{h:I_}{d:l_}{es:Array UI}(r:RawD h d es ep)(k:∀o,h.get? d=some o->h'.get? d=some o):RawD h' d es ep:=by
 obtain⟨o,h1,h2⟩:=r;exact⟨o,k o h1,h2⟩
section
variable{prog:C_}{w:J_}{E:b_->d_->Prop}{s:d_}{d I:l_}{es:Array UI}
theorem RawD.isDict(r:RawD s.heap d es ep):s.TypeIs (.ref d) "dict":=by
 obtain⟨o,h1,h2,_⟩:=r;exact⟨o,h1,h2.1⟩
theorem Gb{Q:b_->d_->Prop}(sm:(d == PU)=false)(r:RawD s.heap d es ep)(q:Q (.ref s.heap.objs.size) { s with heap:=s.heap.push { cls:=.type "dict_keyiterator", data:=.fields #[.ref d,.int 0 0,.int es.size 0,.int ep 0] } }):o_ (s_ prog w) A (SB (.ref d)) Q E s:=by
 have T:=r.isDict;obtain⟨o,h1,_,h3⟩:=r;refine Rp T F.slot_dict_iter (ON F.slot_dict_iter T F.entry_dict_iter ?_ (F.args_dict_iter_1 _));unfold P3.«dict.__iter__»;refine a_ ?_;unfold P3.Dict.dictSlotNone;refine a_ (wpAny_notOrdered_dict T (c_ (a:=b_.ref d) ?_));unfold showsAll;refine a_ (m:=if(d == PU)=true then _ else _) ?_;rw[sm,if_neg k_];refine c_ (a_ (UC h1 h3 (a_ (wpAny_dictEpoch h1 h3 ?_))));refine a_ (M_ (c_ ⟨_,rfl, "dict_keyiterator", _,⟨_,t_ _ rfl,rfl⟩,Qu.lookup,?_⟩));exact q
theorem De{Q:Option b_->d_->Prop}(it:s.heap.IsKeyIter I d i es.size ep)(r:RawD s.heap d es ep)(more:∀h:i < es.size,∀h',h'.IsKeyIter I d (i+1) es.size ep->I_.SameBut I s.heap h'->Q (some es[i].key) { s with heap:=h' })(hh:es.size<=i->A.handled=none)(dr:es.size<=i->∀h',I_.ExtBut I s.heap h'->Q none { s with heap:=h' }):o_ (s_ prog w) A (QF (.ref I)) Q E s:=by
 have T:=it.typeIs;obtain⟨o,i1,i2,i3⟩:=it;obtain⟨od,r1,_,r3⟩:=r;unfold QF;refine a_ (Qb (OM (name:=Re "__next__") T Qu (ON Qu T F.entry_dict_keyiterator_next ?_ (F.args_dict_keyiterator_next_1 _))));refine a_ (c_ (a_ (a_ (a_ (Qp T (c_ (a_ (TC i1 i3 ?_))))))));have ow:P3.Dict_items.ownsTuple "dict_keyiterator"=false:=by decide
 rw[ow,if_neg k_]
 change o_ _ _ (ite ((b_.ref d == b_.none)=true) _ _) _ _ _
 rw[if_neg (λz=>nomatch z)];refine a_ (c_ (a_ (UC r1 r3 ?_)));rw[if_neg (by simp)];refine a_ (c_ (a_ (wpAny_dictEpoch r1 r3 ?_)));rw[if_neg (by simp)];refine c_ ?_;have nn:¬(i:Int) < 0:=by omega
 by_cases h:i < es.size
 ·have here:(if(i:Int) < 0 then none else es[(i:Int).toNat]?)=some es[i]:=by rw[if_neg nn,Qa,m_ h]
  dsimp only;rw[here];dsimp only;refine a_ (a_ (Qp T (c_ (a_ (Ti T ?_)))));obtain⟨g,eg⟩:∃g,g=s.heap.update I (Uc (·.setIfInBounds 1 (PX ((i:Int)+1)))):=⟨_,rfl⟩
  have ig:g.IsKeyIter I d (i+1) es.size ep:=by
   rw[eg];exact⟨_,O0 _ i1 (Qy (Qj i3 _)),by rw[Rh];exact i2,by rw[Qj i3];rfl⟩
  refine a_ (m:=Vc (.ref I) 1 (PX ((i:Int)+1))) (Qi i1 i3 (by simp) ?_);rw[←eg];refine a_ (OT (a_ (Ti (s:={ s with heap:=g }) ig.typeIs (c_ (a:=es[i].key) ?_))));exact c_ ⟨_,rfl,c_ (more h g ig (by rw[eg];exact I_.SameBut.update ..))⟩
 ·have here:(if(i:Int) < 0 then none else es[(i:Int).toNat]?)=none:=by rw[if_neg nn,Qa,PL (by omega)]
  dsimp only;rw[here];dsimp only;refine a_ (a_ (Qp T (c_ ?_)));refine a_ (m:=Vc (.ref I) 0 .none) (Qi i1 i3 (by simp) ?_);refine a_ (m:=Vw (.type "StopIteration") []) ?_;unfold Vw newTuple;refine a_ (M_ ?_ (by size_fits));refine a_ (m:=Sc _ _) (PC (a:=b_.none) rfl (M_ ?_ (by size_fits)));unfold Vb;refine a_ (Ub ?_);rw[show A.in1.handled=none from hh (by omega)];refine a_ (c_ (UP ?_));refine a_ (Pw (b:=true) (T:= "StopIteration") ⟨_,t_ _ rfl,rfl⟩ Rj ?_);exact c_ (dr (by omega) _ (((I_.SameBut.update ..).extBut.push _).push _))
theorem HF(hh:A.handled=none)(ne:d≠I):Walks prog w A I [I,d] [I] es.size (λi v=>∃h:i < es.size,v=es[i].key) (λi h=>h.IsKeyIter I d i es.size ep/\RawD h d es ep) where
 sub:=λb hb=>r_.mpr (.inl (n_.mp hb))
 frame:=λi h h' st k=>⟨by
  obtain⟨o,a1,a2⟩:=st.1
  exact⟨o,k I (j_ ..) o a1,a2⟩,st.2.keep λo e=>k d (h_ _ (j_ ..)) o e⟩
 item:=λi s Q E hi st q=>De st.1 st.2 (λh h' it sb=>q _ h' s.toks ⟨h,rfl⟩ ⟨it,st.2.keep λo e=>sb.extBut d o ne e⟩ λb o nb e=>sb.extBut b o (λz=>nb (n_.mpr z)) e) (λz=>absurd hi (Vx.mpr z)) (λz=>absurd hi (Vx.mpr z))
 done:=λs Q E st q=>De st.1 st.2 (λh=>absurd h (PR _)) (λ_=>hh) λ_ h' x=>q h' s.toks λb o nb e=>x b o (λz=>nb (n_.mpr z)) e
 self:=λi s Q E st q=>wpAny_pyIter_keyiter st.1 q
theorem Hd{Q:Bool->d_->Prop}(hT:s.TypeIs (.ref S) "dict")(q:Q false s):o_ (s_ prog w) A (Si (.ref S)) Q E s:=by
 unfold Si;refine a_ (RQ hT F.slot_dict_len.lookup ?_);have sp:splitId "dict.__len__"=some ("dict", "__len__"):=by decide +kernel
 dsimp only;rw[sp];dsimp only;refine a_ (Pw hT F.sub_dict_dict ?_);rw[if_neg (by decide)];exact a_ (RW hT (c_ q))
theorem Kg(hh:A.handled=none)(hn:es.size < 64)(sm:(S == PU)=false)(hS:RawD s.heap S es ep){Q:List b_->d_->Prop}(q:∀h' tk,(∀b o,s.heap.get? b=some o->h'.get? b=some o)->s.heap.objs.size<=h'.objs.size->Q (es.toList.map (·.key)) { s with heap:=h',toks:=tk }):o_ (s_ prog w) A (Ux (.ref S)) Q E s:=by
 have line:64<=x_:=by rw[Pf];decide
 have g9:S < s.heap.objs.size:=let ⟨_,z,_⟩:=hS;H_ z
 unfold Ux;refine a_ (TF (Pj Tf ?_));rw[PN Tg _];refine a_ (m:=Vv []) (M_ (c_ ⟨Po Rq _,Pj UB ?_⟩));rw[PN Rq _];obtain⟨h1,e1⟩:∃h1,h1=s.heap.push { cls:=.type "list", data:=.seq ([]:List b_).toArray }:=⟨_,rfl⟩;have cX:h1.objs.size=s.heap.objs.size+1:=by rw[e1,P5]
 have cY:∀b o,s.heap.get? b=some o->h1.get? b=some o:=λb o x=>by rw[e1];exact e_ _ x
 have hG:h1.get? s.heap.objs.size=some { cls:=.type "list", data:=.seq ([]:List b_).toArray }:=by rw[e1];exact t_ _ rfl
 rw[←e1];have fg:RawD h1 S es ep:=hS.keep λo=>cY S o
 have cj:s.heap.objs.size≠S:=Q_ g9;show o_ _ A.in1 (Sj (.ref s.heap.objs.size) (.ref S) (.ref s.heap.objs.size)) _ _ { s with heap:=h1 };unfold Sj;refine a_ (RW (s:={ s with heap:=h1 }) (RawD.isDict (s:={ s with heap:=h1 }) fg) ?_);rw[if_neg (by simp[listSameRef,cj])];refine a_ (Gb (s:={ s with heap:=h1 }) sm fg ?_);obtain⟨I,eI⟩:∃I,I=h1.objs.size:=⟨_,rfl⟩;obtain⟨h2,e2⟩:∃h2,h2=h1.push { cls:=.type "dict_keyiterator", data:=.fields #[.ref S,.int 0 0,.int es.size 0,.int ep 0] }:=⟨_,rfl⟩;have cZ:∀b o,h1.get? b=some o->h2.get? b=some o:=λb o x=>by rw[e2];exact e_ _ x
 have hU:h2.IsKeyIter I S 0 es.size ep:=⟨_,by rw[e2,eI];exact t_ _ rfl,rfl,rfl⟩;have hV:RawD h2 S es ep:=fg.keep λo=>cZ S o
 show o_ _ _ _ _ _ { s with heap:=h1.push _ };rw[←e2];rw[←eI];refine a_ (OT (Hd (s:={ s with heap:=h2 }) (RawD.isDict (s:={ s with heap:=h2 }) hV) ?_));rw[if_pos (by decide +kernel)];refine a_ (Se (a_ (m:=listTouch (.ref s.heap.objs.size)) ?_));have eD:=cZ _ _ hG;refine a_ (m:=UJ s.heap.objs.size (·.push .none)) (P6 eD rfl ?_ (by simp) (by simp));have eE:=O0 (Rz (·.push b_.none)) eD rfl;refine P6 eE rfl ?_ (by show(#[b_.none]:Array b_).size<=_;simp;omega) (by simp);have eF:=O0 (Rz (·.pop)) eE rfl;obtain⟨h4,e4⟩:∃h4,h4=((h2.update s.heap.objs.size (Rz (·.push b_.none))).update s.heap.objs.size (Rz (·.pop))):=⟨_,rfl⟩;have da:KeptBut s.heap.objs.size h2 h4:=λb o ne x=>by rw[e4];exact(OK _ _ (O4 ne)).trans ((OK _ _ (O4 ne)).trans x)
 rw[←e4] at eF;show o_ _ _ _ _ _ { s with heap:=I_.update (I_.update h2 _ _) _ _ };rw[←e4];have fh:s.heap.objs.size≠I:=by rw[eI,cX];exact OI (RX _)
 have hW:S≠I:=by rw[eI,cX];exact OI (RD g9)
 have W:=(HF (prog:=prog) (w:=w) (A:=A.in1) (es:=es) (ep:=ep) hh hW).toS;refine c_ ⟨Po TU _,TH W (by omega) s.heap.objs.size (by simp[fh,cj]) _ es.size 0 _ _ _ rfl (O5 _) ?_ eF (ItemsOf.nil _) λs' ah c mv here it=>?_⟩
 ·obtain⟨o,a1,a2⟩:=hU;exact⟨⟨o,da _ _ (O4 fh) a1,a2⟩,hV.keep λo=>da _ _ (O4 cj)⟩
 ·obtain⟨h',g',d',fQ,gm⟩:=s';have eg:g'=s.gens:=mv.gens;have ed:d'=s.drawn:=mv.drawn;have eo:gm=s.os:=mv.os;subst eg;subst ed;subst eo;refine a_ (UY here (c_ ?_));have lt':s.heap.objs.size < h'.objs.size:=H_ here
  have ea:ah.toList=es.toList.map (·.key):=by
   refine UD λj=>?_
   rw[B_];by_cases hj:j < ah.size
   ·have e1:ah.toList[j]?=some ah[j]:=by simp[hj]
    obtain⟨h,e2⟩:=it.2 j ah[j] (by simp[hj]);rw[e1,e2,Ru,m_ h];rfl
   ·have:ah.size=es.size:=it.1;rw[Pv (by rw[O2];omega),Pv (by rw[O2];omega)];rfl
  rw[ea];refine q h' fQ (λb o x=>mv.heap b o (λhb=>?_) (da b o (OI (H_ x)) (cZ _ _ (cY _ _ x)))) (Q9 lt');have lb:=H_ x
  rcases r_.mp hb with z | z
  ·exact OI lb z
  ·rw[n_.mp z,eI,cX] at lb;exact absurd lb (Vx.mpr (Uo _))
end
noncomputable def prP(k:Int×Int):D:=.tup [.int k.1,.int k.2]
noncomputable def keysD(ag:List ((Int×Int)×D)):List D:=ag.map λq=>prP q.1
section
variable{H:Hp}{s:d_}
theorem Bq{K:PySem.W.Frag}:∀{ks:List (Int×Int)}{kx:List (List Key×V)}{xs:List (List Key×l_×b_)},L2.KT H kx xs->kx.map (·.1)=ks.map keyP->IsA K H (ks.map prP) (xs.map λx=>V.ref x.2.1)
 | [],kx,xs,r,e=>by
  have:kx=[]:=by simpa using e
  subst this;cases r;exact IsA.nil
 | k::ks,kx,xs,r,e=>by
  cases r with
  | nil=>simp at e
  | @cons p q ps qs h t =>
   rw[F_,F_,List.cons.injEq] at e;obtain⟨h1,h2,h3⟩:=h;rw[e.1] at h2;exact IsA.cons (Is.tup h2 (IsA.cons (Is.int _) (IsA.cons (Is.int _) IsA.nil))) (Bq t e.2)
theorem BM:∀(xs:List (List Key×l_×b_)),Vals (xs.map λx=>V.ref x.2.1) (xs.map λx=>b_.ref x.2.1)
 | []=>.nil
 | _::r=>.cons rfl (BM r)
theorem JT(hu:X.A.units+100 < PK)(hc:X.calm=true):CallR X (.builtin "sorted") (λxs H Q=>∃(p:l_) (kx:List (List Key×V)) (ks:List (Int×Int)),xs=[.ref p]/\H p=some (.dT kx)/\kx.map (·.1)=ks.map keyP/\ks.length < 64 ∧
  ∀l q zs,IsA X.K H (ks.map prP) zs->Pm (ks.map prP).length q->permD q (ks.map prP)=sortD (ks.map prP)->H l=none->Q (.ref l) (upd H l (.lst (permV q zs)))):=by
 intro aa s U H xs us Q I r h;obtain⟨p,kx,ks,rfl,hp,ek,eB,k⟩:=h;obtain⟨u,rfl,ru⟩:=vals1 r;cases ru;obtain⟨z,hd,ys,cR,dd⟩:=Bc I.hok hp;have ha:IsA X.K H (ks.map prP) (ys.map λx=>V.ref x.2.1):=Bq cR ek
 have ok:SortOk (ks.map prP):=by
  refine⟨by simpa using eB,?_,?_,.inr (.inl ?_)⟩
  ·unfold cmAll;rw[u_];intro a ha;rw[u_];intro b hb;obtain⟨i,_,rfl⟩:=z_.mp ha;obtain⟨j,_,rfl⟩:=z_.mp hb;rfl
  ·have:∀l:List (Int×Int),depA (l.map prP)<=50:=λl=>by
    induction l with
    | nil=>exact O5 _
    | cons a l ih =>
     rw[F_,depA];have:dep (prP a)=1:=rfl;omega
   exact this ks
  ·rw[u_];intro a ha;obtain⟨i,_,rfl⟩:=z_.mp ha;rfl
 obtain⟨o,es,ep,d1,d2,d3,d4,_⟩:=dd;have ev:es.toList.map (·.key)=ys.map λx=>b_.ref x.2.1:=by rw[d4,Rr];rfl
 have le:es.size=ks.length:=by
  have h1:es.toList.length=ys.length:=by rw[d4,w_]
  have h2:=ha.length;rw[w_,w_] at h2;rw[O2] at h1;omega
 refine xy hu I ha (BM ys) ok (λQ' q=>?_) λl q fj hs hl=>k l q _ ha fj hs hl
 rw[←ev] at q;exact Kg (A:=X.A.in1) (I.ok.hd hc) (by omega) hd ⟨o,d1,d2,d3⟩ q
end
section
variable{B:BB}{k v b:OU}{p:Pos}{gk gb:M D}{kr:Nat}
noncomputable def dlit0:M (List ((Int×Int)×D)):=ret []
theorem Fp:EK X B (.Dict [] [] pos) dlit0:=PE.imp Ky λU H Q q p hp=>by
 obtain⟨G,I,Y,ag,af,r,e1,kk⟩:=q;cases e1;exact kk p [] _ I (r.fresh hp _) (Grow.refl _ _) rn (r.iFree hp) (r.gFree hp) (r.apart hp) IsK.nil
noncomputable def putPF(n d:D)(ag:List ((Int×Int)×D)):Option (List ((Int×Int)×D)):=match n with
 | .tup [.int a,.int b]=>if ag.length < lim then some (putD ag (a,b) d) else none
 | _=>none
noncomputable def wrK(i:Nat)(F:List ((Int×Int)×D)->Option (List ((Int×Int)×D))):M Fl:=λY=>match Y[i]? with
 | some (some (.dic ag))=>match F ag with
  | some es=>some (.nx,Y.set i (some (.dic es)))
  | none=>none
 | _=>none
theorem KR{F:List ((Int×Int)×D)->Option (List ((Int×Int)×D))}{f:Fl}(h:wrK i F Y=some (f,af)):f=.nx/\∃ag es,Y[i]?=some (some (.dic ag))/\F ag=some es/\af=Y.set i (some (.dic es)):=by
 unfold wrK at h;split at h
 ·rename_i ag e;split at h
  ·rename_i es e2;cases h;exact⟨rfl,ag,es,e,e2,rfl⟩
  ·cases h
 ·cases h
noncomputable def putP(i:Nat)(gk gv:M D):M Fl:=bnd gv λd=>bnd (lookK i) λ_=>bnd gk λn=>wrK i (putPF n d)
theorem Iq(hr:Room kr X.A)(hv:PE X (.Name x p1) (tVar i))(hk:ED X B k gk)(he:ED X B e gv)(hs:Pu e (some (.Subscript (.Name x p1) k aG)) pos.line X.env=pure false:=by rfl):
  SD X B (.Assign [.Subscript (.Name x p1) k aG] e pos) (putP i gk gv):=PS.imp (G5 (FY hr) hv hk he hs) λE U H q=>by
 obtain⟨G,I,Y,fl,af,r,e1,kk⟩:=q;obtain⟨d,ac,e2,e3⟩:=qT e1;obtain⟨qz,aj,e4,e5⟩:=qT e3;obtain⟨n,aR,e6,e7⟩:=qT e5;obtain⟨rfl,ag,es,w1,w2,rfl⟩:=KR e7;refine⟨G,I,Y,d,ac,r,e2,λv H1 I1 r1 g1 hd=>?_⟩;obtain⟨rfl,_,a,xs,f1,f2,_⟩:=GY e4 r1;refine⟨_,f1,G,I1,aj,n,aR,r1,e6,λy H2 I2 r2 g2 hn=>?_⟩;obtain⟨u,h1,a',bx,rfl,f5,f6,f7,f8⟩:=r2.slot i _ w1;have hp:a'=a:=by rw[f1] at h1;cases h1;rfl
 subst hp;unfold putPF at w2;split at w2
 ·rename_i m1 m2;obtain⟨c2,rfl⟩:=rJ w2;obtain⟨b,ys,rfl,t1,t2⟩:=uQ hn;obtain⟨y1,y2,rfl,t3,t4⟩:=t2.two;rw[qZ t3,qZ t4] at t1;have ln:bx.length < x_:=by rw[f8.len];exact L_ c2 (tF (v_ _))
  refine⟨a',_,rfl,DPut.t (k:=keyP (m1,m2)) f5 (r2.iH _ _ t1) ln,?_⟩;exact kk U _ I2 (r2.writeK w1 h1 (f8.put (hd.mono g2.up))) (g1.trans g2)
 ·cases w2
noncomputable def hidK:Option R->Option R
 | some (.val d)=>some (.val d)
 | _=>none
theorem Fd{o:Option R}{r:R}(h:hidK o=some r):∃d,r=.val d/\o=some (.val d):=by
 unfold hidK at h;split at h
 ·cases h;exact⟨_,rfl,rfl⟩
 ·cases h
theorem Rep.hid{K:PySem.W.Frag}{H:Hp}(r:Rep K B G I H U Y):Rep K B' H I H U (Y.map hidK):=by
 have aU:∀(j:Nat) (q:R),(Y.map hidK)[j]?=some (some q)->∃d,q=.val d/\Y[j]?=some (some (.val d)):=λj q e=>by
  rw[B_,G_] at e;obtain⟨o,z2,z3⟩:=e;obtain⟨d,rfl,rfl⟩:=Fd z3;exact⟨d,rfl,z2⟩
 refine⟨r.iH,Same.refl _,by rw[w_];exact r.len,λj q e=>?_,λj j' q q' v e e' m=>?_,λj es e=>?_⟩
 ·obtain⟨d,rfl,z⟩:=aU j q e;exact r.slot j _ z
 ·obtain⟨d,rfl,z⟩:=aU j q e;cases m
 ·obtain⟨d,z,_⟩:=aU j _ e;cases z
noncomputable def srtEq(i:Nat)(gb:M D):M D:=λY=>match Y[i]? with
 | some (some (.dic ag))=>match gb (Y.map hidK) with
  | some (d,_)=>if ag.length < 64/\dep d<=100 then some (.bl (deq (.lst (sortD (keysD ag))) d),Y) else none
  | none=>none
 | _=>none
theorem HY{z:Str}(hr:Room kr X.A)(hc:X.calm=true)(hg:Gl X "sorted")(hm:X.mg "sorted"=none)(hv:PE X (.Name z p1) (tVar i))(hb:ED X B b gb)(he:g_ [.Name z p1] X.env=(false,O1 (.Name z p1) X.env)::g_ [] X.env:=by rfl)(aK:(Pa p2 (g_ [] X.env)).any (·.1)=false:=by rfl)(oZ:Py .Eq b=false:=by rfl):
  ED X B (.Compare (.Call (.Name "sorted" p) [.Name z p1] [] p2) [.Eq] [b] pos) (srtEq i gb):=PE.imp (Bg (xp (hu100 hr)) (wE (JT (hu100 hr) hc) hg hm PyProof.Rows.boot_sorted (ue hv vh he) (by decide) (by decide) he aK) hb oZ) λU H Q q=>by
 obtain⟨G,I,Y,d,af,r,e1,kk⟩:=q;unfold srtEq at e1;split at e1
 case h_2=>cases e1
 rename_i ag e2;split at e1
 case h_2=>cases e1
 rename_i db o0 e3;obtain⟨⟨eB,hd⟩,e4⟩:=rJ e1;cases e4;obtain⟨w,s1,a,xs,rfl,p1,p2,p3,p4⟩:=r.slot i _ e2;refine⟨_,s1,a,xs,ag.map (·.1),rfl,p1,by rw[p4.1,Rr];rfl,by simpa using eB,λl q zs ha hp hs hl=>?_⟩;have ek:(ag.map (·.1)).map prP=keysD ag:=by unfold keysD;rw[Rr];rfl
 rw[ek] at ha hp hs;have r1:=r.fresh hl (.lst (permV q zs));refine⟨_,I,_,db,o0,r1.hid (B':=B),e3,λy H2 I2 r2 g2 hy=>?_⟩;have up:Same H H2:=(rN hl _).trans r2.gH;have cE:H2 l=some (.lst (permV q zs)):=r2.gH _ _ rn;refine⟨.lst (sortD (keysD ag)),db,Is.lst (RdK.of cE) (by rw[←hs];exact(ha.perm hp).mono up),hy.mono r2.iH,.inr hd,?_⟩;exact kk _ H2 I (r.ext (Same.refl _) up (r.iH.trans up) λb o z=>.inl z) (Grow.refl _ _) (Is.bl _)
end
end DL
namespace DL
open PySem PySem.W PySem.Spec PyProof.Rows L2
open PySem.SeqAt
open PySem.AutoSeq1 (wpAny_loadPart')
open PySem.MeetsSeq PySem.MeetsSeq2 PySem.MeetsSeq3
end DL
namespace DL
open PySem PySem.W PySem.Spec PyProof.Rows L2
noncomputable def altM{α:Type}(a b:M α):M α:=λY=>match a Y with
 | some r=>some r
 | none=>b Y
theorem Bx{α:Type}{a b:M α}{x:α}(h:altM a b Y=some (x,af)):a Y=some (x,af)\/b Y=some (x,af):=by
 unfold altM at h;split at h
 ·rename_i e;cases h;exact .inl e
 ·exact .inr h
section
variable{B:BB}{st:Pb}
theorem Dp{a b:M D}(h1:ED X B e a)(h2:ED X B e b):ED X B e (altM a b):=λaa s U H Q I q=>by
 obtain⟨G,I',Y,d,af,r,e1,k⟩:=q
 rcases Bx e1 with e1 | e1
 ·exact h1 aa s U H Q I ⟨G,I',Y,d,af,r,e1,k⟩
 ·exact h2 aa s U H Q I ⟨G,I',Y,d,af,r,e1,k⟩
theorem L4{a b:M Fl}(h1:SD X B st a)(h2:SD X B st b):SD X B st (altM a b):=λaa s U H E I q=>by
 obtain⟨G,I',Y,d,af,r,e1,k⟩:=q
 rcases Bx e1 with e1 | e1
 ·exact h1 aa s U H E I ⟨G,I',Y,d,af,r,e1,k⟩
 ·exact h2 aa s U H E I ⟨G,I',Y,d,af,r,e1,k⟩
end
end DL
namespace DL
open PySem PySem.W PySem.Spec PyProof.Rows L2
open PySem.SeqAt
open PySem.AutoSeq1 (wpAny_loadPart')
open PySem.MeetsSeq PySem.MeetsSeq2 PySem.MeetsSeq3
noncomputable def isStar:OU->Bool
 | .Starred ..=>true
 | _=>false
theorem FR(h:isStar e=false):g_ (e::ak) env=(false,O1 e env)::g_ ak env:=by
 cases e<;>first | rfl | (simp[isStar] at h)
theorem f'{B:BB}{es:List OU}{g:M D}{t:M (List D)}(ha:ED X B e g)(hr:AD X B es t)(h:isStar e=false):AD X B (e::es) (consA g t):=Jc ha hr (FR h)
end DL
namespace DL
open PySem PySem.Spec PyProof.Rows L2
noncomputable def kAll(f:OU->Option (M D)):List OU->Option (M (List D))
 | []=>some nilA
 | e::es=>match f e with
  | some g=>match kAll f es with
   | some t=>some (consA g t)
   | none=>none
  | none=>none
noncomputable def kM:Nat->OU->Option (M D)
 | 0,_=>none
 | n+1,e=>match e with
  | .Constant (.int i) _ _=>some (ret (.int i))
  | .Constant (.bool b) _ _=>some (ret (.bl b))
  | .Constant .none _ _=>some (ret .non)
  | .Constant (.str x) _ _=>some (ret (.str x))
  | .UnaryOp .USub a _=>match kM n a with
   | some g=>some (un1 negI g)
   | none=>none
  | .BinOp a .Pow b _=>match kM n a with
   | some g=>match kM n b with
    | some h=>some (op2 powI g h)
    | none=>none
   | none=>none
  | .Tuple es _ _=>match kAll (kM n) es with
   | some t=>some (tupA t)
   | none=>none
  | .List es _=>match kAll (kM n) es with
   | some t=>some (frz (lstA t))
   | none=>none
  | _=>none
section
variable{B:BB}
theorem vT{f:OU->Option (M D)}(hf:∀e g,f e=some g->ED X B e g/\isStar e=false):∀(es:List OU) (t:M (List D)),kAll f es=some t->AD X B es t
 | [],t,h=>by cases h;exact gV
 | e::es,t,h=>by
  rw[kAll] at h;split at h
  ·rename_i g hg;split at h
   ·rename_i t' ht;cases h;obtain⟨h1,h2⟩:=hf e g hg;exact f' h1 (vT hf es t' ht) h2
   ·cases h
  ·cases h
theorem uP:∀(n:Nat) (e:OU) (g:M D),kM n e=some g->ED X B e g/\isStar e=false
 | 0,_,_,h=>by cases h
 | n+1,e,g,h=>by
  unfold kM at h;split at h
  ·cases h;exact⟨pU,rfl⟩
  ·cases h;exact⟨sB,rfl⟩
  ·cases h;exact⟨sF,rfl⟩
  ·cases h;exact⟨rP,rfl⟩
  ·split at h
   ·rename_i g' hg;cases h;exact⟨zC (uP n _ _ hg).1,rfl⟩
   ·cases h
  ·split at h
   ·rename_i g' hg;split at h
    ·rename_i g2 o3;cases h;exact⟨xZ (uP n _ _ hg).1 (uP n _ _ o3).1,rfl⟩
    ·cases h
   ·cases h
  ·split at h
   ·rename_i t ht;cases h;exact⟨rA (vT (uP n) _ _ ht),rfl⟩
   ·cases h
  ·split at h
   ·rename_i t ht;cases h;exact⟨qW (rq (vT (uP n) _ _ ht)),rfl⟩
   ·cases h
  ·cases h
theorem rK{e1 e2 e3 e4:OU}{es:List OU}{g1 g2 g3 g4:M D}{t:M (List D)}(h1:ED X B e1 g1)(h2:ED X B e2 g2)(h3:ED X B e3 g3)(h4:ED X B e4 g4)(hr:AD X B es t)(s1:isStar e1=false)(s2:isStar e2=false)(s3:isStar e3=false)(s4:isStar e4=false):AD X B (e1::e2::e3::e4::es) (consA g1 (consA g2 (consA g3 (consA g4 t)))):=
 f' h1 (f' h2 (f' h3 (f' h4 hr s4) s3) s2) s1
theorem ad_k{es:List OU}{t:M (List D)}(h:kAll (kM 9) es=some t):AD X B es t:=vT (uP 9) es t h
end
end DL
namespace DL
open PySem PySem.W PySem.Spec PyProof.Rows L2 PySem.SetTable
end DL
namespace DL
open PySem PySem.W PySem.Spec PyProof.Rows L2
section
variable{B:BB}{t:M (List D)}
noncomputable def pkF(as:List D)(l:D):Option D:=match as,l with
 | [.int n],.lst ds=>if 0<=n/\n < 1000000 then ds[n.toNat]? else none
 | _,_=>none
noncomputable def ersF(as:List D)(ds:List D):Option (List D):=match as with
 | [.int n]=>some (ds.eraseIdx n.toNat)
 | _=>none
noncomputable def popAt(i:Nat)(t:M (List D)):M D:=mutS i (bnd t λas=>bnd (look i) λl=>bnd (lft (pkF as l)) λd=>bnd (wr i (ersF as)) λ_=>ret d)
theorem IsA.eraseIdx{K:PySem.W.Frag}{I:Hp}:∀{ds:List D}{xs:List V} (n:Nat),IsA K I ds xs->IsA K I (ds.eraseIdx n) (xs.eraseIdx n)
 | [],xs,n,h=>by rw[h.nil_inv];exact IsA.nil
 | d::ds,xs,n,h=>by
  obtain⟨x,r,rfl,h1,h2⟩:=h.cons_inv;cases n with
  | zero=>exact h2
  | succ n=>exact IsA.cons h1 (IsA.eraseIdx n h2)
theorem Kk(hv:PE X (.Name x p1) (tVar i))(ha:AD X B [e] t)(bQ:SF (.Name x p1) "pop" X.env (O1 (.Name x p1) X.env)=O1 (.Name x p1) X.env:=by rfl)(cQ:((Pa aN (g_ [e] X.env)).all (λx=>!x.1)&&(U6 aN (Tq [] X.env)).all (λx=>x.1.isSome)&&decide ([e].length+([]:List S3).length+(if([]:List S3).isEmpty then 0 else 1) < 30))=true:=by rfl)(bR:(bj.endLine == aN.line)=true:=by rfl)(eV:g_ [e] X.env=(false,O1 e X.env)::g_ [] X.env:=by rfl)(bE:(Pa aN (g_ [] X.env)).any (·.1)=false:=by rfl):
  ED X B (.Call (.Attribute (.Name x p1) "pop" bj) [e] [] aN) (popAt i t):=
 PE.imp (z7 Tb PySem.F.slot_list_pop PySem.F.type_list_pop GQ hv ha bQ cQ bR eV bE) λU H Q q=>by
  obtain⟨G,I,Y,d,af,r,e1,k⟩:=q;obtain⟨hm,e1⟩:=tW e1;obtain⟨as,gF,f1,f2⟩:=qT e1;obtain⟨p,xs,h1,h2⟩:=tH hm r;refine⟨_,h1,.inl ⟨rfl,xs,SqL.of h2⟩,G,I,Y,as,gF,r,f1,λvs H1 I1 r1 g1 hd=>?_⟩;obtain⟨l,ac,e2,e3⟩:=qT f2;obtain⟨d',aj,e4,e5⟩:=qT e3;obtain⟨u,aR,e6,e7⟩:=qT e5;obtain⟨e8,rfl⟩:=rp e4;clear e4;cases e7;obtain⟨rfl,p2,c9,ds,rfl,i1,i2,i3⟩:=wz e2 r1;obtain⟨p',bx,cs,es',h4,h5,h6,h7,h8⟩:=wj e6 r1;have hp:p'=p:=by rw[h1] at h4;cases h4;rfl
  subst hp;have dE:p2=p':=by rw[h1] at i1;cases i1;rfl
  subst dE;rw[i2] at h5;cases h5;unfold pkF at e8;split at e8
  ·rename_i n dZ eq;cases eq
   have ok:0<=n/\n < 1000000:=by
    rcases Decidable.em (0<=n/\n < 1000000) with z | z
    ·exact z
    ·rw[if_neg z] at e8;cases e8
   rw[if_pos ok] at e8;obtain⟨y,rfl,hy⟩:=hd.one;rw[qZ hy];obtain⟨v,hv1,hv2⟩:=i3.get e8;cases h7;have lt:n.toNat < c9.length:=(p_.mp hv1).1;exact⟨p2,c9,n,n.toNat,v,rfl,rfl,i2,S8 (by decide) ok.1,Int.lt_of_lt_of_le ok.2 (by decide),PySem.StrLaws.seqIndex_nonneg ok.1 (by omega),hv1,k v _ I1 (h8 _ (h6.eraseIdx _)) g1 hv2⟩
  ·cases e8
end
abbrev IsZip1(h:I_)(z TI TO:l_)(f0 f1:b_):Prop:=
 h.get? z=some { cls:=.type "zip", dict:=none,data:=.fields #[f0,f1,.bool false,.ref TI,.ref TO],slots:=#[] }
section
variable{prog:C_}{w:J_}{E:b_->d_->Prop}{s:d_}{k:Kd}
theorem Mp{o:Obj}{Q:Option Obj->d_->Prop}(ho:s.heap.get? a=some o)(h:Q (some o) s):o_ (s_ prog w) A (loadIfAlive a) Q E s:=λY p _=>by
 have h':Q (s.heap.get? a) s:=by rw[ho];exact h
 exact h'
theorem Fk{ta T:l_}{b:Bool}{R:Bool->d_->Prop}(Z:IsZip1 s.heap z ta aI (PX T) (.bool b))(al:∃o,s.heap.get? T=some o)(r:∀g:I_,IsZip1 g z ta aI (PX T) (.bool true)->I_.SameBut z s.heap g->R false { s with heap:=g }):o_ (s_ prog w) A (Qk (.ref z)) R E s:=by
 obtain⟨oT,hT⟩:=al;refine a_ (OX (i:=0) Z rfl (x:=PX T) rfl (a_ (Mp hT ?_)));rw[if_neg (by simp)];refine a_ (OX (i:=1) Z rfl (x:=.bool b) rfl ?_);cases b with
 | true =>
  rw[if_neg (by decide)];exact c_ (r s.heap Z (I_.SameBut.refl _ _))
 | false =>
  rw[if_pos (by decide)];exact a_ (O9 Z (by simp) λg Z1 b1=>c_ (r g Z1 b1))
theorem AR(ok:KdOk k){ta p q u v T:l_}{xs ys:Array b_}{b:Bool}{Q:PySem.Fin->d_->Prop}(D:Ut z ta aI p q u v)(Z:IsZip1 s.heap z ta aI (PX T) (.bool b))(al:∃o,s.heap.get? T=some o)(Ta:Pd s.heap ta (.ref p) (.ref q))(P:k.it s.heap p u m)(P':k.it s.heap q v n)(qP:k.sq s.heap u xs)(U':k.sq s.heap v ys)(dk:∀x y,xs[m]?=some x->ys[n]?=some y->∀g:I_,Pd g s.heap.objs.size x y->IsZip1 g z ta aI (PX T) (.bool true)->k.it g p u (m+1)/\k.it g q v (n+1) →
   (∀c o,(c≠z/\c≠p/\c≠q)->s.heap.get? c=some o->g.get? c=some o)->Q (.done (.ret (.ref s.heap.objs.size))) { s with heap:=g })(cA:(xs[m]?=none\/ys[n]?=none)->A.handled=none/\∀(g:I_) (x:l_),(∀c o,(c≠z/\c≠p/\c≠q)->s.heap.get? c=some o->g.get? c=some o)->(∃o,g.get? x=some o/\o.cls=.type "StopIteration")->E (.ref x) { s with heap:=g }):
  o_ (s_ prog w) A (P3.«zip.__next__» ⟨[.ref z],[]⟩) Q E s:=by
 refine a_ (PC (a:=(b_.ref z,[])) rfl (a_ (OX (i:=2) Z rfl (x:=.bool false) rfl (a_ (OX (i:=3) Z rfl (x:=.ref ta) rfl (a_ (OV Ta rfl ?_)))))));refine a_ (m:=Qk (.ref z)) (Fk Z al λg1 Z1 b1=>?_);rw[if_neg k_];have f1:∀c o,c≠z->s.heap.get? c=some o->g1.get? c=some o:=λc o ne e=>b1.extBut _ _ ne e
 refine a_ ?_;rw[←RZ,show(#[b_.ref p,b_.ref q]:Array b_).toList=[.ref p,.ref q] from rfl,PZ];refine a_ (a_ (OT (a_ (m:=S4 (.ref p)) ?_)));have P1:=ok.itAt P λo e=>f1 _ o D.i1z e
 have U1:=ok.sqAt qP λo e=>f1 _ o D.l1z e
 cases hx:xs[m]? with
 | none =>
  obtain⟨hh,aM⟩:=cA (.inl hx);exact ok.stop hh P1 U1 hx λg2 x b2 is=>aM g2 x (λc o ne e=>b2 _ _ ne.2.1 (f1 c o ne.1 e)) is
 | some x =>
  refine ok.item P1 U1 hx λg2 P2 b2=>c_ ?_
  dsimp only;refine c_ ?_;have f2:∀c o,c≠p->g1.get? c=some o->g2.get? c=some o:=λc o n2 e=>b2.extBut _ _ n2 e
  dsimp only;rw[PZ];refine a_ (a_ (OT (a_ (m:=S4 (.ref q)) ?_)));have Q2:=ok.itAt P' λo e=>f2 _ o D.i12.symm (f1 _ o D.i2z e)
  have V2:=ok.sqAt U' λo e=>f2 _ o D.l2i1 (f1 _ o D.l2z e)
  cases hy:ys[n]? with
  | none =>
   obtain⟨hh,aM⟩:=cA (.inr hy);exact ok.stop hh Q2 V2 hy λg4 x b4 is=>aM g4 x (λc o ne e=>b4 _ _ ne.2.2 (f2 c o ne.2.1 (f1 c o ne.1 e))) is
  | some y =>
   refine ok.item Q2 V2 hy λg4 Q4 b4=>c_ ?_
   dsimp only;refine c_ ?_;dsimp only;rw[Q7];refine c_ (a_ (Sf (c_ ?_) (by show 2<=x_;rw[Pf];decide)));have same:g4.objs.size=s.heap.objs.size:=b4.1.trans (b2.1.trans b1.1);have Z4:IsZip1 g4 z ta aI (PX T) (.bool true):=b4.extBut _ _ D.i2z.symm (f2 _ _ D.i1z.symm Z1);have T5:Pd (g4.push { cls:=.type "tuple", data:=.seq #[x,y] }) g4.objs.size x y:=t_ _ rfl;show Q (.done (.ret (.ref g4.objs.size))) { s with heap:=g4.push { cls:=.type "tuple", data:=.seq #[x,y] } };rw[same] at T5 ⊢
   exact dk x y hx hy _ T5 (e_ _ Z4) ⟨ok.itAt P2 λo e=>e_ _ (b4.extBut _ _ D.i12 e),ok.itAt Q4 λo e=>e_ _ e⟩
    λc o ne e=>e_ _ (b4.extBut _ _ ne.2.2 (f2 c o ne.2.1 (f1 c o ne.1 e)))
theorem Fg{Q:Option Obj->d_->Prop}(ho:s.heap.get? a=none)(h:Q none s):o_ (s_ prog w) A (loadIfAlive a) Q E s:=λY p _=>by
 have h':Q (s.heap.get? a) s:=by rw[ho];exact h
 exact h'
def ZipN(h:I_)(z TI TO:l_):Prop:=∃cf fb,IsZip1 h z TI TO cf fb/\(cf=.none\/∃(T:l_) (b:Bool),cf=PX T/\fb=.bool b)
theorem CG{ta:l_}(Z:IsZip1 s.heap z ta aI cf fb)(h:cf=.none\/∃(T:l_) (b:Bool),cf=PX T/\fb=.bool b):
  (∀(E:b_->d_->Prop) (R:Bool->d_->Prop),R true s->o_ (s_ prog w) A (Qk (.ref z)) R E s)\/∃(T:l_) (b:Bool),cf=PX T/\fb=.bool b/\∃o,s.heap.get? T=some o:=by
 rcases h with rfl | ⟨T,b,rfl,rfl⟩
 ·exact .inl λE R r=>a_ (OX (i:=0) Z rfl (x:=.none) rfl (c_ r))
 ·cases e:s.heap.get? T with
  | some o=>exact .inr ⟨T,b,rfl,rfl,o,e⟩
  | none =>
   refine .inl λE R r=>a_ (OX (i:=0) Z rfl (x:=PX T) rfl (a_ (Fg e ?_)))
   rw[if_pos (show(none:Option Obj).isNone=true from rfl)];exact c_ r
theorem Ms{ta:l_}{Q:b_->d_->Prop}(Z:IsZip1 s.heap z ta aI cf fb)(h:Q (.ref z) s):o_ (s_ prog w) A (SB (.ref z)) Q E s:=by
 have T:s.TypeIs (.ref z) "zip":=⟨_,Z,rfl⟩;exact Rp T F.slot_zip_iter (ON F.slot_zip_iter T F.entry_zip_iter (c_ (a:=PySem.Fin.done (.ret (.ref z))) ⟨_,rfl, "zip", _,T,PM.lookup,h⟩) (F.args_zip_iter_1 _))
theorem Dv(ok:KdOk k){ta p q u v:l_}{xs ys:Array b_}{c1:b_}{Q:PySem.Fin->d_->Prop}(D:Ut z ta aI p q u v)(Z:IsZip1 s.heap z ta aI cf fb)(fr:∀R:Bool->d_->Prop,R true s->o_ (s_ prog w) A (Qk (.ref z)) R E s)(Ta:Pd s.heap ta (.ref p) (.ref q))(To:Pd s.heap aI c0 c1)(P:k.it s.heap p u m)(P':k.it s.heap q v n)(qP:k.sq s.heap u xs)(U':k.sq s.heap v ys)(dk:∀x y,xs[m]?=some x->ys[n]?=some y->∀g:I_,g.objs.size=s.heap.objs.size+1/\Pd g s.heap.objs.size x y->Tc g z ta aI (PX s.heap.objs.size)->Pd g aI x y->k.it g p u (m+1)/\k.it g q v (n+1) →
   (∀c o,(c≠z/\c≠aI/\c≠p/\c≠q)->s.heap.get? c=some o->g.get? c=some o)->Q (.done (.ret (.ref s.heap.objs.size))) { s with heap:=g })(cA:(xs[m]?=none\/ys[n]?=none)->A.handled=none/\∀(g:I_) (x:l_),(∀c o,(c≠z/\c≠aI/\c≠p/\c≠q)->s.heap.get? c=some o->g.get? c=some o)->(∃o,g.get? x=some o/\o.cls=.type "StopIteration")->E (.ref x) { s with heap:=g }):
  o_ (s_ prog w) A (P3.«zip.__next__» ⟨[.ref z],[]⟩) Q E s:=by
 refine a_ (PC (a:=(b_.ref z,[])) rfl (a_ (OX (i:=2) Z rfl (x:=.bool false) rfl (a_ (OX (i:=3) Z rfl (x:=.ref ta) rfl (a_ (OV Ta rfl ?_)))))));refine a_ (m:=Qk (.ref z)) (fr _ ?_);rw[if_pos rfl];refine a_ (Se (a_ (OX (i:=4) Z rfl (x:=.ref aI) rfl (a_ (O9 Z (by simp) λg1 Z1 b1=>?_)))));replace Z1:IsZip1 g1 z ta aI .ellipsis fb:=Z1
 have fP:∀(g:I_) (x:l_),IsZip1 g z ta aI .ellipsis fb->(∃o,g.get? x=some o/\o.cls=.type "StopIteration")->(∀g':I_,I_.SameBut z g g'->(∃o,g'.get? x=some o/\o.cls=.type "StopIteration")->E (.ref x) { s with heap:=g' }) →
   o_ (s_ prog w) A (Vc (.ref z) 0 .none) (λ_ s'=>E (.ref x) s') E { s with heap:=g }:=λg x Zg is kk=>by
  obtain⟨o,e1,e2⟩:=is;refine O9 Zg (by simp) λg' _ b'=>kk g' b' ⟨o,b'.extBut _ _ (λsame=>?_) e1,e2⟩
  rw[same,Zg] at e1;cases e1;simp at e2
 have f1:∀c o,c≠z->s.heap.get? c=some o->g1.get? c=some o:=λc o ne e=>b1.extBut _ _ ne e
 refine a_ ?_;rw[Ss,Ss,List.zipIdx_nil,PZ];refine a_ (a_ (SJ (a_ (m:=S4 (.ref p)) ?_)));have P1:=ok.itAt P λo e=>f1 _ o D.i1z e
 have U1:=ok.sqAt qP λo e=>f1 _ o D.l1z e
 cases hx:xs[m]? with
 | none =>
  obtain⟨hh,aM⟩:=cA (.inl hx);exact ok.stop hh P1 U1 hx λg2 x b2 is=>fP g2 x (b2 _ _ D.i1z.symm Z1) is λg' b' cT=>aM g' x (λc o ne e=>b'.extBut _ _ ne.1 (b2 _ _ ne.2.2.1 (f1 c o ne.1 e))) cT
 | some x =>
  refine ok.item P1 U1 hx λg2 P2 b2=>c_ ?_
  have gM:Pd g2 aI c0 c1:=b2.extBut _ _ D.TOi1 (f1 _ _ D.TOz To);refine a_ (OV gM rfl (a_ (QG gM λg3 fc b3=>a_ (QH (c_ ?_)))));replace fc:Pd g3 aI x c1:=fc;have f3:∀c o,c≠aI->c≠p->g1.get? c=some o->g3.get? c=some o:=λc o n1 n2 e=>b3.extBut _ _ n1 (b2.extBut _ _ n2 e)
  have Z3:IsZip1 g3 z ta aI .ellipsis fb:=f3 _ _ D.TOz.symm D.i1z.symm Z1;dsimp only;rw[PZ];refine a_ (a_ (SJ (a_ (m:=S4 (.ref q)) ?_)));have Q3:=ok.itAt P' λo e=>f3 _ o D.TOi2.symm D.i12.symm (f1 _ o D.i2z e)
  have V3:=ok.sqAt U' λo e=>f3 _ o D.l2TO D.l2i1 (f1 _ o D.l2z e)
  cases hy:ys[n]? with
  | none =>
   obtain⟨hh,aM⟩:=cA (.inr hy);exact ok.stop hh Q3 V3 hy λg4 x b4 is=>fP g4 x (b4 _ _ D.i2z.symm Z3) is λg' b' cT=>aM g' x (λc o ne e=>b'.extBut _ _ ne.1 (b4 _ _ ne.2.2.2 (f3 c o ne.2.1 ne.2.2.1 (f1 c o ne.1 e)))) cT
  | some y =>
   refine ok.item Q3 V3 hy λg4 Q4 b4=>c_ ?_
   have gN:Pd g4 aI x c1:=b4.extBut _ _ D.TOi2 fc;refine a_ (OV gN rfl (a_ (QG gN λg5 dH b5=>a_ (QH (c_ ?_)))));replace dH:Pd g5 aI x y:=dH;have f5:∀c o,c≠aI->c≠q->g3.get? c=some o->g5.get? c=some o:=λc o n1 n2 e=>b5.extBut _ _ n1 (b4.extBut _ _ n2 e)
   dsimp only;rw[Q7];refine c_ (a_ (OV dH rfl (a_ (Sf ?_))));have same:g5.objs.size=s.heap.objs.size:=b5.1.trans (b4.1.trans (b3.1.trans (b2.1.trans b1.1)));have Z5:IsZip1 g5 z ta aI .ellipsis fb:=f5 _ _ D.TOz.symm D.i2z.symm Z3;have far:g5.objs.size≠z:=Q_ (H_ Z5);have Z6:IsZip1 (g5.push { cls:=.type "tuple", data:=.seq #[x,y] }) z ta aI .ellipsis fb:=e_ _ Z5;refine a_ (m:=Uu (.ref z) (.ref g5.objs.size)) (a_ (O9 Z6 (by simp) λg7 Z7 b7=>?_));refine O9 Z7 (by simp) λg8 Z8 b8=>c_ ?_
   replace Z8:Tc g8 z ta aI (PX g5.objs.size):=Z8;have f8:∀c o,c≠z->g5.get? c=some o->g8.get? c=some o:=λc o ne e=>b8.extBut _ _ ne (b7.extBut _ _ ne (e_ _ e))
   have T8:Pd g8 g5.objs.size x y:=b8.extBut _ _ far (b7.extBut _ _ far (t_ _ rfl));have cU:g8.objs.size=g5.objs.size+1:=b8.1.trans (b7.1.trans (P5 ..));show Q (.done (.ret (.ref g5.objs.size))) { s with heap:=g8 };rw[same] at Z8 T8 cU ⊢
   exact dk x y hx hy g8 ⟨cU,T8⟩ Z8 (f8 _ _ D.TOz dH) ⟨ok.itAt P2 λo e=>f8 _ o D.i1z (f5 _ o D.TOi1.symm D.i12 (b3.extBut _ _ D.TOi1.symm e)),ok.itAt Q4 λo e=>f8 _ o D.i2z (b5.extBut _ _ D.TOi2.symm e)⟩
    λc o ne e=>f8 c o ne.1 (f5 c o ne.2.1 ne.2.2.2 (f3 c o ne.2.1 ne.2.2.1 (f1 c o ne.1 e)))
end
section
variable{k:Kd}
theorem J4{P:C_}{w:J_}{K:PySem.W.Frag}{x1:Str}{rd:Hp->l_->List V->Prop}(ok:KdOk k)(kr:KdRd K k rd){TI TO i1 i2:l_}(D:Ut z TI TO i1 i2 l1 l2):
  Turn P w K (.Name x1 tp) (Itz rd l1 l2) [z,TI,TO,i1,i2] z (λi h=>ZipN h z TI TO/\Pd h TI (.ref i1) (.ref i2)/\(∃a b,Pd h TO a b)/\k.it h i1 l1 i/\k.it h i2 l2 i) where
 mem:=by simp
 obj:=λi h st b hb=>by
  obtain⟨⟨cf,fb,a1,_⟩,a2,⟨x,y,a3⟩,a4,a5⟩:=st;rw[r_,r_,r_,r_,n_] at hb
  rcases hb with rfl | rfl | rfl | rfl | rfl
  ·exact⟨_,a1,λv q=>by cases(show fields _=Rx v from q)⟩
  ·exact⟨_,a2,λv q=>by cases(show seq _ _=Rx v from q)⟩
  ·exact⟨_,a3,λv q=>by cases(show seq _ _=Rx v from q)⟩
  ·exact ok.itObj a4
  ·exact ok.itObj a5
 keep:=λi h h' st kk=>by
  obtain⟨⟨cf,fb,a1,a0⟩,a2,⟨x,y,a3⟩,a4,a5⟩:=st;exact⟨⟨cf,fb,kk _ (by simp) _ a1,a0⟩,kk _ (by simp) _ a2,⟨x,y,kk _ (by simp) _ a3⟩,ok.itAt a4 λo e=>kk _ (by simp) o e,ok.itAt a5 λo e=>kk _ (by simp) o e⟩
 item:=by
  intro X hP hw hK hc i aa s U H E I hf st hg;subst hP hw;obtain⟨⟨cf,fb,a1,a0⟩,a2,⟨av,bv,a3⟩,a4,a5⟩:=st;obtain⟨xs,ys,x,y,g1,g2,g3,g4⟩:=hg;obtain⟨ae,r1,t1⟩:=kr.of hK I g1;obtain⟨aY,r2,t2⟩:=kr.of hK I g2;obtain⟨u1,e1,e2⟩:=r1.get g3;obtain⟨u2,e3,e4⟩:=r2.get g4;have hT:s.TypeIs (.ref z) "zip":=⟨_,a1,rfl⟩;have f1:ae.toArray[i]?=some u1:=by simpa using e1
  have f2:aY.toArray[i]?=some u2:=by simpa using e3
  have lt:∀{b o},s.heap.get? b=some o->b≠s.heap.objs.size:=λ{b o} e=>OI (H_ e)
  have aM:∀h':I_,ZipN h' z TI TO->Pd h' s.heap.objs.size u1 u2->(∃a b,Pd h' TO a b)->k.it h' i1 l1 (i+1)/\k.it h' i2 l2 (i+1)->(∀c o,(c≠z/\c≠TO/\c≠i1/\c≠i2)->s.heap.get? c=some o->h'.get? c=some o) →
    o_ (s_ X.prog X.w) X.A (QX (.Name x1 tp) (.ref z) (.ref s.heap.objs.size)) (λ_ s2=>∃x H',Inv X aa U H' s2/\RelV x (.ref s.heap.objs.size)/\(Itz rd l1 l2).yld i H x H'/\(ZipN s2.heap z TI TO/\Pd s2.heap TI (.ref i1) (.ref i2)/\(∃a b,Pd s2.heap TO a b)/\k.it s2.heap i1 l1 (i+1)/\k.it s2.heap i2 l2 (i+1))/\∀b∈[z,TI,TO,i1,i2],H' b=none) E { s with heap:=h' }:=λh' b1 b5 b2 bb b7=>by
   refine c_ ?_
   have kk:∀b u,b∉[z,TI,TO,i1,i2]->s.heap.get? b=some u->h'.get? b=some u:=λb u hb e=>by
    simp only[r_,QI,or_false,not_or] at hb;exact b7 b u ⟨hb.1,hb.2.2.1,hb.2.2.2.1,hb.2.2.2.2⟩ e
   have I1:Inv X aa U (upd H s.heap.objs.size (.tup [x,y])) { s with heap:=h' }:=ye (t':=s.toks) I hf kk (v_ _) ⟨by show 2<=x_;rw[Pf];decide,[u1,u2],.cons e2 (.cons e4 .nil),⟨_,b5,rfl,_,rfl⟩⟩;have fr:=I.hok.fresh (v_ s.heap.objs.size);refine⟨.ref s.heap.objs.size,_,I1,rfl,⟨s.heap.objs.size,x,y,fr,rfl,rfl,λzs hz=>by rw[kr.inj hK I hz g1];exact g3,λzs hz=>by rw[kr.inj hK I hz g2];exact g4⟩,⟨b1,b7 _ _ ⟨D.TIz,D.TITO,D.TIi1,D.TIi2⟩ a2,b2,bb.1,bb.2⟩,λb hb=>?_⟩;have gQ:=(hf b hb).1
   have nb:b≠s.heap.objs.size:=by
    rw[r_,r_,r_,r_,n_] at hb
    rcases hb with rfl | rfl | rfl | rfl | rfl
    ·exact lt a1
    ·exact lt a2
    ·exact lt a3
    ·exact OI (ok.itLt a4)
    ·exact OI (ok.itLt a5)
   rw[qX nb];exact gQ
  have no:¬(ae.toArray[i]?=none\/aY.toArray[i]?=none):=λnon=>by
   rw[f1,f2] at non
   rcases non with non | non<;>cases non
  unfold QF;refine a_ (Qb (OM (name:=Re "__next__") hT PM (ON PM hT RA ?_ (Ri _))))
  rcases CG a1 a0 with fr | ⟨T,b,rfl,rfl,al⟩
  ·refine Dv ok D a1 (fr _) a2 a3 a4 a5 t1 t2 (λy1 y2 k1 k2 h' ⟨_,b5⟩ b1 b2 bb b7=>?_) λnon=>absurd non no
   rw[f1] at k1;cases k1;rw[f2] at k2;cases k2;exact⟨_,rfl,c_ ⟨.ref s.heap.objs.size,rfl,aM h' ⟨_,_,b1,.inr ⟨_,false,rfl,rfl⟩⟩ b5 ⟨_,_,b2⟩ bb b7⟩⟩
  ·refine AR ok D a1 al a2 a4 a5 t1 t2 (λy1 y2 k1 k2 h' b5 b1 bb b7=>?_) λnon=>absurd non no
   rw[f1] at k1;cases k1;rw[f2] at k2;cases k2;exact⟨_,rfl,c_ ⟨.ref s.heap.objs.size,rfl,aM h' ⟨_,_,b1,.inr ⟨_,true,rfl,rfl⟩⟩ b5 ⟨_,_,b7 _ _ ⟨D.TOz,D.TOi1,D.TOi2⟩ a3⟩ bb λc o ne e=>b7 c o ⟨ne.1,ne.2.2⟩ e⟩⟩
 done:=by
  intro X hP hw hK hc i aa s U H E I hf st hg;subst hP hw;obtain⟨⟨cf,fb,a1,a0⟩,a2,⟨av,bv,a3⟩,a4,a5⟩:=st;obtain⟨xs,ys,g1,g2,g3⟩:=hg;obtain⟨ae,r1,t1⟩:=kr.of hK I g1;obtain⟨aY,r2,t2⟩:=kr.of hK I g2;have cG:=r1.length;have cE:=r2.length;have hT:s.TypeIs (.ref z) "zip":=⟨_,a1,rfl⟩
  have no:∀y1 y2,ae.toArray[i]?=some y1->aY.toArray[i]?=some y2->False:=λy1 y2 k1 k2=>by
   have m1:=(N_.mp k1).1;have m2:=(N_.mp k2).1;simp at m1 m2;omega
  have aM:∀(h':I_) (e:l_),(∀c o,(c≠z/\c≠TO/\c≠i1/\c≠i2)->s.heap.get? c=some o->h'.get? c=some o)->(∃o,h'.get? e=some o/\o.cls=.type "StopIteration") →
    o_ (s_ X.prog X.w) X.A (Vj (.ref e) (.type "StopIteration") >>= λb=>if b=true then pure none else throw (.ref e)) (λ(r:Option b_) s1=>r=none/\Inv X aa U H s1) E { s with heap:=h' }:=λh' e hk he=>by
   obtain⟨o,ho,gR⟩:=he;refine a_ (Pw (T:= "StopIteration") (b:=true) ⟨o,ho,gR⟩ Rj ?_);refine c_ ⟨rfl,zA (t':=s.toks) I hf λb u hb e=>?_⟩;simp only[r_,QI,or_false,not_or] at hb;exact hk b u ⟨hb.1,hb.2.2.1,hb.2.2.2.1,hb.2.2.2.2⟩ e
  unfold QF;refine a_ (Qb (OM (name:=Re "__next__") hT PM (ON PM hT RA ?_ (Ri _))))
  rcases CG a1 a0 with fr | ⟨T,b,rfl,rfl,al⟩
  ·exact Dv ok D a1 (fr _) a2 a3 a4 a5 t1 t2 (λy1 y2 k1 k2=>(no y1 y2 k1 k2).elim) λ_=>⟨I.ok.hd hc,λh' e hk he=>aM h' e hk he⟩
  ·exact AR ok D a1 al a2 a4 a5 t1 t2 (λy1 y2 k1 k2=>(no y1 y2 k1 k2).elim) λ_=>⟨I.ok.hd hc,λh' e hk he=>aM h' e (λc o ne=>hk c o ⟨ne.1,ne.2.2⟩) he⟩
 self:=λA i s Q E st h=>by
  obtain⟨⟨cf,fb,a1,_⟩,_⟩:=st;exact Ms a1 h
end
section
variable{B:BB}{a b c:OU}{es:List OU}{ga gb gc:M D}
theorem Av{k:Kd}{rd:Hp->l_->List V->Prop}(ok:KdOk k)(kr:KdRd X.K k rd){x1:Str}{H:Hp}{s:d_}{R:It->Hp->Prop}{ys:List V}(I:Inv X aa U H s)(h1:rd H l1 xs)(h2:rd H l2 ys)(q:R (Itz rd l1 l2) H):
  o_ (s_ X.prog X.w) X.A (call (.type "zip") [.ref l1,.ref l2]) (λv s1=>o_ (s_ X.prog X.w) X.A (SB v) (PIE X aa U (.Name x1 tp) R) X.xe s1) X.xe s:=by
 obtain⟨ae,r1,t1⟩:=kr.of rfl I h1;obtain⟨aY,r2,t2⟩:=kr.of rfl I h2;refine A7 ok t1 t2 λn h' hn a1 a2 a3 a4 a5 a6=>SS a1 ?_
 subst hn;have I1:Inv X aa U H { s with heap:=h' }:=I.kept (t':=s.toks) a6;refine⟨s.heap.objs.size+4,[s.heap.objs.size+4,s.heap.objs.size+2,s.heap.objs.size+3,s.heap.objs.size,s.heap.objs.size+1],_,_,H,rfl,I1,J4 ok kr (zipApart_new (ok.sqLt t1) (ok.sqLt t2)),⟨⟨_,_,a1,.inl rfl⟩,a2,⟨_,_,a3⟩,a4,a5⟩,λb hb=>?_,q⟩;rw[r_,r_,r_,r_,n_] at hb;have up:∀n,FpOk X aa H (s.heap.objs.size+n):=λn=>I.fpOk (Pz _ _) (I.hok.fresh (Pz _ _))
 rcases hb with rfl | rfl | rfl | rfl | rfl
 ·exact up 4
 ·exact up 2
 ·exact up 3
 ·exact up 0
 ·exact up 1
theorem F7{x1:Str}{p:Pos}(hg:Gl X "zip")(hm:X.mg "zip"=none)(ha:PA X [a,b] ta)(hs:g_ [a,b] X.env=[(false,O1 a X.env),(false,O1 b X.env)]:=by rfl)(bD:g_ [b] X.env=[(false,O1 b X.env)]:=by rfl):
  PI X (.Name x1 tp) (.Call (.Name "zip" p) [a,b] [] pos) (iZip X.K ta):=by
 intro aa s U H R I h;refine Vo (sw I hg hm boot_zip (OJ (thn (ha pos aa s U H _ I h) λus s1 ⟨vs,H1,I1,r1,q1⟩=>?_) (by rw[hs,bD]) (by rw[bD];rfl)))
 rcases q1 with⟨l1,l2,xs,ys,e,h1,h2,q⟩ | ⟨l1,l2,xs,ys,e,h1,h2,q⟩
 ·subst e;obtain⟨u1,u2,rfl,e1,e2⟩:=r1.two;cases e1;cases e2;exact Av yw (xT _) I1 h1 h2 q
 ·subst e;obtain⟨u1,u2,rfl,e1,e2⟩:=r1.two;cases e1;cases e2;exact Av yO (z9 _) I1 h1 h2 q
theorem KB{x1:Str}{p:Pos}{t:M (List D)}(hg:Gl X "zip")(hm:X.mg "zip"=none)(ha:AD X B [a,b] t)(hs:g_ [a,b] X.env=[(false,O1 a X.env),(false,O1 b X.env)]:=by rfl)(bD:g_ [b] X.env=[(false,O1 b X.env)]:=by rfl):
  ITD X B (.Name x1 tp) (.Call (.Name "zip" p) [a,b] [] pos) (fn1 zipI t):=PI.imp (F7 hg hm ha hs bD) λU H R q=>by
 obtain⟨G,I,Y,ds,af,r,e1,k⟩:=q;obtain⟨d,ac,e2,e3⟩:=qT e1;obtain⟨e4,rfl⟩:=rp e3;refine⟨G,I,Y,d,_,r,e2,λvs H1 I1 r1 g1 hd=>?_⟩;unfold zipI at e4;split at e4
 ·cases e4;obtain⟨x,y,rfl,hx,hy⟩:=hd.two;obtain⟨l1,xs,rfl,h1,h2⟩:=rl hx;obtain⟨l2,ys,rfl,h3,h4⟩:=rl hy;exact .inl ⟨l1,l2,xs,ys,rfl,(Same.rdK r1.iH h1).sq,(Same.rdK r1.iH h3).sq,k _ _ _ r1 g1 (vC (λs h=>by rcases h with h | h;exact .inl (Same.rd s h);exact .inr h) (λ_=>.inr trivial) h1.sq h3.sq h2 h4)⟩
 ·cases e4;obtain⟨x,y,rfl,hx,hy⟩:=hd.two;obtain⟨l1,xs,rfl,h1,h2⟩:=rm hx;obtain⟨l2,ys,rfl,h3,h4⟩:=rm hy;exact .inr ⟨l1,l2,xs,ys,rfl,Same.sqT r1.iH h1,Same.sqT r1.iH h3,k _ _ _ r1 g1 (vC (λs h=>Same.sqT s h) (λ_=>.inr trivial) h1 h3 h2 h4)⟩
 ·cases e4
end
end DL
namespace DL
open PySem L2
variable {α β:Type}
def wp(m:M α)(Y:Gm)(Q:α->Gm->Prop):Prop:=∃a af,m Y=some (a,af)/\Q a af
def wpF(g:List R->Option (R×List R))(rs:List R)(Q:R->List R->Prop):Prop:=∃r aL,g rs=some (r,aL)/\Q r aL
def wpB(g:List R->Option (R×List R))(c ds:List D)(Q:R->List D->Prop):Prop:=∃r c',bcF g c ds=some (r,c')/\Q r c'
section
variable{Q:α->Gm->Prop}{QD:D->Gm->Prop}{QL:List D->Gm->Prop}{QB:Bool->Gm->Prop}{QS:Fl->Gm->Prop}{QU:Unit->Gm->Prop}
theorem wp.mono{m:M α}{Q':α->Gm->Prop}(h:wp m Y Q)(f:∀a Y,Q a Y->Q' a Y):wp m Y Q':=by
 obtain⟨a,af,e,q⟩:=h;exact⟨a,af,e,f _ _ q⟩
@[simp ↓] theorem uk{a:α}:wp (ret a) Y Q↔Q a Y:=by
 constructor
 ·rintro⟨b,af,e,q⟩;cases e;exact q
 ·intro q;exact⟨_,_,rfl,q⟩
@[simp ↓] theorem rF{β:Type}{m:M β}{f:β->M α}:wp (bnd m f) Y Q↔wp m Y λb ac=>wp (f b) ac Q:=by
 constructor
 ·rintro⟨a,af,e,q⟩;obtain⟨b,ac,e1,e2⟩:=qT e;exact⟨b,ac,e1,a,af,e2,q⟩
 ·rintro⟨b,ac,e1,a,af,e2,q⟩;exact⟨a,af,by unfold bnd;rw[e1];exact e2,q⟩
@[simp ↓] theorem Je{a:α}:wp (lft (some a)) Y Q↔Q a Y:=by
 constructor
 ·rintro⟨b,af,e,q⟩;cases e;exact q
 ·intro q;exact⟨_,_,rfl,q⟩
theorem zS{o:Option α}{a:α}(h:o=some a):wp (lft o) Y Q↔Q a Y:=by rw[h,Je]
@[simp ↓] theorem Nf:wp (nm i) Y QD↔match Y[i]? with
  | some (some (.val d))=>QD d Y
  | some (some (.own ds))=>QD (.lst ds) (Y.set i (some (.val (.lst ds))))
  | some (some (.fro ds))=>QD (.lst ds) Y
  | _=>False:=by
 unfold wp nm
 rcases e:Y[i]? with _ | _ | r
 ·simp
 ·simp
 ·cases r<;>simp<;>exact⟨λ⟨_,_,⟨h1,h2⟩,q⟩=>by subst h1;subst h2;exact q,λq=>⟨_,_,⟨rfl,rfl⟩,q⟩⟩
@[simp ↓] theorem Nb{F:D->D->Option α}{a b:M D}:wp (op2 F a b) Y Q↔wp a Y λx ac=>wp b ac λy aj=>wp (lft (F x y)) aj Q:=by simp[op2]
@[simp ↓] theorem OB{F:List D->Option α}{t:M (List D)}:wp (fn1 F t) Y Q↔wp t Y λds ac=>wp (lft (F ds)) ac Q:=by simp[fn1]
@[simp ↓] theorem Nn:wp nilA Y QL↔QL [] Y:=by simp[nilA]
@[simp ↓] theorem NL{g:M D}{t:M (List D)}:wp (consA g t) Y QL↔wp g Y λd ac=>wp t ac λds aj=>QL (d::ds) aj:=by simp[consA]
@[simp ↓] theorem Np{t:M (List D)}:wp (tupA t) Y QD↔wp t Y λds ac=>wp (lft (if ds.length<=lim then some (.tup ds) else none)) ac QD:=by simp[tupA]
@[simp ↓] theorem NC{t:M (List D)}:wp (lstA t) Y QL↔wp t Y λds ac=>wp (lft (if ds.length<=lim then some ds else none)) ac QL:=by simp[lstA]
@[simp ↓] theorem Mz{t:M (List D)}:wp (frz t) Y QD↔wp t Y λds ac=>QD (.lst ds) ac:=by simp[frz]
@[simp ↓] theorem M4{g:M D}:wp (tst g) Y QB↔wp g Y λd ac=>wp (lft (asB d)) ac QB:=by simp[tst]
@[simp] theorem Oc{b:Bool}:asB (.bl b)=some b:=rfl
@[simp] theorem N2{b:Int}:asI (.int b)=some b:=rfl
@[simp ↓] theorem Nj{F:D->D->Option D}{a b c:M D}:wp (chn F F' a b c) Y QD↔wp a Y λx ac=>wp b ac λy aj=>wp (lft (F x y)) aj λz aR=>wp (lft (asB z)) aR λk aW=>if k=true then wp c aW λw dY=>wp (lft (F' y w)) dY QD else QD (.bl false) aW:=by
 simp only[chn,rF]
 constructor<;>(intro h;refine h.mono λx ac h=>h.mono λy aj h=>h.mono λz aR h=>h.mono λk aW h=>?_)<;>(cases k<;>simpa using h)
@[simp ↓] theorem N1{a b:M Bool}:wp (andT a b) Y QB↔wp a Y λk ac=>if k=true then wp b ac QB else QB false ac:=by
 simp only[andT,rF]
 constructor<;>(intro h;refine h.mono λk ac h=>?_)<;>(cases k<;>simpa using h)
@[simp ↓] theorem ME{a b:M Bool}:wp (orT a b) Y QB↔wp a Y λk ac=>if k=true then QB true ac else wp b ac QB:=by
 simp only[orT,rF]
 constructor<;>(intro h;refine h.mono λk ac h=>?_)<;>(cases k<;>simpa using h)
@[simp ↓] theorem NR{a:M Bool}:wp (notT a) Y QB↔wp a Y λk ac=>QB (!k) ac:=by simp[notT]
@[simp ↓] theorem MR{a b:M D}:wp (andV a b) Y QD↔wp a Y λd ac=>wp (lft (asB d)) ac λk aj=>if k=true then wp b aj QD else QD (.bl false) aj:=by
 simp only[andV,rF]
 constructor<;>(intro h;refine h.mono λd ac h=>h.mono λk aj h=>?_)<;>(cases k<;>simpa using h)
@[simp ↓] theorem OE{c:M Bool}{a b:M D}:wp (ifV c a b) Y QD↔wp c Y λk ac=>if k=true then wp a ac QD else wp b ac QD:=by
 simp only[ifV,rF]
 constructor<;>(intro h;refine h.mono λk ac h=>?_)<;>(cases k<;>simpa using h)
theorem Cb{a b:M Fl}:wp (seqS a b) Y QS↔wp a Y λf ac=>match f with
  | .nx=>wp b ac QS
  | .rt r=>QS (.rt r) ac
  | .bk=>QS .bk ac
  | .ct=>QS .ct ac:=by
 simp only[seqS,rF]
 constructor<;>(intro h;refine h.mono λf ac h=>?_)<;>(cases f<;>simpa using h)
@[simp ↓] theorem NI{a:M D}:wp (dropS a) Y QS↔wp a Y λ_ ac=>QS .nx ac:=by simp[dropS]
@[simp ↓] theorem Gx{a:M D}:wp (retS a) Y QS↔wp a Y λd ac=>QS (.rt (.val d)) ac:=by simp[retS]
@[simp ↓] theorem NN{a:M (List D)}:wp (retO a) Y QS↔wp a Y λd ac=>QS (.rt (.own d)) ac:=by simp[retO]
@[simp ↓] theorem DC{c:M Bool}{a b:M Fl}:wp (ifS c a b) Y QS↔wp c Y λk ac=>if k=true then wp a ac QS else wp b ac QS:=by
 simp only[ifS,rF]
 constructor<;>(intro h;refine h.mono λk ac h=>?_)<;>(cases k<;>simpa using h)
@[simp ↓] theorem Gj{q:R}:wp (putS i q) Y QU↔i < Y.length/\QU () (Y.set i (some q)):=by
 unfold wp putS;constructor
 ·rintro⟨a,af,e,h⟩;obtain⟨h1,h2⟩:=rJ e;cases h2;exact⟨h1,h⟩
 ·rintro⟨h1,h2⟩;exact⟨(),_,by rw[if_pos h1],h2⟩
@[simp ↓] theorem M':wp (tgN i d) Y QU↔i < Y.length/\QU () (Y.set i (some (.val d))):=by simp[tgN]
@[simp ↓] theorem NO:wp (tgNil []) Y QU↔QU () Y:=by simp[tgNil]
@[simp ↓] theorem N5{f:D->M Unit}{t:List D->M Unit}:wp (tgCons f t (d::ds)) Y QU↔wp (f d) Y λ_ ac=>wp (t ds) ac QU:=by simp[tgCons]
@[simp ↓] theorem MU{t:List D->M Unit}:wp (tgTup n t (.tup ds)) Y QU↔ds.length=n/\wp (t ds) Y QU:=by
 unfold tgTup;by_cases h:ds.length=n
 ·simp[h]
 ·simp only[h,if_false,false_and,iff_false];rintro⟨_,_,e,_⟩;cases e
@[simp ↓] theorem N7{g:M D}{f:D->M Unit}:wp (asgS g f) Y QS↔wp g Y λd ac=>wp (f d) ac λ_ aj=>QS .nx aj:=by simp[asgS]
@[simp ↓] theorem xa{g:M D}:wp (setV i g) Y QS↔wp g Y λd ac=>i < ac.length/\QS .nx (ac.set i (some (.val d))):=by simp[setV]
@[simp ↓] theorem Ov{g:M (List D)}:wp (setO i g) Y QS↔wp g Y λd ac=>i < ac.length/\QS .nx (ac.set i (some (.own d))):=by simp[setO]
@[simp ↓] theorem tV{m:M α}:wp (mutS i m) Y Q↔isMut Y i=true/\wp m Y Q:=by
 unfold mutS wp;by_cases h:isMut Y i=true
 ·simp[h]
 ·simp[h]
@[simp ↓] theorem Nc:wp (wr i F) Y QU↔match Y[i]? with
  | some (some (.own ds))=>∃es,F ds=some es/\QU () (Y.set i (some (.own es)))
  | some (some (.bor ds))=>∃es,F ds=some es/\QU () (Y.set i (some (.bor es)))
  | _=>False:=by
 unfold wp wr
 rcases e:Y[i]? with _ | _ | r
 ·simp
 ·simp
 ·cases r with
  | val d=>simp
  | fro d=>simp
  | tfr d=>simp
  | dic d=>simp
  | own ds =>
   rcases he:F ds with _ | es
   ·simp[he]
   ·simp[he];exact⟨λ⟨_,q⟩=>q,λq=>⟨(),q⟩⟩
  | bor ds =>
   rcases he:F ds with _ | es
   ·simp[he]
   ·simp[he];exact⟨λ⟨_,q⟩=>q,λq=>⟨(),q⟩⟩
@[simp ↓] theorem MP{g:M D}:wp (appS i g) Y QS↔isMut Y i=true/\wp g Y λd ac=>wp (wr i (appF d)) ac λ_ aj=>QS .nx aj:=by simp only[appS,tV,rF,uk]
@[simp ↓] theorem MF{g:M D}:wp (extS i g) Y QS↔isMut Y i=true/\wp g Y λd ac=>wp (wr i (extF d)) ac λ_ aj=>QS .nx aj:=by simp only[extS,tV,rF,uk]
@[simp ↓] theorem Ni{gi:M D}:wp (stS i gi gv) Y QS↔wp gv Y λd ac=>isMut ac i=true/\wp gi ac λn aj=>wp (lft (asI n)) aj λk aR=>wp (wr i (stF k d)) aR λ_ aW=>QS .nx aW:=by simp only[stS,tV,rF,uk]
@[simp ↓] theorem NQ:wp (look i) Y QD↔match Y[i]? with
  | some (some (.own ds))=>QD (.lst ds) Y
  | some (some (.bor ds))=>QD (.lst ds) Y
  | _=>False:=by
 unfold wp look
 rcases e:Y[i]? with _ | _ | r
 ·simp
 ·simp
 ·cases r<;>simp<;>exact⟨λ⟨_,_,⟨h1,h2⟩,q⟩=>by subst h1;subst h2;exact q,λq=>⟨_,_,⟨rfl,rfl⟩,q⟩⟩
@[simp ↓] theorem NS{g:M D}:wp (atN i g) Y QD↔isMut Y i=true/\wp g Y λn ac=>wp (look i) ac λl aj=>wp (lft (ixF l n)) aj QD:=by simp only[atN,tV,rF]
@[simp ↓] theorem Na:wp (lenN i) Y QD↔wp (look i) Y λl aj=>wp (lft (lenF [l])) aj QD:=by simp only[lenN,rF]
@[simp ↓] theorem MM{g:M D}:wp (cmpN neg i g) Y QD↔isMut Y i=true/\wp g Y λn ac=>wp (look i) ac λl aj=>wp (lft (eqF neg l n)) aj QD:=by simp only[cmpN,tV,rF]
@[simp ↓] theorem Of{g:M D}{QO:Option Int->Gm->Prop}:wp (prt g) Y QO↔wp g Y λd ac=>wp (lft (asI d)) ac λi aj=>QO (some i) aj:=by simp[prt]
@[simp ↓] theorem Nw{F:D->Option Int->Option Int->Option α}{g:M D}:wp (sl3 F g gl gh) Y Q↔wp g Y λd ac=>wp gl ac λl aj=>wp gh aj λh aR=>wp (lft (F d l h)) aR Q:=by simp[sl3]
@[simp ↓] theorem MO{g:M D}:wp (itS g) Y QL↔wp g Y λd ac=>wp (lft (seqI d)) ac QL:=by simp[itS]
@[simp ↓] theorem EB:wp (forS it aE body) Y QS↔wp it Y λds ac=>wp (forM aE body ds) ac QS:=by simp[forS]
@[simp ↓] theorem MQ{g:List R->Option (R×List R)}{t:M (List D)}{QR:R->Gm->Prop}:wp (callB i g t) Y QR↔isMut Y i=true/\wp t Y λds ac=>match ac[i]? with
  | some (some (.own c))=>wpB g c ds λr c'=>QR r (ac.set i (some (.own c')))
  | some (some (.bor c))=>wpB g c ds λr c'=>QR r (ac.set i (some (.bor c')))
  | _=>False:=by
 simp only[callB,tV,rF];refine and_congr_right λ_=>?_
 have key:∀(ds:List D) (ac:Gm),wp (λY:Gm=>match Y[i]? with
   | some (some (.own c))=>match bcF g c ds with
    | some (r,c')=>some (r,Y.set i (some (.own c')))
    | none=>none
   | some (some (.bor c))=>match bcF g c ds with
    | some (r,c')=>some (r,Y.set i (some (.bor c')))
    | none=>none
   | _=>none) ac QR↔(match ac[i]? with
  | some (some (.own c))=>wpB g c ds λr c'=>QR r (ac.set i (some (.own c')))
  | some (some (.bor c))=>wpB g c ds λr c'=>QR r (ac.set i (some (.bor c')))
  | _=>False):=by
  intro ds ac;unfold wp wpB;dsimp only
  rcases e:ac[i]? with _ | _ | r
  ·simp
  ·simp
  ·cases r with
   | val d=>simp
   | fro d=>simp
   | tfr d=>simp
   | dic d=>simp
   | own c =>
    rcases he:bcF g c ds with _ | ⟨r,c'⟩
    ·simp[he]
    ·simp only[he];constructor
     ·rintro⟨a,b,h,q⟩;cases h;exact⟨_,_,rfl,q⟩
     ·rintro⟨a,b,h,q⟩;cases h;exact⟨_,_,rfl,q⟩
   | bor c =>
    rcases he:bcF g c ds with _ | ⟨r,c'⟩
    ·simp[he]
    ·simp only[he];constructor
     ·rintro⟨a,b,h,q⟩;cases h;exact⟨_,_,rfl,q⟩
     ·rintro⟨a,b,h,q⟩;cases h;exact⟨_,_,rfl,q⟩
 constructor
 ·intro h;exact h.mono λds ac h=>(key ds ac).mp h
 ·intro h;exact h.mono λds ac h=>(key ds ac).mpr h
@[simp ↓] theorem MI{g:List R->Option (R×List R)}{t:M (List D)}:wp (cbV i g t) Y QD↔wp (callB i g t) Y λr ac=>wp (lft (asV r)) ac QD:=by simp only[cbV,rF]
@[simp ↓] theorem Nu{g:List R->Option (R×List R)}{t:M (List D)}:wp (cbO i g t) Y QL↔wp (callB i g t) Y λr ac=>wp (lft (asO r)) ac QL:=by simp only[cbO,rF]
@[simp] theorem Oa:asV (.val d)=some d:=rfl
@[simp] theorem MY{d:List D}:asO (.own d)=some d:=rfl
theorem Di(J:Nat->Gm->Prop)(h0:J 0 Y)(hs:∀(i:Nat) (d:D) (Y:Gm),ds[i]?=some d->J i Y->wp (aE d) Y λ_ ac=>wp body ac λf aj=>match f with
   | .nx=>J (i+1) aj
   | .ct=>J (i+1) aj
   | .bk=>QS .nx aj
   | .rt r=>QS (.rt r) aj)(hd:∀Y,J ds.length Y->QS .nx Y):wp (forM aE body ds) Y QS:=by
 have key:∀(n:Nat) (es:List D) (Y:Gm) (i:Nat),es.length=n->ds.drop i=es->i<=ds.length->J i Y->wp (forM aE body es) Y QS:=by
  intro n
  induction n with
  | zero =>
   intro es Y i hl he hi hj;have:es=[]:=O8.mp hl;subst this
   have bX:i=ds.length:=by
    have:=congrArg length he;rw[RJ] at this;simp at this;omega
   subst bX;exact⟨_,_,rfl,hd Y hj⟩
  | succ n ih =>
   intro es Y i hl he hi hj;cases es with
   | nil=>simp at hl
   | cons d es =>
    have bB:i < ds.length:=by
     have:=congrArg length he;rw[RJ,OQ] at this;omega
    have o4:ds.drop i=ds[i]::ds.drop (i+1):=O3 bB;rw[o4] at he;injection he with e1 e2
    have cg:ds[i]?=some d:=by rw[f_ bB,e1]
    have step:=hs i d Y cg hj;rw[forM,rF];refine step.mono λ_ ac h1=>?_
    rw[rF];refine h1.mono λf aj h2=>?_
    cases f with
    | nx=>exact ih es aj (i+1) (by simpa using hl) e2 bB h2
    | ct=>exact ih es aj (i+1) (by simpa using hl) e2 bB h2
    | bk=>exact⟨_,_,rfl,h2⟩
    | rt r=>exact⟨_,_,rfl,h2⟩
 exact key ds.length ds Y 0 rfl rfl (O5 _) h0
theorem Aw{rs:List R}{QR:R->List R->Prop}(hl:rs.length=ar)(h:wp body (rs.map some++OZ (n - rs.length) none) λf af=>∃r,flR f=some r/\∃l,fin rs af=some l/\QR r l):wpF (fnD n ar body) rs QR:=by
 obtain⟨f,af,e,r,e1,l,e2,q⟩:=h;refine⟨r,l,?_,q⟩;unfold fnD;rw[if_pos hl];unfold fnD1;rw[e];simp only[e1,e2]
theorem HV{g:List R->Option (R×List R)}(h:wpF g (ds.map .val) λr _=>r=.val d):cvF g ds=some d:=by
 obtain⟨r,aL,e,rfl⟩:=h;unfold cvF;rw[e]
theorem G3{g:List R->Option (R×List R)}{P:List D->Prop}(h:wpF g (ds.map .val) λr _=>∃d,r=.own d/\P d):∃d,coF g ds=some d/\P d:=by
 obtain⟨r,aL,e,d,rfl,hp⟩:=h;exact⟨d,by unfold coF;rw[e],hp⟩
theorem Me{g:List R->Option (R×List R)}{c:List D}{QR:R->List D->Prop}(h:wpF g (.bor c::ds.map .val) λr aL=>∃c' t,aL=.bor c'::t/\QR r c'):wpB g c ds QR:=by
 obtain⟨r,aL,e,c',t,rfl,q⟩:=h;exact⟨r,c',by unfold bcF;rw[e],q⟩
end
end DL
namespace DL
open PySem L2
section
variable{α:Type}{Q:α->Gm->Prop}{QD:D->Gm->Prop}{QL:List D->Gm->Prop}{i j:Int}
@[simp ↓] theorem sV{c:Prop}[Decidable c]{a:α}:wp (lft (if c then some a else none)) Y Q↔c/\Q a Y:=by
 by_cases h:c
 ·simp[h]
 ·simp only[h,if_false,false_and,iff_false];rintro⟨_,_,e,_⟩;cases e
@[simp ↓] theorem MS:wp (λ_=>(none:Option (α×Gm))) Y Q↔False:=by
 simp only[iff_false];rintro⟨_,_,e,_⟩;cases e
@[simp] theorem Oq:subI (.int i) (.int j)=some (.int (i - j)):=rfl
@[simp] theorem MH:addF (.int i) (.int j)=some (.int (i+j)):=rfl
@[simp] theorem f_lt:ltI (.int i) (.int j)=some (.bl (decide (i < j))):=rfl
@[simp] theorem f_le:leI (.int i) (.int j)=some (.bl (decide (i<=j))):=rfl
@[simp] theorem f_gt:gtI (.int i) (.int j)=some (.bl (decide (j < i))):=rfl
@[simp] theorem f_ge:geI (.int i) (.int j)=some (.bl (decide (j<=i))):=rfl
@[simp ↓] theorem Nr:wp (lft (modI (.int i) (.int j))) Y QD↔0 < j/\QD (.int (i % j)) Y:=by simp[modI,intF]
@[simp ↓] theorem Ng:wp (lft (divI (.int i) (.int j))) Y QD↔(0 < j/\j < 2 ^ 200)/\QD (.int (i / j)) Y:=by simp only[divI,intF,decide_eq_true_eq,sV]
@[simp ↓] theorem Oe:wp (lft (mulI (.int i) (.int j))) Y QD↔((-(2 ^ 64) < i/\i < 2 ^ 64)\/(-(2 ^ 64) < j/\j < 2 ^ 64))/\QD (.int (i*j)) Y:=by simp only[mulI,intF,decide_eq_true_eq,sV]
@[simp ↓] theorem Nx:wp (lft (powI (.int i) (.int j))) Y QD↔(0<=j/\j<=1000000/\i.natAbs < 2 ^ 64)/\QD (.int (i ^ j.toNat)) Y:=by simp only[powI,intF,decide_eq_true_eq,sV]
@[simp] theorem MK:ixF (.lst ds) (.int i)=atI ds i:=rfl
@[simp] theorem M6:ixF (.tup ds) (.int i)=atI ds i:=rfl
theorem sE{α:Type}{ds:List α}:atI ds (n:Int)=ds[n]?:=by
 unfold atI ixN;rw[if_pos (by omega)];by_cases h:(n:Int) < ds.length
 ·rw[if_pos h];simp
 ·rw[if_neg h];have:ds.length<=n:=by omega
  simp[Pv this]
@[simp] theorem Ge{α:Type}{a:α}{ds:List α}:atI (a::ds) 0=some a:=by
 rw[show(0:Int)=((0:Nat):Int) from rfl,sE];rfl
@[simp] theorem NJ{α:Type}{a b:α}{ds:List α}:atI (a::b::ds) 1=some b:=by
 rw[show(1:Int)=((1:Nat):Int) from rfl,sE];rfl
@[simp] theorem N9{α:Type}{a b c:α}{ds:List α}:atI (a::b::c::ds) 2=some c:=by
 rw[show(2:Int)=((2:Nat):Int) from rfl,sE];rfl
theorem zB{α:Type}{ds:List α}{i:Int}(h0:0<=i)(h1:i < ds.length):∃a,atI ds i=some a/\a∈ds:=by
 obtain⟨n,rfl⟩:=PH h0;have h:n < ds.length:=by omega
 exact⟨ds[n],by rw[sE,f_ h],Pg h⟩
@[simp] theorem MN{a b:D}:stF 1 d (a::b::ds)=some (a::d::ds):=by
 unfold stF ixN;rw[if_pos (by omega),if_pos (by simp;omega)];rfl
@[simp] theorem Oj{a b c:D}:stF 2 d (a::b::c::ds)=some (a::b::d::ds):=by
 unfold stF ixN;rw[if_pos (by omega),if_pos (by simp;omega)];rfl
@[simp] theorem OA:lenF [.lst ds]=some (.int ds.length):=rfl
@[simp] theorem OD:lenF [.tup ds]=some (.int ds.length):=rfl
@[simp] theorem On:minF [.int i,.int j]=some (.int (min i j)):=by
 unfold minF;dsimp only;congr 2;split<;>omega
@[simp] theorem Ob:maxF [.int i,.int j]=some (.int (max i j)):=by
 unfold maxF;dsimp only;congr 2;split<;>omega
@[simp] theorem Nq:tupF [.lst ds]=some (.tup ds):=rfl
@[simp] theorem NH:tupF [.tup ds]=some (.tup ds):=rfl
@[simp] theorem MD:lstF [.lst ds]=some ds:=rfl
@[simp] theorem Od:lstF [.tup ds]=some ds:=rfl
@[simp] theorem Gf:seqI (.lst ds)=some ds:=rfl
@[simp] theorem MA:seqI (.tup ds)=some ds:=rfl
@[simp] theorem N6{b:Bool}:reprF [.bl b]=some (.str (if b then "True" else "False")):=rfl
@[simp] theorem NT{lo:Option Int}:slF (.lst ds) lo hi=some (.lst (cutD ds lo hi)):=rfl
@[simp] theorem Nh{xs:List D}:zipI [.lst xs,.lst ys]=some (pairsD xs ys):=rfl
@[simp] theorem NV{xs:List D}:zipI [.tup xs,.tup ys]=some (pairsD xs ys):=rfl
@[simp] theorem OG{xs:List D}:enumI [.lst xs]=some (numD 0 xs):=rfl
@[simp] theorem Nm{xs:List D}:enumI [.tup xs]=some (numD 0 xs):=rfl
@[simp ↓] theorem Nd:wp (lft (rngI1 [.int j])) Y QL↔(-1000000<=j/\j<=1000000)/\QL (rngD 0 j.toNat) Y:=by simp only[rngI1,sV]
@[simp ↓] theorem NB:wp (lft (rngI2 [.int i,.int j])) Y QL↔((-1000000<=i/\i<=1000000)/\-1000000<=j/\j<=1000000)/\QL (rngD i (j - i).toNat) Y:=by simp only[rngI2,sV]
@[simp ↓] theorem Om{a b:D}:wp (lft (eqF neg a b)) Y QD↔(dep a<=100\/dep b<=100)/\QD (.bl (if neg then !deq a b else deq a b)) Y:=by simp only[eqF,sV]
@[simp ↓] theorem Ol{xs:List D}:wp (lft (catF (.lst xs) (.lst ys))) Y QL↔xs.length+ys.length<=lim/\QL (xs++ys) Y:=by simp only[catF,sV]
@[simp ↓] theorem MC{xs:List D}:wp (lft (addF (.tup xs) (.tup ys))) Y QD↔xs.length+ys.length<=lim/\QD (.tup (xs++ys)) Y:=by simp only[addF,sV]
@[simp] theorem MV{a:Int}:dep (.int a)=0:=by simp[dep]
@[simp] theorem MX{a:Str}:dep (.str a)=0:=by simp[dep]
@[simp] theorem NG:dep (.lst [])=1:=by simp[dep,depA]
@[simp] theorem Oz{a b:Str}:deq (.str a) (.str b)=(a == b):=by simp[deq]
@[simp] theorem sx{a b:Int}:deq (.int a) (.int b)=(a == b):=by simp[deq]
@[simp] theorem Oh:deq (.lst ds) (.lst [])=ds.isEmpty:=by cases ds<;>simp[deq,deqA]
@[simp] theorem Os{a b:Bool}:deq (.str (if a then "True" else "False")) (.str (if b then "True" else "False"))=(a == b):=by cases a<;>cases b<;>decide
@[simp] theorem A':lim=1000000:=rfl
theorem wF{d:Nat}:HT.sIx n d (some (k:Int))=min k n:=by
 show(if(k:Int) < 0 then((k:Int)+(n:Int)).toNat else min (k:Int).toNat n)=min k n;rw[if_neg (by omega),Qa]
theorem Bu:cutD ds none (some (n:Int))=ds.take n:=by
 unfold cutD;rw[wF,HT.wB];simp
theorem CM:cutD ds (some (n:Int)) none=ds.drop n:=by
 unfold cutD;rw[wF,HT.wB,List.take_of_length_le (by simp)];by_cases h:n<=ds.length
 ·rw[Nat.min_eq_left h]
 ·rw[Nat.min_eq_right (by omega),Rg (v_ _),Rg (by omega)]
theorem Eb(h:n < ds.length):slF (.tup ds) none (some (n:Int))=some (.tup (ds.take n)):=by
 unfold slF;dsimp only;rw[wF,HT.wB,if_neg (by omega),Bu]
theorem xO(h:0 < ds.length)(h1:0 < n):slF (.tup ds) (some (n:Int)) none=some (.tup (ds.drop n)):=by
 unfold slF;dsimp only;rw[wF,HT.wB,if_neg (by omega),CM]
@[simp] theorem NM{P:List D->Prop}:(∃es,appF d ds=some es/\P es)↔ds.length < 1000000/\P (ds++[d]):=by
 unfold appF;rw[A'];by_cases h:ds.length < 1000000<;>simp[h]
@[simp] theorem No{xs:List D}{P:List D->Prop}:(∃es,extF (.lst xs) ds=some es/\P es)↔ds.length+xs.length<=1000000/\P (ds++xs):=by
 unfold extF;rw[A'];by_cases h:ds.length+xs.length<=1000000<;>simp[h]
theorem qR{a b:M Fl}{QS:Fl->Gm->Prop}(h:∀K:Fl->Gm->Prop,(∀ac,wp b ac QS->K .nx ac)->(∀r ac,QS (.rt r) ac->K (.rt r) ac)->wp a Y K):wp (seqS a b) Y QS:=by
 rw[Cb];exact h _ (λ_ h=>h) (λ_ _ h=>h)
theorem ut{a b:M Fl}{QS:Fl->Gm->Prop}(P:Gm->Prop)(h:∀K:Fl->Gm->Prop,(∀ac,P ac->K .nx ac)->(∀r ac,QS (.rt r) ac->K (.rt r) ac)->wp a Y K)(h2:∀ac,P ac->wp b ac QS):wp (seqS a b) Y QS:=by
 rw[Cb];exact h _ (λ_ p=>h2 _ p) (λ_ _ h=>h)
theorem rO{QS:Fl->Gm->Prop}(J:Nat->Gm->Prop)(h0:J 0 Y)(hs:∀(i:Nat) (d:D) (Y:Gm),ds[i]?=some d->J i Y->∀K:Fl->Gm->Prop,(∀aj,J (i+1) aj->K .nx aj)->(∀aj,J (i+1) aj->K .ct aj)->(∀aj,QS .nx aj->K .bk aj)->(∀r aj,QS (.rt r) aj->K (.rt r) aj)->wp (aE d) Y λ_ ac=>wp body ac K)(hd:∀Y,J ds.length Y->QS .nx Y):wp (forM aE body ds) Y QS:=
 Di J h0 (λi d Y h j=>hs i d Y h j _ (λ_ h=>h) (λ_ h=>h) (λ_ h=>h) (λ_ _ h=>h)) hd
theorem sC{rs:List R}{QR:R->List R->Prop}(hl:rs.length=ar)(h:∀K:Fl->Gm->Prop,(∀r af,(∃l,fin rs af=some l/\QR r l)->K (.rt r) af)->(∀af,(∃l,fin rs af=some l/\QR (.val .non) l)->K .nx af)->wp body (rs.map some++OZ (n - rs.length) none) K):wpF (fnD n ar body) rs QR:=
 Aw hl (h _ (λr _ h=>⟨r,rfl,h⟩) (λ_ h=>⟨_,rfl,h⟩))
theorem uE{c:List D}{QR:R->List D->Prop}(hl:ds.length+1=ar)(h:∀K:Fl->Gm->Prop,(∀r c' af,(∃t,fin (ds.map .val) af=some t)->QR r c'->K (.rt r) (some (.bor c')::af))->(∀c' af,(∃t,fin (ds.map .val) af=some t)->QR (.val .non) c'->K .nx (some (.bor c')::af))->wp body ((.bor c::ds.map .val).map some++OZ (n - (ds.length+1)) none) K):wpB (fnD n ar body) c ds QR:=by
 refine Me (sC (by simpa using hl) λK k1 k2=>?_);refine(by simpa using h K (λr c' af ⟨t,e⟩ q=>k1 r _ ⟨_,by simp[fin,e],c',t,rfl,q⟩) (λc' af ⟨t,e⟩ q=>k2 _ ⟨_,by simp[fin,e],c',t,rfl,q⟩))
theorem Cv{α:Type}(xs:List α)(f:α->D)(p:α->Bool)(v:α->D)(h:wp it Y λds ac=>ds=xs.map f/\xs.length<=1000000/\(∀x∈xs,∀cs:Gm,cs.length=m->wp (aE (f x)) (cs++ac) λ_ aj=>wp ts aj λb aR=>b=p x/\(if b=true then wp el aR λy aW=>y=v x/\∃bI,bI.length=m/\aW=bI++ac else ∃bI,bI.length=m/\aR=bI++ac)) ∧
   QL ((xs.filter p).map v) ac):wp (compO m it aE ts el) Y QL:=by
 unfold compO;rw[rF];refine h.mono λds ac ⟨fN,hl,hp,hq⟩=>?_
 subst fN;rw[if_pos (by simpa using hl)]
 have key:∀(es:List α) (cs:Gm),(∀d∈es,d∈xs)->cs.length=m->∃bI,bI.length=m/\compM aE ts el (es.map f) (cs++ac)=some ((es.filter p).map v,bI++ac):=by
  intro es
  induction es with
  | nil=>intro cs _ hc;exact⟨cs,hc,rfl⟩
  | cons d es ih =>
   intro cs hm hc;obtain⟨u,aj,e1,b,aR,e2,hb,h3⟩:=hp d (hm d j_) cs hc;have fR:∀d∈es,d∈xs:=λd hd=>hm d (h_ _ hd)
   cases b with
   | false =>
    rw[if_neg k_] at h3;obtain⟨bI,aJ,rfl⟩:=h3;obtain⟨kL,dB,e3⟩:=ih bI fR aJ;refine⟨kL,dB,?_⟩;rw[F_,compM];unfold bnd;simp only[e1,e2,QW,if_false];rw[e3,SA,←hb];simp
   | true =>
    rw[if_pos rfl] at h3;obtain⟨x,aW,e4,rfl,bI,aJ,rfl⟩:=h3;obtain⟨kL,dB,e3⟩:=ih bI fR aJ;refine⟨kL,dB,?_⟩;rw[F_,compM];unfold bnd;simp only[e1,e2,if_true,e4];rw[e3,SA,←hb];rfl
 obtain⟨bI,aJ,e⟩:=key xs (OZ m none) (λ_ h=>h) (by simp);refine⟨_,_,?_,hq⟩;unfold inC;rw[e];simp[aJ,List.drop_append]
theorem sd{α:Type}(xs:List α)(f:α->D)(p:α->Bool)(v:α->D)(h:wp it Y λds ac=>ds=xs.map f/\xs.length<=1000000/\(∀x∈xs,∀a,wp (aE (f x)) (a::ac) λ_ aj=>wp ts aj λb aR=>b=p x/\(if b=true then wp el aR λy aW=>y=v x/\∃a',aW=a'::ac else ∃a',aR=a'::ac)) ∧
   QL ((xs.filter p).map v) ac):wp (compO 1 it aE ts el) Y QL:=by
 refine Cv xs f p v (h.mono λds ac ⟨h1,h2,h3,h4⟩=>⟨h1,h2,λx hx cs hc=>?_,h4⟩);obtain⟨a,rfl⟩:=List.length_eq_one_iff.mp hc;refine(h3 x hx a).mono λ_ aj h=>h.mono λb aR ⟨h5,h6⟩=>⟨h5,?_⟩
 cases b with
 | true=>simp only[if_true] at h6 ⊢;exact h6.mono λy aW ⟨h7,a',h8⟩=>⟨h7,[a'],rfl,h8⟩
 | false=>simp only[QW,if_false] at h6 ⊢;obtain⟨a',h8⟩:=h6;exact⟨[a'],rfl,h8⟩
theorem wx{α:Type}(xs:List α)(f:α->D)(p:α->Bool)(v:α->D)(h:wp it Y λds ac=>ds=xs.map f/\xs.length<=1000000/\(∀x∈xs,∀a b,wp (aE (f x)) (a::b::ac) λ_ aj=>wp ts aj λb aR=>b=p x/\(if b=true then wp el aR λy aW=>y=v x/\∃a' b',aW=a'::b'::ac else ∃a' b',aR=a'::b'::ac)) ∧
   QL ((xs.filter p).map v) ac):wp (compO 2 it aE ts el) Y QL:=by
 refine Cv xs f p v (h.mono λds ac ⟨h1,h2,h3,h4⟩=>⟨h1,h2,λx hx cs hc=>?_,h4⟩)
 obtain⟨a,b,rfl⟩:∃a b,cs=[a,b]:=by
  match cs,hc with
  | [a,b],_=>exact⟨a,b,rfl⟩
 refine(h3 x hx a b).mono λ_ aj h=>h.mono λb aR ⟨h5,h6⟩=>⟨h5,?_⟩
 cases b with
 | true=>simp only[if_true] at h6 ⊢;exact h6.mono λy aW ⟨h7,a',b',h8⟩=>⟨h7,[a',b'],rfl,h8⟩
 | false=>simp only[QW,if_false] at h6 ⊢;obtain⟨a',b',h8⟩:=h6;exact⟨[a',b'],rfl,h8⟩
theorem rS(hl:ds.length=ar)(h:∀K:Fl->Gm->Prop,(∀af,(∃l,fin (ds.map .val) af=some l)->K (.rt (.val d)) af)->(∀af,d=.non->(∃l,fin (ds.map .val) af=some l)->K .nx af)->wp body ((ds.map .val).map some++OZ (n - ds.length) none) K):cvF (fnD n ar body) ds=some d:=by
 refine HV (sC (by simpa using hl) λK k1 k2=>?_);have:=h K (λaf ⟨l,e⟩=>k1 _ _ ⟨l,e,rfl⟩) (λaf hd ⟨l,e⟩=>k2 _ ⟨l,e,by rw[hd]⟩);simpa using this
theorem Al{α:Type}{f:α->Bool}{xs:List α}:blsD (xs.map λx=>.bl (f x))=some (xs.map f):=by
 induction xs with
 | nil=>rfl
 | cons x xs ih=>simp only[F_,blsD,ih]
theorem Cw{α:Type}{f:α->Bool}{xs:List α}:allF [.lst (xs.map λx=>.bl (f x))]=some (.bl (xs.all f)):=by
 unfold allF;simp only[Al];simp[Vk]
theorem FI{α:Type}{f:α->Bool}{xs:List α}:anyF [.lst (xs.map λx=>.bl (f x))]=some (.bl (xs.any f)):=by
 unfold anyF;simp only[Al];simp[Vk]
theorem xF{α β:Type}{f:α->D}{g:β->D}{xs:List α}{ys:List β}:pairsD (xs.map f) (ys.map g)=(xs.zip ys).map λq=>.tup [f q.1,g q.2]:=by
 unfold pairsD
 induction xs generalizing ys with
 | nil=>rfl
 | cons x xs ih =>
  cases ys with
  | nil=>rfl
  | cons y ys=>simp only[F_,Qc,ih]
end
section
variable{α:Type}{Q:α->Gm->Prop}{QD:D->Gm->Prop}{QL:List D->Gm->Prop}{i j:Int}
@[simp] theorem Oi:rvF (.lst ds) (.int (-1))=some ds.reverse:=by simp[rvF]
theorem Eu{xs:List D}(h:SetOk xs)(k:xs.all fstI=true\/xs.all fstT=true):setF [.lst xs]=some (sortD (dd xs)):=by
 unfold setF;exact if_pos ⟨h,k⟩
theorem Ak{xs:List D}(h:SortOk xs):sortF [.lst xs]=some (sortD xs):=by
 unfold sortF;exact if_pos h
theorem Mo(ds:List D):∀d∈ds,(dd ds).any (λe=>deq e d)=true:=by
 have key:∀(ds ah:List D),(∀d,ah.any (λe=>deq e d)=true->(ds.foldl dstep ah).any (λe=>deq e d)=true)/\∀d∈ds,(ds.foldl dstep ah).any (λe=>deq e d)=true:=by
  intro ds
  induction ds with
  | nil=>exact λah=>⟨λd h=>h,λd h=>by cases h⟩
  | cons c ds ih =>
   intro ah;obtain⟨h1,h2⟩:=ih (dstep ah c)
   have st:∀d,ah.any (λe=>deq e d)=true->(dstep ah c).any (λe=>deq e d)=true:=λd h=>by
    unfold dstep;split
    ·exact h
    ·rw[Vl,h];rfl
   refine⟨λd h=>h1 d (st d h),λd h=>?_⟩
   rcases r_.mp h with rfl | h
   ·refine h1 d ?_;unfold dstep;split
    ·assumption
    ·rw[Vl];simp[sg]
   ·exact h2 d h
 exact(key ds []).2
theorem B8(ds:List D):(dd ds).length<=ds.length:=by
 have key:∀(ds ah:List D),(ds.foldl dstep ah).length<=ah.length+ds.length:=by
  intro ds
  induction ds with
  | nil=>exact λah=>v_ _
  | cons c ds ih =>
   intro ah;have:=ih (dstep ah c)
   have:(dstep ah c).length<=ah.length+1:=by
    unfold dstep;split
    ·omega
    ·simp
   rw[Uh,OQ];omega
 have:=key ds [];simpa[dd] using this
end
end DL
namespace DL
theorem uz{α:Type}:∀(l m:List α),l.Nodup->(∀x∈l,x∈m)->l.length<=m.length
 | [],m,_,_=>O5 _
 | x::l,m,nd,h=>by
  obtain⟨a,b,rfl⟩:=Sk (h x j_);rw[Pc] at nd
  have:=uz l (a++b) nd.2 (λy hy=>by
   have:=h y (h_ _ hy)
   rcases D_.mp this with z | z
   ·exact(O_ _ z)
   ·rcases r_.mp z with z | z
    ·subst z;exact absurd hy nd.1
    ·exact(OH _ z))
  simp at this ⊢;omega
theorem tG{os:List D}(hl:ds.length=ar)(h:∀K:Fl->Gm->Prop,(∀af,(∃l,fin (ds.map .val) af=some l)->K (.rt (.own os)) af)->wp body ((ds.map .val).map some++OZ (n - ds.length) none) K):coF (fnD n ar body) ds=some os:=by
 have w:wpF (fnD n ar body) (ds.map .val) λr _=>r=.own os:=sC (by simpa using hl) λK k1 _=>by
  have:=h K (λaf ⟨l,e⟩=>k1 _ _ ⟨l,e,rfl⟩);simpa using this
 obtain⟨r,aL,e,rfl⟩:=w;unfold coF;rw[e]
section
variable{QS:Fl->Gm->Prop}{QL:List D->Gm->Prop}
@[simp ↓] theorem Nk:wp (froS j) Y QL↔match Y[j]? with
  | some (some (.fro ds))=>QL ds Y
  | _=>False:=by
 unfold wp froS
 rcases e:Y[j]? with _ | _ | r
 ·simp
 ·simp
 ·cases r<;>simp<;>exact⟨λ⟨_,_,⟨h1,h2⟩,q⟩=>by subst h1;subst h2;exact q,λq=>⟨_,_,⟨rfl,rfl⟩,q⟩⟩
@[simp ↓] theorem N0{g:M (List D)}:wp (setY i g) Y QS↔wp g Y λd ac=>i < ac.length/\QS .nx (ac.set i (some (.fro d))):=by simp[setY]
@[simp ↓] theorem M0:wp (cpS i j) Y QS↔wp (froS j) Y λd ac=>i < ac.length/\QS .nx (ac.set i (some (.fro d))):=by simp only[cpS,rF,Gj,uk]
@[simp ↓] theorem Ow:wp (retY j) Y QS↔wp (froS j) Y λd ac=>QS (.rt (.fro d)) ac:=by simp only[retY,rF,uk]
theorem JG{os:List D}(hl:ds.length=ar)(no:noLA os=true)(h:∀K:Fl->Gm->Prop,(∀af,(∃l,fin (ds.map .val) af=some l)->K (.rt (.fro os)) af)->wp body ((ds.map .val).map some++OZ (n - ds.length) none) K):coF (fnD n ar body) ds=some os:=by
 have w:wpF (fnD n ar body) (ds.map .val) λr _=>r=.fro os:=sC (by simpa using hl) λK k1 _=>by
  have:=h K (λaf ⟨l,e⟩=>k1 _ _ ⟨l,e,rfl⟩);simpa using this
 obtain⟨r,aL,e,rfl⟩:=w;unfold coF;rw[e];exact if_pos no
end
end DL
namespace Own
open PySem PySem.Spec PyProof.Rows L2 DL
noncomputable def Ag:M Fl:=
 (forS (itS (nm 0)) (tgN 1)
  (ifS (tst (op2 (eqF true) (fn1 lenF (consA (nm 1) nilA)) (fn1 lenF (consA (op2 ixF (nm 0) (ret (.int 0))) nilA))))
  (λ_=>none) (ret .nx)))
noncomputable def rY:List R->Option (R×List R):=fnD 2 1 Ag
noncomputable def zf:M Fl:=
 (seqS (dropS (fn1 (cvF rY) (consA (frz (lstA (consA (nm 0) (consA (nm 1) nilA)))) nilA)))
  (retS (fn1 allF (consA (frz (compO 2 (fn1 zipI (consA (nm 0) (consA (nm 1) nilA))) (tgTup 2 (tgCons (tgN 0) (tgCons (tgN 1) tgNil))) (ret true) (chn leI leI (op2 ixF (nm 0) (ret (.int 0))) (nm 1) (op2 ixF (nm 0) (ret (.int 1)))))) nilA))))
noncomputable def tR:List R->Option (R×List R):=fnD 2 2 zf
noncomputable def xX:M Fl:=
 (seqS (dropS (fn1 (cvF rY) (consA (frz (lstA (consA (nm 0) (consA (nm 1) nilA)))) nilA)))
  (retS (fn1 allF (consA (frz (compO 2 (fn1 zipI (consA (nm 0) (consA (nm 1) nilA))) (tgTup 2 (tgCons (tgN 0) (tgCons (tgN 1) tgNil))) (ret true) (andV (op2 leI (op2 ixF (nm 0) (ret (.int 0))) (op2 ixF (nm 1) (ret (.int 0)))) (op2 leI (op2 ixF (nm 1) (ret (.int 1))) (op2 ixF (nm 0) (ret (.int 1))))))) nilA))))
noncomputable def va:List R->Option (R×List R):=fnD 2 2 xX
noncomputable def zG:M Fl:=
 (seqS (dropS (fn1 (cvF rY) (consA (frz (lstA (consA (nm 0) (consA (nm 1) nilA)))) nilA)))
  (seqS (setO 2 (lstA nilA))
  (seqS (forS (fn1 zipI (consA (nm 0) (consA (nm 1) nilA))) (tgTup 2 (tgCons (tgN 3) (tgCons (tgN 4) tgNil)))
  (seqS (setV 5 (fn1 maxF (consA (op2 ixF (nm 3) (ret (.int 0))) (consA (op2 ixF (nm 4) (ret (.int 0))) nilA))))
  (seqS (setV 6 (fn1 minF (consA (op2 ixF (nm 3) (ret (.int 1))) (consA (op2 ixF (nm 4) (ret (.int 1))) nilA))))
  (seqS (ifS (tst (op2 gtI (nm 5) (nm 6)))
  (retS (ret .non)) (ret .nx))
  (appS 2 (tupA (consA (nm 5) (consA (nm 6) nilA))))))))
  (retS (fn1 tupF (consA (nm 2) nilA))))))
noncomputable def wO:List R->Option (R×List R):=fnD 7 2 zG
noncomputable def xx:M Fl:=
 (retS (fn1 anyF (consA (frz (compO 1 (itS (nm 0)) (tgN 0) (ret true) (andV (op2 (eqF true) (nm 0) (nm 2)) (fn1 (cvF va) (consA (nm 0) (consA (nm 2) nilA)))))) nilA)))
noncomputable def vV:List R->Option (R×List R):=fnD 2 2 xx
noncomputable def yk:M Fl:=
 (seqS (dropS (fn1 (cvF rY) (consA (nm 0) nilA)))
  (seqS (setV 1 (frz (fn1 setF (consA (nm 0) nilA))))
  (retO (compO 1 (itS (nm 1)) (tgN 0) (notT (tst (fn1 (cvF vV) (consA (nm 2) (consA (nm 0) nilA))))) (nm 0)))))
noncomputable def ud:List R->Option (R×List R):=fnD 2 1 yk
noncomputable def y0:M Fl:=
 (seqS (setO 2 (lstA nilA))
  (seqS (forS (fn1 enumI (consA (nm 1) nilA)) (tgTup 2 (tgCons (tgN 3) (tgCons (tgN 4) tgNil)))
  (forS (itS (nm 0)) (tgN 5)
  (seqS (ifS (tst (op2 ltI (op2 ixF (nm 4) (ret (.int 0))) (op2 ixF (op2 ixF (nm 5) (nm 3)) (ret (.int 0)))))
  (appS 2 (tupA (consA (nm 3) (consA (op2 subI (op2 ixF (op2 ixF (nm 5) (nm 3)) (ret (.int 0))) (ret (.int 1))) nilA)))) (ret .nx))
  (ifS (tst (op2 ltI (op2 ixF (op2 ixF (nm 5) (nm 3)) (ret (.int 1))) (op2 ixF (nm 4) (ret (.int 1)))))
  (appS 2 (tupA (consA (nm 3) (consA (op2 ixF (op2 ixF (nm 5) (nm 3)) (ret (.int 1))) nilA)))) (ret .nx)))))
  (retS (fn1 minlF (consA (nm 2) nilA)))))
noncomputable def vS:List R->Option (R×List R):=fnD 6 2 y0
noncomputable def zE:M Fl:=
 (seqS (setV 3 (sl3 slF (nm 0) (ret none) (prt (nm 1))))
  (seqS (setV 4 (sl3 slF (nm 0) (prt (op2 addF (nm 1) (ret (.int 1)))) (ret none)))
  (seqS (setV 5 (op2 ixF (op2 ixF (nm 0) (nm 1)) (ret (.int 0))))
  (seqS (setV 6 (op2 ixF (op2 ixF (nm 0) (nm 1)) (ret (.int 1))))
  (retS (tupA (consA (op2 addF (op2 addF (nm 3) (tupA (consA (tupA (consA (nm 5) (consA (nm 2) nilA))) nilA))) (nm 4)) (consA (op2 addF (op2 addF (nm 3) (tupA (consA (tupA (consA (op2 addF (nm 2) (ret (.int 1))) (consA (nm 6) nilA))) nilA))) (nm 4)) nilA))))))))
noncomputable def wQ:List R->Option (R×List R):=fnD 7 3 zE
noncomputable def xj(g:List R->Option (R×List R)):M Fl:=
 (seqS (setV 3 (frz (compO 1 (itS (nm 1)) (tgN 0) (tst (op2 (isNF true) (fn1 (cvF wO) (consA (op2 ixF (nm 1) (nm 0)) (consA (nm 3) nilA))) (ret .non))) (nm 0))))
  (seqS (ifS (tst (op2 (eqF false) (fn1 lenF (consA (nm 3) nilA)) (ret (.int 0))))
  (retS (tupA (consA (ret (.str "out")) (consA (fn1 tupF (consA (frz (compO 1 (itS (nm 2)) (tgN 0) (ret true) (op2 ixF (nm 0) (ret (.int 0))))) nilA)) nilA)))) (ret .nx))
  (seqS (forS (itS (nm 3)) (tgN 4)
  (ifS (tst (fn1 (cvF va) (consA (op2 ixF (nm 0) (nm 4)) (consA (nm 2) nilA))))
  (retS (tupA (consA (ret (.str "in")) (consA (tupA (consA (ret (.str "by")) (consA (nm 4) nilA))) nilA)))) (ret .nx)))
  (seqS (setV 5 (fn1 (cvF vS) (consA (frz (compO 1 (itS (nm 3)) (tgN 0) (ret true) (op2 ixF (nm 1) (nm 0)))) (consA (nm 2) nilA))))
  (seqS (setV 6 (fn1 (cvF wQ) (consA (nm 2) (consA (op2 ixF (nm 5) (ret (.int 0))) (consA (op2 ixF (nm 5) (ret (.int 1))) nilA)))))
  (seqS (setV 7 (fn1 (cvF g) (consA (nm 0) (consA (nm 3) (consA (op2 ixF (nm 6) (ret (.int 0))) nilA)))))
  (seqS (ifS (tst (op2 (eqF false) (op2 ixF (nm 7) (ret (.int 0))) (ret (.str "out"))))
  (retS (nm 7)) (ret .nx))
  (seqS (setV 8 (fn1 (cvF g) (consA (nm 0) (consA (nm 3) (consA (op2 ixF (nm 6) (ret (.int 1))) nilA)))))
  (seqS (ifS (tst (op2 (eqF false) (op2 ixF (nm 8) (ret (.int 0))) (ret (.str "out"))))
  (retS (nm 8)) (ret .nx))
  (retS (tupA (consA (ret (.str "in")) (consA (tupA (consA (ret (.str "cut")) (consA (op2 ixF (nm 5) (ret (.int 0))) (consA (op2 ixF (nm 5) (ret (.int 1))) (consA (op2 ixF (nm 7) (ret (.int 1))) (consA (op2 ixF (nm 8) (ret (.int 1))) nilA)))))) nilA)))))))))))))
noncomputable def tX:Nat->List R->Option (R×List R)
 | 0=>λ_=>none
 | k+1=>fnD 9 3 (xj (tX k))
noncomputable def zW:M Fl:=
 (seqS (dropS (fn1 (cvF rY) (consA (frz (op2 catF (frz (lstA (consA (nm 1) nilA))) (nm 0))) nilA)))
  (retS (fn1 (cvF (tX 40)) (consA (nm 0) (consA (frz (fn1 rngI1 (consA (fn1 lenF (consA (nm 0) nilA)) nilA))) (consA (nm 1) nilA))))))
noncomputable def t8:List R->Option (R×List R):=fnD 2 2 zW
noncomputable def wP:M Fl:=
 (seqS (setY 1 (fn1 (coF ud) (consA (nm 0) nilA)))
  (seqS (cpS 2 1)
  (seqS (forS (itS (nm 1)) (tgN 3)
  (seqS (setY 4 (compO 1 (itS (nm 2)) (tgN 0) (tst (op2 (eqF true) (nm 0) (nm 4))) (nm 0)))
  (ifS (tst (op2 (eqF false) (op2 ixF (fn1 (cvF t8) (consA (nm 4) (consA (nm 3) nilA))) (ret (.int 0))) (ret (.str "in"))))
  (cpS 2 4) (ret .nx))))
  (retY 2))))
noncomputable def tL:List R->Option (R×List R):=fnD 5 1 wP
noncomputable def yI:M Fl:=
 (ifS (notT (tst (chn leI ltI (ret (.int 0)) (nm 1) (op2 ixF (nm 0) (ret (.int 0))))))
  (λ_=>none) (ret .nx))
noncomputable def sQ:List R->Option (R×List R):=fnD 2 2 yI
noncomputable def yG:M Fl:=
 (seqS (dropS (fn1 (cvF sQ) (consA (nm 0) (consA (nm 1) nilA))))
  (retO (fn1 sortF (consA (frz (compO 1 (itS (op2 ixF (nm 0) (ret (.int 1)))) (tgN 0) (tst (op2 (inF false) (nm 2) (nm 0))) (ifV (tst (op2 (eqF false) (op2 ixF (nm 0) (ret (.int 0))) (nm 2))) (op2 ixF (nm 0) (ret (.int 1))) (op2 ixF (nm 0) (ret (.int 0)))))) nilA))))
noncomputable def sZ:List R->Option (R×List R):=fnD 2 2 yG
noncomputable def zo:M Fl:=
 (seqS (dropS (fn1 (cvF sQ) (consA (nm 0) (consA (nm 1) nilA))))
  (seqS (dropS (fn1 (cvF sQ) (consA (nm 0) (consA (nm 2) nilA))))
  (ifS (tst (op2 (inF true) (nm 2) (frz (fn1 (coF sZ) (consA (nm 0) (consA (nm 1) nilA))))))
  (λ_=>none) (ret .nx))))
noncomputable def u0:List R->Option (R×List R):=fnD 3 3 zo
noncomputable def vG(g:List R->Option (R×List R)):M Fl:=
 (seqS (ifS (tst (op2 (eqF false) (nm 2) (nm 3)))
  (retO (lstA (consA (nm 2) nilA))) (ret .nx))
  (seqS (forS (itS (frz (fn1 (coF sZ) (consA (nm 0) (consA (nm 2) nilA))))) (tgN 4)
  (ifS (tst (op2 (eqF true) (nm 4) (nm 1)))
  (seqS (setV 5 (altM (frz (fn1 (coF g) (consA (nm 0) (consA (nm 2) (consA (nm 4) (consA (nm 3) nilA)))))) (fn1 (cvF g) (consA (nm 0) (consA (nm 2) (consA (nm 4) (consA (nm 3) nilA)))))))
  (ifS (tst (op2 (isNF true) (nm 5) (ret .non)))
  (retO (op2 catF (frz (lstA (consA (nm 2) nilA))) (nm 5))) (ret .nx))) (ret .nx)))
  (retS (ret .non))))
noncomputable def tP:Nat->List R->Option (R×List R)
 | 0=>λ_=>none
 | k+1=>fnD 6 4 (vG (tP k))
noncomputable def zU:M Fl:=
 (seqS (dropS (fn1 (cvF sQ) (consA (nm 0) (consA (nm 1) nilA))))
  (seqS (dropS (fn1 (cvF sQ) (consA (nm 0) (consA (nm 2) nilA))))
  (altM (retO (fn1 (coF (tP 21)) (consA (nm 0) (consA (ret .non) (consA (nm 1) (consA (nm 2) nilA)))))) (retS (fn1 (cvF (tP 21)) (consA (nm 0) (consA (ret .non) (consA (nm 1) (consA (nm 2) nilA)))))))))
noncomputable def vn:List R->Option (R×List R):=fnD 3 3 zU
noncomputable def vX(g:List R->Option (R×List R)):M Fl:=
 (seqS (setO 3 (lstA (consA (nm 2) nilA)))
  (seqS (forS (itS (frz (fn1 (coF sZ) (consA (nm 0) (consA (nm 2) nilA))))) (tgN 4)
  (ifS (tst (op2 (eqF true) (nm 4) (nm 1)))
  (extS 3 (fn1 (cvF g) (consA (nm 0) (consA (nm 2) (consA (nm 4) nilA))))) (ret .nx)))
  (retS (nm 3))))
noncomputable def tz:Nat->List R->Option (R×List R)
 | 0=>λ_=>none
 | k+1=>fnD 5 3 (vX (tz k))
noncomputable def yK:M Fl:=
 (seqS (dropS (fn1 (cvF u0) (consA (nm 0) (consA (nm 1) (consA (nm 2) nilA)))))
  (retO (fn1 sortF (consA (fn1 (cvF (tz 20)) (consA (nm 0) (consA (nm 1) (consA (nm 2) nilA)))) nilA))))
noncomputable def wJ:List R->Option (R×List R):=fnD 3 3 yK
noncomputable def xq:M Fl:=
 (seqS (ifS (tst (op2 (eqF false) (nm 0) (ret (.str "spare"))))
  (retO (fn1 (coF tL) (consA (nm 1) nilA))) (ret .nx))
  (retO (fn1 (coF ud) (consA (nm 1) nilA))))
noncomputable def xb:List R->Option (R×List R):=fnD 2 2 xq
noncomputable def z6:M Fl:=
 (retO (compO 1 (itS (nm 0)) (tgN 0) (ret true) (op2 ixF (nm 0) (ret (.int 1)))))
noncomputable def tf:List R->Option (R×List R):=fnD 1 1 z6
noncomputable def wS(g:List R->Option (R×List R)):M Fl:=
 (seqS (setO 5 (fn1 (coF tf) (consA (frz (compO 1 (itS (nm 1)) (tgN 0) (tst (op2 (eqF false) (op2 ixF (nm 0) (ret (.int 0))) (nm 5))) (nm 0))) nilA)))
  (seqS (forS (itS (frz (fn1 (coF sZ) (consA (nm 0) (consA (nm 4) nilA))))) (tgN 6)
  (ifS (tst (op2 (eqF true) (nm 6) (nm 3)))
  (extS 5 (frz (fn1 (coF g) (consA (nm 0) (consA (nm 1) (consA (nm 2) (consA (nm 4) (consA (nm 6) nilA)))))))) (ret .nx)))
  (retO (fn1 (coF xb) (consA (nm 2) (consA (nm 5) nilA))))))
noncomputable def ua:Nat->List R->Option (R×List R)
 | 0=>λ_=>none
 | k+1=>fnD 7 5 (wS (ua k))
noncomputable def zH:M Fl:=
 (seqS (dropS (fn1 (cvF rY) (consA (frz (fn1 (coF tf) (consA (nm 1) nilA))) nilA)))
  (seqS (dropS (fn1 (cvF u0) (consA (nm 0) (consA (nm 3) (consA (nm 4) nilA)))))
  (retO (fn1 (coF (ua 20)) (consA (nm 0) (consA (nm 1) (consA (nm 2) (consA (nm 3) (consA (nm 4) nilA)))))))))
noncomputable def sf:List R->Option (R×List R):=fnD 5 5 zH
noncomputable def yY:M Fl:=
 (retO (compO 1 (itS (frz (fn1 (coF (ua 20)) (consA (nm 0) (consA (nm 1) (consA (nm 2) (consA (nm 3) (consA (nm 4) nilA)))))))) (tgN 0) (tst (fn1 (cvF tR) (consA (nm 0) (consA (nm 6) nilA)))) (nm 0)))
noncomputable def wX:List R->Option (R×List R):=fnD 6 6 yY
noncomputable def vL(g:List R->Option (R×List R)):M Fl:=
 (seqS (setO 6 (lstA nilA))
  (seqS (forS (itS (frz (fn1 (coF sZ) (consA (nm 0) (consA (nm 4) nilA))))) (tgN 7)
  (ifS (andT (tst (op2 (eqF true) (nm 7) (nm 3))) (tst (op2 gtI (fn1 lenF (consA (frz (fn1 (coF wX) (consA (nm 0) (consA (nm 1) (consA (nm 2) (consA (nm 4) (consA (nm 7) (consA (nm 5) nilA)))))))) nilA)) (ret (.int 0)))))
  (seqS (appS 6 (tupA (consA (nm 4) (consA (nm 7) nilA))))
  (extS 6 (fn1 (cvF g) (consA (nm 0) (consA (nm 1) (consA (nm 2) (consA (nm 4) (consA (nm 7) (consA (nm 5) nilA))))))))) (ret .nx)))
  (retS (nm 6))))
noncomputable def tE:Nat->List R->Option (R×List R)
 | 0=>λ_=>none
 | k+1=>fnD 8 6 (vL (tE k))
noncomputable def zg:M Fl:=
 (seqS (dropS (fn1 (cvF rY) (consA (frz (op2 catF (frz (lstA (consA (nm 4) nilA))) (frz (fn1 (coF tf) (consA (nm 1) nilA))))) nilA)))
  (seqS (dropS (fn1 (cvF sQ) (consA (nm 0) (consA (nm 3) nilA))))
  (seqS (setV 5 (frz (fn1 sortF (consA (fn1 (cvF (tE 20)) (consA (nm 0) (consA (nm 1) (consA (nm 2) (consA (ret .non) (consA (nm 3) (consA (nm 4) nilA))))))) nilA))))
  (seqS (setV 6 (frz (op2 catF (frz (lstA (consA (nm 3) nilA))) (frz (compO 1 (itS (nm 5)) (tgN 0) (ret true) (op2 ixF (nm 0) (ret (.int 1))))))))
  (seqS (setV 7 (frz (compO 2 (fn1 enumI (consA (nm 1) nilA)) (tgTup 2 (tgCons (tgN 0) (tgCons (tgN 1) tgNil))) (andT (tst (op2 (inF false) (op2 ixF (nm 1) (ret (.int 0))) (nm 8))) (tst (fn1 (cvF tR) (consA (op2 ixF (nm 1) (ret (.int 1))) (consA (nm 6) nilA))))) (nm 0))))
  (retS (tupA (consA (nm 5) (consA (nm 7) nilA)))))))))
noncomputable def t5:List R->Option (R×List R):=fnD 8 5 zg
noncomputable def yf:M Fl:=
 (seqS (ifS (tst (op2 geI (nm 0) (op2 powI (ret (.int 10)) (ret (.int 18)))))
  (retS (nm 0)) (ret .nx))
  (seqS (setV 2 (op2 modI (op2 addF (op2 addF (op2 mulI (op2 modI (nm 0) (ret (.int 998244353))) (ret (.int 40692))) (op2 mulI (nm 1) (ret (.int 69621)))) (ret (.int 1009))) (ret (.int 2147483399))))
  (seqS (setV 3 (op2 modI (op2 addF (op2 addF (op2 mulI (nm 2) (nm 2)) (op2 mulI (nm 1) (ret (.int 48271)))) (op2 modI (nm 0) (ret (.int 131071)))) (ret (.int 2147483647))))
  (seqS (setV 4 (op2 modI (op2 addF (op2 addF (op2 mulI (nm 3) (nm 3)) (op2 mulI (nm 2) (ret (.int 17)))) (ret (.int 3))) (ret (.int 2147483629))))
  (retS (op2 addF (op2 mulI (op2 addF (op2 mulI (nm 2) (ret (.int 2147483647))) (nm 3)) (ret (.int 2147483629))) (nm 4)))))))
noncomputable def vy:List R->Option (R×List R):=fnD 5 2 yf
noncomputable def ze:M Fl:=
 (seqS (setO 1 (fn1 lstF (consA (sl3 slF (nm 0) (ret none) (prt (ret (.int 12)))) nilA)))
  (seqS (forS (fn1 enumI (consA (sl3 slF (nm 0) (prt (ret (.int 12))) (prt (ret (.int 63)))) nilA)) (tgTup 2 (tgCons (tgN 2) (tgCons (tgN 3) tgNil)))
  (stS 1 (op2 modI (nm 2) (ret (.int 12))) (op2 addF (atN 1 (op2 modI (nm 2) (ret (.int 12)))) (nm 3))))
  (retO (lstA (consA (nm 1) (consA (ret (.int 0)) (consA (ret (.int 0)) nilA)))))))
noncomputable def vz:List R->Option (R×List R):=fnD 4 1 ze
noncomputable def xD:M Fl:=
 (seqS (ifS (tst (op2 ltI (atN 0 (ret (.int 2))) (nm 1)))
  (seqS (setV 2 (atN 0 (ret (.int 1))))
  (seqS (setV 3 (op2 mulI (ret (.int 11)) (nm 2)))
  (seqS (ifS (tst (op2 ltI (nm 2) (fn1 lenF (consA (atN 0 (ret (.int 0))) nilA))))
  (setV 3 (op2 ixF (atN 0 (ret (.int 0))) (nm 2))) (ifS (tst (op2 (eqF true) (atN 0 (ret (.int 0))) (frz (lstA nilA))))
  (setV 3 (op2 modI (op2 ixF (atN 0 (ret (.int 0))) (op2 modI (op2 addF (op2 mulI (nm 2) (ret (.int 7))) (ret (.int 1))) (fn1 lenF (consA (atN 0 (ret (.int 0))) nilA)))) (op2 addF (op2 powI (ret (.int 10)) (ret (.int 17))) (op2 mulI (ret (.int 3)) (nm 2))))) (ret .nx)))
  (seqS (stS 0 (ret (.int 1)) (op2 addF (nm 2) (ret (.int 1))))
  (stS 0 (ret (.int 2)) (fn1 (cvF vy) (consA (nm 3) (consA (nm 2) nilA)))))))) (ret .nx))
  (seqS (setV 4 (op2 modI (atN 0 (ret (.int 2))) (nm 1)))
  (seqS (stS 0 (ret (.int 2)) (op2 divI (atN 0 (ret (.int 2))) (nm 1)))
  (retS (nm 4)))))
noncomputable def rE:List R->Option (R×List R):=fnD 5 2 xD
noncomputable def xV:M Fl:=
 (seqS (setO 4 (lstA nilA))
  (seqS (forS (fn1 rngI1 (consA (nm 1) nilA)) (tgN 5)
  (seqS (setV 6 (op2 addF (nm 2) (cbV 0 rE (consA (nm 3) nilA))))
  (seqS (setV 7 (op2 addF (nm 2) (cbV 0 rE (consA (nm 3) nilA))))
  (appS 4 (tupA (consA (fn1 minF (consA (nm 6) (consA (nm 7) nilA))) (consA (fn1 maxF (consA (nm 6) (consA (nm 7) nilA))) nilA)))))))
  (retS (fn1 tupF (consA (nm 4) nilA)))))
noncomputable def wZ:List R->Option (R×List R):=fnD 8 4 xV
noncomputable def ya:M Fl:=
 (seqS (setV 2 (cbV 0 rE (consA (fn1 lenF (consA (nm 1) nilA)) nilA)))
  (seqS (asgS (op2 ixF (nm 1) (nm 2)) (tgTup 2 (tgCons (tgN 3) (tgCons (tgN 4) tgNil))))
  (seqS (setV 5 (frz (lstA (consA (tupA (consA (fn1 maxF (consA (ret (.int 0)) (consA (op2 subI (nm 3) (ret (.int 1))) nilA))) (consA (nm 4) nilA))) (consA (tupA (consA (nm 3) (consA (fn1 minF (consA (ret (.int 9)) (consA (op2 addF (nm 4) (ret (.int 1))) nilA))) nilA))) (consA (tupA (consA (fn1 minF (consA (op2 addF (nm 3) (ret (.int 1))) (consA (nm 4) nilA))) (consA (nm 4) nilA))) (consA (tupA (consA (nm 3) (consA (fn1 maxF (consA (nm 3) (consA (op2 subI (nm 4) (ret (.int 1))) nilA))) nilA))) nilA)))))))
  (retS (op2 addF (op2 addF (sl3 slF (nm 1) (ret none) (prt (nm 2))) (tupA (consA (op2 ixF (nm 5) (cbV 0 rE (consA (ret (.int 4)) nilA))) nilA))) (sl3 slF (nm 1) (prt (op2 addF (nm 2) (ret (.int 1)))) (ret none)))))))
noncomputable def wa:List R->Option (R×List R):=fnD 6 2 ya
noncomputable def xU:M Fl:=
 (seqS (setV 3 (fn1 minF (consA (op2 ixF (frz (lstA (consA (ret (.int 2)) (consA (ret (.int 3)) (consA (ret (.int 4)) (consA (ret (.int 10)) nilA)))))) (cbV 0 rE (consA (ret (.int 4)) nilA))) (consA (op2 ixF (frz (lstA (consA (ret (.int 10)) (consA (ret (.int 10)) (consA (ret (.int 5)) (consA (ret (.int 4)) nilA)))))) (nm 1)) nilA))))
  (seqS (setV 4 (cbV 0 rE (consA (op2 subI (ret (.int 11)) (nm 3)) nilA)))
  (seqS (setO 5 (lstA nilA))
  (seqS (forS (fn1 rngI1 (consA (cbV 0 rE (consA (op2 addF (nm 2) (ret (.int 1))) nilA)) nilA)) (tgN 6)
  (seqS (setV 7 (cbV 0 rE (consA (ret (.int 6)) nilA)))
  (seqS (setV 8 (cbV 0 wZ (consA (nm 1) (consA (nm 4) (consA (nm 3) nilA)))))
  (seqS (ifS (andT (tst (op2 (eqF false) (nm 7) (ret (.int 0)))) (tst (cmpN true 5 (frz (lstA nilA)))))
  (setV 8 (atN 5 (cbV 0 rE (consA (lenN 5) nilA)))) (ret .nx))
  (seqS (ifS (andT (tst (op2 (eqF false) (nm 7) (ret (.int 1)))) (tst (cmpN true 5 (frz (lstA nilA)))))
  (setV 8 (cbV 0 wa (consA (atN 5 (cbV 0 rE (consA (lenN 5) nilA))) nilA))) (ret .nx))
  (appS 5 (nm 8)))))))
  (retS (nm 5))))))
noncomputable def wt:List R->Option (R×List R):=fnD 9 3 xU
noncomputable def xR:M Fl:=
 (seqS (setV 2 (op2 addF (ret (.int 1)) (cbV 0 rE (consA (nm 1) nilA))))
  (seqS (setV 3 (cbV 0 rE (consA (ret (.int 4)) nilA)))
  (seqS (setO 4 (fn1 rngI1 (consA (nm 2) nilA)))
  (seqS (setV 5 (frz (compO 1 (fn1 rngI1 (consA (nm 2) nilA)) (tgN 0) (ret true) (popAt 5 (consA (cbV 1 rE (consA (lenN 5) nilA)) nilA)))))
  (seqS (setO 6 (lstA nilA))
  (seqS (forS (fn1 rngI2 (consA (ret (.int 1)) (consA (nm 2) nilA))) (tgN 7)
  (seqS (setV 8 (op2 ixF (frz (lstA (consA (op2 subI (nm 7) (ret (.int 1))) (consA (ret (.int 0)) (consA (cbV 0 rE (consA (nm 7) nilA)) (consA (cbV 0 rE (consA (nm 7) nilA)) nilA)))))) (nm 3)))
  (seqS (setV 9 (tupA (consA (fn1 minF (consA (op2 ixF (nm 5) (nm 7)) (consA (op2 ixF (nm 5) (nm 8)) nilA))) (consA (fn1 maxF (consA (op2 ixF (nm 5) (nm 7)) (consA (op2 ixF (nm 5) (nm 8)) nilA))) nilA))))
  (ifS (orT (tst (op2 ltI (nm 3) (ret (.int 3)))) (tst (op2 gtI (cbV 0 rE (consA (ret (.int 4)) nilA)) (ret (.int 0)))))
  (appS 6 (nm 9)) (ret .nx)))))
  (retS (tupA (consA (nm 2) (consA (fn1 tupF (consA (frz (fn1 sortF (consA (nm 6) nilA))) nilA)) nilA))))))))))
noncomputable def wT:List R->Option (R×List R):=fnD 10 2 xR
noncomputable def yP:M Fl:=
 (seqS (setV 4 (cbV 0 wt (consA (nm 2) (consA (nm 3) nilA))))
  (retO (compO 1 (itS (nm 4)) (tgN 0) (ret true) (tupA (consA (cbV 1 rE (consA (op2 ixF (nm 2) (ret (.int 0))) nilA)) (consA (nm 0) nilA))))))
noncomputable def xf:List R->Option (R×List R):=fnD 5 4 yP
noncomputable def yJ:M Fl:=
 (seqS (setV 4 (frz (fn1 (coF wJ) (consA (nm 0) (consA (nm 2) (consA (nm 3) nilA))))))
  (seqS (setV 5 (frz (compO 2 (itS (nm 1)) (tgTup 2 (tgCons (tgN 0) (tgCons (tgN 1) tgNil))) (tst (op2 (inF false) (nm 0) (nm 6))) (nm 1))))
  (seqS (setV 6 (frz (fn1 (coF sf) (consA (nm 0) (consA (nm 1) (consA (ret (.str "roof")) (consA (nm 2) (consA (nm 3) nilA))))))))
  (seqS (setV 7 (frz (fn1 (coF sf) (consA (nm 0) (consA (nm 1) (consA (ret (.str "spare")) (consA (nm 2) (consA (nm 3) nilA))))))))
  (seqS (ifS (orT (tst (op2 (eqF true) (nm 6) (frz (fn1 (coF ud) (consA (nm 5) nilA))))) (orT (tst (op2 (eqF true) (frz (compO 1 (itS (nm 7)) (tgN 0) (tst (op2 (inF true) (nm 0) (nm 6))) (ret (.int 1)))) (frz (lstA nilA)))) (tst (op2 (eqF true) (fn1 (cvF tL) (consA (nm 7) nilA)) (nm 7)))))
  (retS (ret (.bl false))) (ret .nx))
  (seqS (ifS (tst (op2 (eqF true) (frz (compO 1 (itS (nm 5)) (tgN 0) (tst (op2 (eqF false) (op2 ixF (fn1 (cvF t8) (consA (nm 8) (consA (nm 0) nilA))) (ret (.int 0))) (ret (.str "out")))) (ret (.int 1)))) (frz (lstA nilA))))
  (retS (ret (.bl false))) (ret .nx))
  (seqS (ifS (tst (op2 (eqF true) (frz (fn1 (coF sf) (consA (nm 0) (consA (frz (op2 catF (frz (op2 rvF (nm 1) (un1 negI (ret (.int 1))))) (sl3 slF (nm 1) (ret none) (prt (ret (.int 1)))))) (consA (ret (.str "roof")) (consA (nm 2) (consA (nm 3) nilA))))))) (nm 6)))
  (retS (ret (.bl false))) (ret .nx))
  (seqS (ifS (tst (op2 (eqF false) (nm 5) (frz (lstA nilA))))
  (retS (ret (.bl true))) (ret .nx))
  (seqS (setV 8 (op2 ixF (op2 ixF (op2 ixF (nm 5) (ret (.int 0))) (ret (.int 0))) (ret (.int 0))))
  (seqS (setV 9 (frz (lstA (consA (tupA (consA (op2 ixF (nm 4) (un1 negI (ret (.int 1)))) (consA (op2 addF (tupA (consA (tupA (consA (nm 8) (consA (nm 8) nilA))) nilA)) (sl3 slF (op2 ixF (nm 5) (ret (.int 0))) (prt (ret (.int 1))) (ret none))) nilA))) nilA))))
  (retS (op2 (eqF false) (frz (fn1 (coF sf) (consA (nm 0) (consA (frz (op2 catF (nm 1) (nm 9))) (consA (ret (.str "roof")) (consA (nm 2) (consA (nm 3) nilA))))))) (nm 6)))))))))))))
noncomputable def wv:List R->Option (R×List R):=fnD 10 4 yJ
noncomputable def xP:M Fl:=
 (seqS (asgS (fn1 (cvF t5) (consA (nm 0) (consA (nm 1) (consA (ret (.str "roof")) (consA (nm 2) (consA (nm 3) nilA)))))) (tgTup 2 (tgCons (tgN 4) (tgCons (tgN 5) tgNil))))
  (seqS (ifS (tst (op2 (eqF true) (fn1 (cvF t5) (consA (nm 0) (consA (nm 1) (consA (ret (.str "spare")) (consA (nm 2) (consA (nm 3) nilA)))))) (tupA (consA (nm 4) (consA (nm 5) nilA)))))
  (retS (ret (.bl false))) (ret .nx))
  (seqS (setK 6 dlit0)
  (seqS (forS (fn1 enumI (consA (nm 1) nilA)) (tgTup 2 (tgCons (tgN 7) (tgCons (tgTup 2 (tgCons (tgN 8) (tgCons (tgN 9) tgNil))) tgNil)))
  (seqS (setV 10 (altM (frz (fn1 (coF vn) (consA (nm 0) (consA (nm 2) (consA (nm 8) nilA))))) (fn1 (cvF vn) (consA (nm 0) (consA (nm 2) (consA (nm 8) nilA))))))
  (seqS (ifS (orT (andT (tst (op2 (eqF true) (fn1 (cvF tR) (consA (nm 9) (consA (nm 3) nilA))) (op2 (inF false) (nm 7) (nm 5)))) (tst (op2 (isNF true) (nm 10) (ret .non)))) (andT (tst (op2 (inF false) (nm 7) (nm 5))) (tst (op2 (isNF false) (nm 10) (ret .non)))))
  (retS (ret (.bl false))) (ret .nx))
  (ifS (tst (op2 (inF false) (nm 7) (nm 5)))
  (forS (fn1 zipI (consA (nm 10) (consA (sl3 slF (nm 10) (prt (ret (.int 1))) (ret none)) nilA))) (tgN 11)
  (putP 6 (nm 11) (ret (.bl true)))) (ret .nx)))))
  (retS (srtEq 6 (nm 4)))))))
noncomputable def uU:List R->Option (R×List R):=fnD 12 4 xP
noncomputable def zY:M Fl:=
 (seqS (setO 1 (fn1 (coF vz) (consA (nm 0) nilA)))
  (seqS (forS (fn1 rngI1 (consA (ret (.int 3)) nilA)) (tgN 2)
  (seqS (setV 3 (op2 addF (ret (.int 1)) (cbV 1 rE (consA (ret (.int 3)) nilA))))
  (seqS (setV 4 (cbV 1 wT (consA (ret (.int 7)) nilA)))
  (seqS (setV 5 (frz (cbO 1 xf (consA (nm 4) (consA (nm 3) (consA (ret (.int 6)) nilA))))))
  (seqS (forS (fn1 rngI1 (consA (op2 ixF (nm 4) (ret (.int 0))) nilA)) (tgN 6)
  (forS (itS (frz (fn1 (coF sZ) (consA (nm 4) (consA (nm 6) nilA))))) (tgN 7)
  (ifS (notT (tst (fn1 (cvF wv) (consA (nm 4) (consA (nm 5) (consA (nm 6) (consA (nm 7) nilA)))))))
  (retS (ret (.bl false))) (ret .nx))))
  (seqS (setV 8 (fn1 tupF (consA (frz (compO 1 (fn1 rngI1 (consA (nm 3) nilA)) (tgN 0) (ret true) (cbV 2 rE (consA (ret (.int 10)) nilA)))) nilA)))
  (seqS (ifS (tst (op2 (eqF true) (nm 5) (frz (lstA nilA))))
  (setV 8 (fn1 tupF (consA (frz (compO 1 (itS (op2 ixF (op2 ixF (nm 5) (ret (.int 0))) (ret (.int 1)))) (tgN 0) (ret true) (op2 ixF (nm 0) (cbV 2 rE (consA (ret (.int 2)) nilA))))) nilA))) (ret .nx))
  (forS (fn1 rngI1 (consA (op2 ixF (nm 4) (ret (.int 0))) nilA)) (tgN 6)
  (ifS (notT (tst (fn1 (cvF uU) (consA (nm 4) (consA (nm 5) (consA (nm 6) (consA (nm 8) nilA)))))))
  (retS (ret (.bl false))) (ret .nx))))))))))
  (retS (ret (.bl true)))))
noncomputable def tY:List R->Option (R×List R):=fnD 9 1 zY
theorem nk{N:List Str}(h:decide N.Nodup=true:=by kernel_rfl):N.Nodup:=of_decide_eq_true h
theorem en(i:Nat){B:BB}(hN:X.N[i]?=some x:=by rfl)(hv:visB X.env.scope x=true:=by rfl)(hd:(x == ("__debug__":Str))=false:=by decide)(ck:(x == ("__classdict__":Str))=false:=by decide):ED X B (.Name x pos) (nm i):=Gn (pv i hN hv hd ck)
noncomputable def top(i:Nat):Pb:=PySem.Challenge.pw_roofpost_k32_whole_tables_both_ways.main.body.getD i (.Pass ⟨0,0,0,0⟩)
noncomputable abbrev xA:Pb:=top 6
noncomputable abbrev xY:Pb:=top 7
noncomputable abbrev y9:Pb:=top 8
noncomputable abbrev xu:Pb:=top 9
noncomputable abbrev xm:Pb:=top 10
noncomputable abbrev za:Pb:=top 11
noncomputable abbrev yd:Pb:=top 13
noncomputable abbrev wM:Pb:=top 14
noncomputable abbrev zL:Pb:=top 15
noncomputable abbrev xt:Pb:=top 16
noncomputable abbrev zy:Pb:=top 17
noncomputable abbrev yl:Pb:=top 19
noncomputable abbrev yA:Pb:=top 20
noncomputable abbrev xN:Pb:=top 21
noncomputable abbrev yp:Pb:=top 22
noncomputable abbrev wW:Pb:=top 23
noncomputable abbrev xz:Pb:=top 24
noncomputable abbrev vW:Pb:=top 25
noncomputable abbrev xG:Pb:=top 27
noncomputable abbrev xJ:Pb:=top 28
noncomputable abbrev zO:Pb:=top 29
noncomputable abbrev vM:Pb:=top 30
noncomputable abbrev xW:Pb:=top 31
noncomputable abbrev wG:Pb:=top 32
noncomputable abbrev zd:Pb:=top 33
noncomputable abbrev xI:Pb:=top 35
noncomputable abbrev zz:Pb:=top 36
noncomputable abbrev x0:Pb:=top 37
noncomputable abbrev Ab:Pb:=top 38
noncomputable abbrev z0:Pb:=top 39
noncomputable abbrev xk:Pb:=top 40
noncomputable abbrev yB:Pb:=top 41
noncomputable abbrev xE:Pb:=top 42
noncomputable abbrev yh:Pb:=top 43
noncomputable abbrev zZ:Pb:=top 44
noncomputable abbrev yq:Pb:=top 45
structure Cd(P:C_)(w:J_)(K:PySem.W.Frag)(mg:Str->Option b_)(base:I_)(k:Nat)(f:l_)(fd:Qt)(ps:List Str)(g:List R->Option (R×List R))(x:Str):Prop where
 G:FnOk P w K mg base CX0 k f fd ps (spD K g)
 b:Binds K fd ps []
 p:Qw K (.ref f)=true
 m:mg x=some (.ref f)
abbrev tU(P w K mg base f fd):=Cd P w K mg base 2 f fd ["things"] rY "must_be_kin"
abbrev yS(P w K mg base f fd):=Cd P w K mg base 3 f fd ["wish", "letter"] tR "has_letter"
abbrev xQ(P w K mg base f fd):=Cd P w K mg base 3 f fd ["one", "other"] va "covers"
abbrev Bv(P w K mg base f fd):=Cd P w K mg base 3 f fd ["one", "other"] wO "in_common"
abbrev zq(P w K mg base f fd):=Cd P w K mg base 5 f fd ["wishes"] ud "roof_of"
abbrev FN(P w K mg base f fd):=Cd P w K mg base 4 f fd ["wishes", "wish"] vV "is_under_another"
abbrev AJ(P w K mg base f fd):=Cd P w K mg base 46 f fd ["wishes", "wish"] t8 "covered"
abbrev Hq(P w K mg base f fd):=Cd P w K mg base 45 f fd ["wishes", "numbers", "part"] (tX 40) "looked_through"
abbrev DE(P w K mg base f fd):=Cd P w K mg base 2 f fd ["wishes", "part"] vS "first_border"
abbrev Dy(P w K mg base f fd):=Cd P w K mg base 2 f fd ["part", "field", "at"] wQ "halves_of"
abbrev DQ(P w K mg base f fd):=Cd P w K mg base 47 f fd ["wishes"] tL "spare_of"
abbrev vF(P w K mg base f fd):=Cd P w K mg base 2 f fd ["web", "house"] sQ "must_be_house"
abbrev Dq(P w K mg base f fd):=Cd P w K mg base 4 f fd ["web", "one", "other"] u0 "must_be_road"
abbrev sJ(P w K mg base f fd):=Cd P w K mg base 3 f fd ["web", "house"] sZ "neighbours_of"
abbrev Iy(P w K mg base f fd):=Cd P w K mg base 27 f fd ["web", "one", "other"] vn "way_between"
abbrev Jf(P w K mg base f fd):=Cd P w K mg base 26 f fd ["web", "came", "house", "other"] (tP 21) "way_on"
abbrev Fn(P w K mg base f fd):=Cd P w K mg base 26 f fd ["web", "house", "neighbour"] wJ "houses_behind"
abbrev F5(P w K mg base f fd):=Cd P w K mg base 25 f fd ["web", "came", "house"] (tz 20) "houses_from"
abbrev AH(P w K mg base f fd):=Cd P w K mg base 48 f fd ["how", "wishes"] xb "short_of"
abbrev w6(P w K mg base f fd):=Cd P w K mg base 2 f fd ["holds"] tf "wishes_of"
abbrev Fu(P w K mg base f fd):=Cd P w K mg base 71 f fd ["web", "holds", "how", "house", "neighbour"] sf "table_of"
abbrev Do(P w K mg base f fd):=Cd P w K mg base 70 f fd ["web", "holds", "how", "house", "neighbour"] (ua 20) "heard_of"
abbrev Lv(P w K mg base f fd):=Cd P w K mg base 94 f fd ["web", "holds", "how", "house", "letter"] t5 "led_by"
abbrev HD(P w K mg base f fd):=Cd P w K mg base 93 f fd ["web", "holds", "how", "came", "house", "letter"] (tE 20) "roads_on"
abbrev CD(P w K mg base f fd):=Cd P w K mg base 71 f fd ["web", "holds", "how", "house", "neighbour", "letter"] wX "leading"
abbrev KI(P w K mg base f fd):=Cd P w K mg base 2 f fd ["cell", "at"] vy "_law_blend"
abbrev Gc(P w K mg base f fd):=Cd P w K mg base 2 f fd ["script"] vz "_law_pot"
abbrev uw(P w K mg base f fd):=Cd P w K mg base 3 f fd ["pot", "upto"] rE "_law_pick"
abbrev KW(P w K mg base f fd):=Cd P w K mg base 4 f fd ["pot", "fields", "low", "top"] wZ "_law_wish"
abbrev Mx(P w K mg base f fd):=Cd P w K mg base 5 f fd ["pot", "fields", "most"] wt "_law_wishes"
abbrev IB(P w K mg base f fd):=Cd P w K mg base 4 f fd ["pot", "wish"] wa "_law_nudged"
abbrev JW(P w K mg base f fd):=Cd P w K mg base 4 f fd ["pot", "most"] wT "_law_web"
abbrev LP(P w K mg base f fd):=Cd P w K mg base 6 f fd ["pot", "web", "fields", "most"] xf "_law_holds"
abbrev EM(P w K mg base f fd):=Cd P w K mg base 72 f fd ["web", "holds", "one", "other"] wv "_law_lane_right"
abbrev Kz(P w K mg base f fd):=Cd P w K mg base 95 f fd ["web", "holds", "house", "letter"] uU "_law_led_right"
section
variable{P:C_}{w:J_}{K:PySem.W.Frag}
theorem Gr:FnScope ["things", "thing"] ["things"] (defScope xA):=⟨rfl,rfl,rfl,by decide +kernel,rfl,by decide +kernel,by decide +kernel⟩
theorem IU(F:Fun K "must_be_kin" "must_be_kin" xA f fd)(aq:mg "len"=none):FnOk P w K mg base CX0 2 f fd ["things"] (spD K rY):=
 rf (k:=1) (N:=["things", "thing"]) F Gr Ag (λaA A outer s H E B hr=>rb
  (qU (rL Rs rfl (rC (en 0)) (gd_n (i:=1) (m:=100) nk)
  (qU (rh (rX hr (tM rfl aq (f' (en 1) gV rfl)) (tM rfl aq (f' (qV (en 0) pU) gV rfl)))
  (qU (qS Af)) rj)))))
theorem IQ:FnScope ["wish", "letter"] ["wish", "letter"] (defScope xY):=⟨rfl,rfl,rfl,by decide +kernel,rfl,by decide +kernel,by decide +kernel⟩
theorem JX(F:Fun K "has_letter" "has_letter" xY f fd){aM' aH'}(aS:tU P w K mg base aM' aH')(bh:mg "zip"=none)(cx:mg "all"=none):FnOk P w K mg base CX0 3 f fd ["wish", "letter"] (spD K tR):=
 rf (k:=2) (N:=["wish", "letter"]) F IQ zf (λaA A outer s H E B hr=>rb
  (qk (qS (rV (ra aS.G (hr.mono (by decide)) rfl aS.m aS.p aS.b (f' (qW (rq (f' (en 0) (f' (en 1) gV rfl) rfl))) gV rfl))))
  (qU (qS (rc (A1 rfl rfl cx (f' (qW (rQ (N':=["pair", "number", "-wish", "-letter"]) (m:=2) (CompScope.of (by kernel_rfl)) rfl (zv rfl bh (f' (en 0) (f' (en 1) gV rfl) rfl)) (λ_ _ _ _=>(sn (m:=2) rfl (rH (gd_n (i:=0) (m:=2) nk) (rH (gd_n (i:=1) (m:=2) nk) so)))) (λ_ _ _ _=>sy) (λ_ _ _ _=>(J3 (qV (en 0) pU) (en 1) (qV (en 0) pU))))) gV rfl)))))))
theorem FO:FnScope ["one", "other"] ["one", "other"] (defScope y9):=⟨rfl,rfl,rfl,by decide +kernel,rfl,by decide +kernel,by decide +kernel⟩
theorem JY(F:Fun K "covers" "covers" y9 f fd){aM' aH'}(aS:tU P w K mg base aM' aH')(bh:mg "zip"=none)(cx:mg "all"=none):FnOk P w K mg base CX0 3 f fd ["one", "other"] (spD K va):=
 rf (k:=2) (N:=["one", "other"]) F FO xX (λaA A outer s H E B hr=>rb
  (qk (qS (rV (ra aS.G (hr.mono (by decide)) rfl aS.m aS.p aS.b (f' (qW (rq (f' (en 0) (f' (en 1) gV rfl) rfl))) gV rfl))))
  (qU (qS (rc (A1 rfl rfl cx (f' (qW (rQ (N':=["wide", "pair", "-one", "-other"]) (m:=2) (CompScope.of (by kernel_rfl)) rfl (zv rfl bh (f' (en 0) (f' (en 1) gV rfl) rfl)) (λ_ _ _ _=>(sn (m:=2) rfl (rH (gd_n (i:=0) (m:=2) nk) (rH (gd_n (i:=1) (m:=2) nk) so)))) (λ_ _ _ _=>sy) (λ_ _ _ _=>(AV (B9 (qV (en 0) pU) (qV (en 1) pU)) (Am (B9 (qV (en 1) pU) (qV (en 0) pU))))))) gV rfl)))))))
theorem K6:FnScope ["one", "other", "shared", "pair", "twin", "low", "high"] ["one", "other"] (defScope xu):=⟨rfl,rfl,rfl,by decide +kernel,rfl,by decide +kernel,by decide +kernel⟩
theorem Hv(F:Fun K "in_common" "in_common" xu f fd){aM' aH'}(aS:tU P w K mg base aM' aH')(bh:mg "zip"=none)(bc:mg "max"=none)(aP:mg "min"=none)(aF:mg "tuple"=none):FnOk P w K mg base CX0 3 f fd ["one", "other"] (spD K wO):=
 rf (k:=2) (N:=["one", "other", "shared", "pair", "twin", "low", "high"]) F K6 zG (λaA A outer s H E B hr=>rb
  (qk (qS (rV (ra aS.G (hr.mono (by decide)) rfl aS.m aS.p aS.b (f' (qW (rq (f' (en 0) (f' (en 1) gV rfl) rfl))) gV rfl))))
  (qk (qS (su (i:=2) nk (rq gV)))
  (qk (rL Rs rfl (zv rfl bh (f' (en 0) (f' (en 1) gV rfl) rfl)) (sn (m:=100) rfl (rH (gd_n (i:=3) (m:=100) nk) (rH (gd_n (i:=4) (m:=100) nk) so)))
  (qk (qY (i:=5) nk (vA rfl rfl bc (f' (qV (en 3) pU) (f' (qV (en 4) pU) gV rfl) rfl)))
  (qk (qY (i:=6) nk (uD rfl rfl aP (f' (qV (en 3) pU) (f' (qV (en 4) pU) gV rfl) rfl)))
  (qk (rh (yL (en 5) (en 6))
  (qU (qS (rc sF))) rj)
  (qU (qS (ub (pv 2) (rA (f' (en 5) (f' (en 6) gV rfl) rfl)))))))))
  (qU (qS (rc (uK rfl aF (f' (en 2) gV rfl)))))))))
theorem Ej:FnScope ["wishes", "unlike"] ["wishes"] (defScope xm):=⟨rfl,rfl,rfl,by decide +kernel,rfl,by decide +kernel,by decide +kernel⟩
theorem II(F:Fun K "roof_of" "roof_of" xm f fd){aM' aH'}(aS:tU P w K mg base aM' aH'){gM' ga'}(iY:FN P w K mg base gM' ga')(az:mg "sorted"=none)(fk:mg "set"=none):FnOk P w K mg base CX0 5 f fd ["wishes"] (spD K ud):=
 rf (k:=4) (N:=["wishes", "unlike"]) F Ej yk (λaA A outer s H E B hr=>rb
  (qk (qS (rV (ra aS.G (hr.mono (by decide)) rfl aS.m aS.p aS.b (f' (en 0) gV rfl))))
  (qk (qY (i:=1) nk (qW (Jw hr rfl az rfl fk (f' (en 0) gV rfl))))
  (qU (qS (rZ (rQ (N':=["wish", "-wishes", "unlike"]) (m:=1) (CompScope.of (by kernel_rfl)) rfl (rC (en 1)) (λ_ _ _ _=>(gd_n (i:=0) (m:=1) nk)) (λ_ _ _ _=>(sH (wq (um (ra iY.G (hr.mono (by decide)) rfl iY.m iY.p iY.b (f' (en 2) (f' (en 0) gV rfl) rfl)))))) (λ_ _ _ _=>(en 0)))))))))
theorem LD:FnScope ["wishes", "wish"] ["wishes", "wish"] (defScope za):=⟨rfl,rfl,rfl,by decide +kernel,rfl,by decide +kernel,by decide +kernel⟩
theorem Fv(F:Fun K "is_under_another" "is_under_another" za f fd){eG' dP'}(cH:xQ P w K mg base eG' dP')(fm:mg "any"=none):FnOk P w K mg base CX0 4 f fd ["wishes", "wish"] (spD K vV):=
 rf (k:=3) (N:=["wishes", "wish"]) F LD xx (λaA A outer s H E B hr=>rb
  (qU (qS (rc (HR rfl rfl fm (f' (qW (rQ (N':=["one", "-wishes", "wish"]) (m:=1) (CompScope.of (by kernel_rfl)) rfl (rC (en 0)) (λ_ _ _ _=>(gd_n (i:=0) (m:=1) nk)) (λ_ _ _ _=>sy) (λ_ _ _ _=>(AV (Iv hr (en 0) (en 2)) (Am (ra cH.G (hr.mono (by decide)) rfl cH.m cH.p cH.b (f' (en 0) (f' (en 2) gV rfl) rfl))))))) gV rfl))))))
theorem EJ:FnScope ["wishes", "wish"] ["wishes", "wish"] (defScope yd):=⟨rfl,rfl,rfl,by decide +kernel,rfl,by decide +kernel,by decide +kernel⟩
theorem IL(F:Fun K "covered" "covered" yd f fd){aM' aH'}(aS:tU P w K mg base aM' aH'){il' hA'}(iZ:Hq P w K mg base il' hA')(aq:mg "len"=none)(bu:mg "list"=none)(aD:mg "range"=none):FnOk P w K mg base CX0 46 f fd ["wishes", "wish"] (spD K t8):=
 rf (k:=45) (N:=["wishes", "wish"]) F EJ zW (λaA A outer s H E B hr=>rb
  (qk (qS (rV (ra aS.G (hr.mono (by decide)) rfl aS.m aS.p aS.b (f' (qW (ur (qW (rq (f' (en 1) gV rfl))) (en 0))) gV rfl))))
  (qU (qS (rc (ra iZ.G (hr.mono (by decide)) rfl iZ.m iZ.p iZ.b (f' (en 0) (f' (qW (Cp rfl rfl bu rfl aD (f' (tM rfl aq (f' (en 0) gV rfl)) gV rfl))) (f' (en 1) gV rfl) rfl) rfl)))))))
theorem FG:FnScope ["wishes", "numbers", "part", "near", "k", "place", "halves", "one", "other"] ["wishes", "numbers", "part"] (defScope wM):=⟨rfl,rfl,rfl,by decide +kernel,rfl,by decide +kernel,by decide +kernel⟩
theorem Lm{g:List R->Option (R×List R)}(hk:4<=kk)(F:Fun K "looked_through" "looked_through" wM f fd)(G:FnOk P w K mg base CX0 kk f fd ["wishes", "numbers", "part"] (spD K g)){fg' eH'}(fo:Bv P w K mg base fg' eH'){eG' dP'}(cH:xQ P w K mg base eG' dP'){dz' df'}(fq:DE P w K mg base dz' df'){fh' eI'}(ft:Dy P w K mg base fh' eI')(aq:mg "len"=none)(aF:mg "tuple"=none)(hX:Binds K fd ["wishes", "numbers", "part"] [])(hZ:Qw K (.ref f)=true)(h9:mg "looked_through"=some (.ref f)):FnOk P w K mg base CX0 (kk+1) f fd ["wishes", "numbers", "part"] (spD K (fnD 9 3 (xj g))):=
 rf (N:=["wishes", "numbers", "part", "near", "k", "place", "halves", "one", "other"]) F FG (xj g) (λaA A outer s H E B hr=>rb
  (qk (qS (yU (i:=3) (N':=["k", "wishes", "-numbers", "part", "-near", "-k", "-place", "-halves", "-one", "-other"]) (m:=1) (CompScope.of (by kernel_rfl)) rfl nk (rC (en 1)) (λ_ _ _ _=>(gd_n (i:=0) (m:=1) nk)) (λ_ _ _ _=>(sH (yu (ra fo.G (hr.mono (E_ (by decide) hk)) rfl fo.m fo.p fo.b (f' (qV (en 1) (en 0)) (f' (en 3) gV rfl) rfl)) sF))) (λ_ _ _ _=>(en 0))))
  (qk (rh (sh hr (tM rfl aq (f' (en 3) gV rfl)) pU)
  (qU (qS (rc (rA (f' rP (f' (uK rfl aF (f' (qW (rQ (N':=["pair", "-wishes", "-numbers", "-part", "-near", "-k", "-place", "-halves", "-one", "-other"]) (m:=1) (CompScope.of (by kernel_rfl)) rfl (rC (en 2)) (λ_ _ _ _=>(gd_n (i:=0) (m:=1) nk)) (λ_ _ _ _=>sy) (λ_ _ _ _=>(qV (en 0) pU)))) gV rfl)) gV rfl) rfl))))) rj)
  (qk (rL Rs rfl (rC (en 3)) (gd_n (i:=4) (m:=100) nk)
  (qU (rh (um (ra cH.G (hr.mono (E_ (by decide) hk)) rfl cH.m cH.p cH.b (f' (qV (en 0) (en 4)) (f' (en 2) gV rfl) rfl)))
  (qU (qS (rc (rA (f' rP (f' (rA (f' rP (f' (en 4) gV rfl) rfl)) gV rfl) rfl))))) rj)))
  (qk (qY (i:=5) nk (ra fq.G (hr.mono (E_ (by decide) hk)) rfl fq.m fq.p fq.b (f' (qW (rQ (N':=["k", "wishes", "-numbers", "-part", "-near", "-k", "-place", "-halves", "-one", "-other"]) (m:=1) (CompScope.of (by kernel_rfl)) rfl (rC (en 3)) (λ_ _ _ _=>(gd_n (i:=0) (m:=1) nk)) (λ_ _ _ _=>sy) (λ_ _ _ _=>(qV (en 1) (en 0))))) (f' (en 2) gV rfl) rfl)))
  (qk (qY (i:=6) nk (ra ft.G (hr.mono (E_ (by decide) hk)) rfl ft.m ft.p ft.b (f' (en 2) (f' (qV (en 5) pU) (f' (qV (en 5) pU) gV rfl) rfl) rfl)))
  (qk (qY (i:=7) nk (ra G hr rfl h9 hZ hX (f' (en 0) (f' (en 3) (f' (qV (en 6) pU) gV rfl) rfl) rfl)))
  (qk (rh (sh hr (qV (en 7) pU) rP)
  (qU (qS (rc (en 7)))) rj)
  (qk (qY (i:=8) nk (ra G hr rfl h9 hZ hX (f' (en 0) (f' (en 3) (f' (qV (en 6) pU) gV rfl) rfl) rfl)))
  (qk (rh (sh hr (qV (en 8) pU) rP)
  (qU (qS (rc (en 8)))) rj)
  (qU (qS (rc (rA (f' rP (f' (rA (rK rP (qV (en 5) pU) (qV (en 5) pU) (qV (en 7) pU) (f' (qV (en 8) pU) gV rfl) rfl rfl rfl rfl)) gV rfl) rfl)))))))))))))))
theorem Ck{f:l_}{fd:Qt}(F:Fun K "looked_through" "looked_through" wM f fd){fg' eH'}(fo:Bv P w K mg base fg' eH'){eG' dP'}(cH:xQ P w K mg base eG' dP'){dz' df'}(fq:DE P w K mg base dz' df'){fh' eI'}(ft:Dy P w K mg base fh' eI')(aq:mg "len"=none)(aF:mg "tuple"=none)(hX:Binds K fd ["wishes", "numbers", "part"] [])(hZ:Qw K (.ref f)=true)(h9:mg "looked_through"=some (.ref f)):∀n:Nat,FnOk P w K mg base CX0 (5+n) f fd ["wishes", "numbers", "part"] (spD K (tX n))
 | 0=>tJ
 | n+1=>Lm (E_ (by decide) (Pz _ n)) F (Ck F fo cH fq ft aq aF hX hZ h9 n) fo cH fq ft aq aF hX hZ h9
theorem Kx:FnScope ["wishes", "part", "places", "field", "pair", "wish"] ["wishes", "part"] (defScope zL):=⟨rfl,rfl,rfl,by decide +kernel,rfl,by decide +kernel,by decide +kernel⟩
theorem JB(F:Fun K "first_border" "first_border" zL f fd)(aC:mg "enumerate"=none)(aP:mg "min"=none):FnOk P w K mg base CX0 2 f fd ["wishes", "part"] (spD K vS):=
 rf (k:=1) (N:=["wishes", "part", "places", "field", "pair", "wish"]) F Kx y0 (λaA A outer s H E B hr=>rb
  (qk (qS (su (i:=2) nk (rq gV)))
  (qk (rL Rs rfl (wL rfl aC (f' (en 1) gV rfl)) (sn (m:=100) rfl (rH (gd_n (i:=3) (m:=100) nk) (rH (gd_n (i:=4) (m:=100) nk) so)))
  (qU (rL Rs rfl (rC (en 0)) (gd_n (i:=5) (m:=100) nk)
  (qk (rh (uY (qV (en 4) pU) (qV (qV (en 5) (en 3)) pU))
  (qU (qS (ub (pv 2) (rA (f' (en 3) (f' (u6 (qV (qV (en 5) (en 3)) pU) pU) gV rfl) rfl))))) rj)
  (qU (rh (uY (qV (qV (en 5) (en 3)) pU) (qV (en 4) pU))
  (qU (qS (ub (pv 2) (rA (f' (en 3) (f' (qV (qV (en 5) (en 3)) pU) gV rfl) rfl))))) rj))))))
  (qU (qS (rc (GP rfl hr rfl aP (f' (en 2) gV rfl))))))))
theorem Gp:FnScope ["part", "field", "at", "ahead", "behind", "low", "high"] ["part", "field", "at"] (defScope xt):=⟨rfl,rfl,rfl,by decide +kernel,rfl,by decide +kernel,by decide +kernel⟩
theorem GV(F:Fun K "halves_of" "halves_of" xt f fd) :FnOk P w K mg base CX0 2 f fd ["part", "field", "at"] (spD K wQ):=
 rf (k:=1) (N:=["part", "field", "at", "ahead", "behind", "low", "high"]) F Gp zE (λaA A outer s H E B hr=>rb
  (qk (qY (i:=3) nk (sP (en 0) tQ (sD (en 1))))
  (qk (qY (i:=4) nk (sP (en 0) (sD (rz (en 1) pU)) tQ))
  (qk (qY (i:=5) nk (qV (qV (en 0) (en 1)) pU))
  (qk (qY (i:=6) nk (qV (qV (en 0) (en 1)) pU))
  (qU (qS (rc (rA (f' (rz (rz (en 3) (rA (f' (rA (f' (en 5) (f' (en 2) gV rfl) rfl)) gV rfl))) (en 4)) (f' (rz (rz (en 3) (rA (f' (rA (f' (rz (en 2) pU) (f' (en 6) gV rfl) rfl)) gV rfl))) (en 4)) gV rfl) rfl))))))))))
theorem Jv:FnScope ["wishes", "roof", "stay", "wish", "others"] ["wishes"] (defScope zy):=⟨rfl,rfl,rfl,by decide +kernel,rfl,by decide +kernel,by decide +kernel⟩
theorem El(F:Fun K "spare_of" "spare_of" zy f fd){dQ' dg'}(bZ:zq P w K mg base dQ' dg'){gN' f2'}(dJ:AJ P w K mg base gN' f2'):FnOk P w K mg base CX0 47 f fd ["wishes"] (spD K tL):=
 rf (k:=46) (N:=["wishes", "roof", "stay", "wish", "others"]) F Jv wP (λaA A outer s H E B hr=>rb
  (qk (qS (Lc (i:=1) nk (rB bZ.G (hr.mono (by decide)) rfl bZ.m bZ.p bZ.b (f' (en 0) gV rfl))))
  (qk (qS (Bz (i:=2) (j:=1) nk (pv 1)))
  (qk (rL Rs rfl (rC (en 1)) (gd_n (i:=3) (m:=100) nk)
  (qk (qS (LW (i:=4) (N':=["one", "-wishes", "-roof", "-stay", "wish", "-others"]) (m:=1) (CompScope.of (by kernel_rfl)) rfl nk (rC (en 2)) (λ_ _ _ _=>(gd_n (i:=0) (m:=1) nk)) (λ_ _ _ _=>(sH (rX hr (en 0) (en 4)))) (λ_ _ _ _=>(en 0))))
  (qU (rh (sh hr (qV (ra dJ.G (hr.mono (by decide)) rfl dJ.m dJ.p dJ.b (f' (en 4) (f' (en 3) gV rfl) rfl)) pU) rP)
  (qU (qS (Bz (i:=2) (j:=4) nk (pv 4)))) rj))))
  (qU (qS (IT (pv 2))))))))
theorem Ly:FnScope ["web", "house"] ["web", "house"] (defScope yl):=⟨rfl,rfl,rfl,by decide +kernel,rfl,by decide +kernel,by decide +kernel⟩
theorem IF(F:Fun K "must_be_house" "must_be_house" yl f fd) :FnOk P w K mg base CX0 2 f fd ["web", "house"] (spD K sQ):=
 rf (k:=1) (N:=["web", "house"]) F Ly yI (λaA A outer s H E B hr=>rb
  (qU (rh (wq (Ks pU (en 1) (qV (en 0) pU)))
  (qU (qS Af)) rj)))
theorem Ig:FnScope ["web", "one", "other"] ["web", "one", "other"] (defScope yA):=⟨rfl,rfl,rfl,by decide +kernel,rfl,by decide +kernel,by decide +kernel⟩
theorem LJ(F:Fun K "must_be_road" "must_be_road" yA f fd){bc' a8'}(bf:vF P w K mg base bc' a8'){as' ap'}(aO:sJ P w K mg base as' ap'):FnOk P w K mg base CX0 4 f fd ["web", "one", "other"] (spD K u0):=
 rf (k:=3) (N:=["web", "one", "other"]) F Ig zo (λaA A outer s H E B hr=>rb
  (qk (qS (rV (ra bf.G (hr.mono (by decide)) rfl bf.m bf.p bf.b (f' (en 0) (f' (en 1) gV rfl) rfl))))
  (qk (qS (rV (ra bf.G (hr.mono (by decide)) rfl bf.m bf.p bf.b (f' (en 0) (f' (en 2) gV rfl) rfl))))
  (qU (rh (AY hr (en 2) (qW (rB aO.G (hr.mono (by decide)) rfl aO.m aO.p aO.b (f' (en 0) (f' (en 1) gV rfl) rfl))))
  (qU (qS Af)) rj)))))
theorem Ie:FnScope ["web", "house"] ["web", "house"] (defScope xN):=⟨rfl,rfl,rfl,by decide +kernel,rfl,by decide +kernel,by decide +kernel⟩
theorem Mk(F:Fun K "neighbours_of" "neighbours_of" xN f fd){bc' a8'}(bf:vF P w K mg base bc' a8')(az:mg "sorted"=none):FnOk P w K mg base CX0 3 f fd ["web", "house"] (spD K sZ):=
 rf (k:=2) (N:=["web", "house"]) F Ie yG (λaA A outer s H E B hr=>rb
  (qk (qS (rV (ra bf.G (hr.mono (by decide)) rfl bf.m bf.p bf.b (f' (en 0) (f' (en 1) gV rfl) rfl))))
  (qU (qS (rZ (wc hr rfl az (f' (qW (rQ (N':=["road", "-web", "house"]) (m:=1) (CompScope.of (by kernel_rfl)) rfl (rC (qV (en 0) pU)) (λ_ _ _ _=>(gd_n (i:=0) (m:=1) nk)) (λ_ _ _ _=>(sH (uT hr (en 2) (en 0)))) (λ_ _ _ _=>(Ma (sh hr (qV (en 0) pU) (en 2)) (qV (en 0) pU) (qV (en 0) pU))))) gV rfl)))))))
theorem HN:FnScope ["web", "one", "other"] ["web", "one", "other"] (defScope yp):=⟨rfl,rfl,rfl,by decide +kernel,rfl,by decide +kernel,by decide +kernel⟩
theorem KP(F:Fun K "way_between" "way_between" yp f fd){bc' a8'}(bf:vF P w K mg base bc' a8'){rf' pX'}(eJ:Jf P w K mg base rf' pX'):FnOk P w K mg base CX0 27 f fd ["web", "one", "other"] (spD K vn):=
 rf (k:=26) (N:=["web", "one", "other"]) F HN zU (λaA A outer s H E B hr=>rb
  (qk (qS (rV (ra bf.G (hr.mono (by decide)) rfl bf.m bf.p bf.b (f' (en 0) (f' (en 1) gV rfl) rfl))))
  (qk (qS (rV (ra bf.G (hr.mono (by decide)) rfl bf.m bf.p bf.b (f' (en 0) (f' (en 2) gV rfl) rfl))))
  (qU (qS (L4 (rZ (rB eJ.G (hr.mono (by decide)) rfl eJ.m eJ.p eJ.b (rK (en 0) sF (en 1) (en 2) gV rfl rfl rfl rfl))) (rc (ra eJ.G (hr.mono (by decide)) rfl eJ.m eJ.p eJ.b (rK (en 0) sF (en 1) (en 2) gV rfl rfl rfl rfl)))))))))
theorem JO:FnScope ["web", "came", "house", "other", "neighbour", "way"] ["web", "came", "house", "other"] (defScope wW):=⟨rfl,rfl,rfl,by decide +kernel,rfl,by decide +kernel,by decide +kernel⟩
theorem GF{g:List R->Option (R×List R)}(hk:4<=kk)(F:Fun K "way_on" "way_on" wW f fd)(G:FnOk P w K mg base CX0 kk f fd ["web", "came", "house", "other"] (spD K g)){as' ap'}(aO:sJ P w K mg base as' ap')(ic:Binds K fd ["web", "came", "house", "other"] [])(ii:Qw K (.ref f)=true)(ij:mg "way_on"=some (.ref f)):FnOk P w K mg base CX0 (kk+1) f fd ["web", "came", "house", "other"] (spD K (fnD 6 4 (vG g))):=
 rf (N:=["web", "came", "house", "other", "neighbour", "way"]) F JO (vG g) (λaA A outer s H E B hr=>rb
  (qk (rh (sh hr (en 2) (en 3))
  (qU (qS (rZ (rq (f' (en 2) gV rfl))))) rj)
  (qk (rL Rs rfl (rC (qW (rB aO.G (hr.mono (E_ (by decide) hk)) rfl aO.m aO.p aO.b (f' (en 0) (f' (en 2) gV rfl) rfl)))) (gd_n (i:=4) (m:=100) nk)
  (qU (rh (rX hr (en 4) (en 1))
  (qk (qY (i:=5) nk (Dp (qW (rB G hr rfl ij ii ic (rK (en 0) (en 2) (en 4) (en 3) gV rfl rfl rfl rfl))) (ra G hr rfl ij ii ic (rK (en 0) (en 2) (en 4) (en 3) gV rfl rfl rfl rfl))))
  (qU (rh (yu (en 5) sF)
  (qU (qS (rZ (ur (qW (rq (f' (en 2) gV rfl))) (en 5))))) rj))) rj)))
  (qU (qS (rc sF))))))
theorem CV{f:l_}{fd:Qt}(F:Fun K "way_on" "way_on" wW f fd){as' ap'}(aO:sJ P w K mg base as' ap')(ic:Binds K fd ["web", "came", "house", "other"] [])(ii:Qw K (.ref f)=true)(ij:mg "way_on"=some (.ref f)):∀n:Nat,FnOk P w K mg base CX0 (5+n) f fd ["web", "came", "house", "other"] (spD K (tP n))
 | 0=>tJ
 | n+1=>GF (E_ (by decide) (Pz _ n)) F (CV F aO ic ii ij n) aO ic ii ij
theorem GH:FnScope ["web", "house", "neighbour"] ["web", "house", "neighbour"] (defScope xz):=⟨rfl,rfl,rfl,by decide +kernel,rfl,by decide +kernel,by decide +kernel⟩
theorem Ff(F:Fun K "houses_behind" "houses_behind" xz f fd){dA' dh'}(dL:Dq P w K mg base dA' dh'){kt' jz'}(i0:F5 P w K mg base kt' jz')(az:mg "sorted"=none):FnOk P w K mg base CX0 26 f fd ["web", "house", "neighbour"] (spD K wJ):=
 rf (k:=25) (N:=["web", "house", "neighbour"]) F GH yK (λaA A outer s H E B hr=>rb
  (qk (qS (rV (ra dL.G (hr.mono (by decide)) rfl dL.m dL.p dL.b (f' (en 0) (f' (en 1) (f' (en 2) gV rfl) rfl) rfl))))
  (qU (qS (rZ (wc hr rfl az (f' (ra i0.G (hr.mono (by decide)) rfl i0.m i0.p i0.b (f' (en 0) (f' (en 1) (f' (en 2) gV rfl) rfl) rfl)) gV rfl)))))))
theorem IA:FnScope ["web", "came", "house", "houses", "neighbour"] ["web", "came", "house"] (defScope vW):=⟨rfl,rfl,rfl,by decide +kernel,rfl,by decide +kernel,by decide +kernel⟩
theorem F8{g:List R->Option (R×List R)}(hk:4<=kk)(F:Fun K "houses_from" "houses_from" vW f fd)(G:FnOk P w K mg base CX0 kk f fd ["web", "came", "house"] (spD K g)){as' ap'}(aO:sJ P w K mg base as' ap')(i4:Binds K fd ["web", "came", "house"] [])(i5:Qw K (.ref f)=true)(i6:mg "houses_from"=some (.ref f)):FnOk P w K mg base CX0 (kk+1) f fd ["web", "came", "house"] (spD K (fnD 5 3 (vX g))):=
 rf (N:=["web", "came", "house", "houses", "neighbour"]) F IA (vX g) (λaA A outer s H E B hr=>rb
  (qk (qS (su (i:=3) nk (rq (f' (en 2) gV rfl))))
  (qk (rL Rs rfl (rC (qW (rB aO.G (hr.mono (E_ (by decide) hk)) rfl aO.m aO.p aO.b (f' (en 0) (f' (en 2) gV rfl) rfl)))) (gd_n (i:=4) (m:=100) nk)
  (qU (rh (rX hr (en 4) (en 1))
  (qU (qS (Aa (pv 3) (ra G hr rfl i6 i5 i4 (f' (en 0) (f' (en 2) (f' (en 4) gV rfl) rfl) rfl))))) rj)))
  (qU (qS (rc (en 3)))))))
theorem BY{f:l_}{fd:Qt}(F:Fun K "houses_from" "houses_from" vW f fd){as' ap'}(aO:sJ P w K mg base as' ap')(i4:Binds K fd ["web", "came", "house"] [])(i5:Qw K (.ref f)=true)(i6:mg "houses_from"=some (.ref f)):∀n:Nat,FnOk P w K mg base CX0 (5+n) f fd ["web", "came", "house"] (spD K (tz n))
 | 0=>tJ
 | n+1=>F8 (E_ (by decide) (Pz _ n)) F (BY F aO i4 i5 i6 n) aO i4 i5 i6
theorem FS:FnScope ["how", "wishes"] ["how", "wishes"] (defScope xG):=⟨rfl,rfl,rfl,by decide +kernel,rfl,by decide +kernel,by decide +kernel⟩
theorem JS(F:Fun K "short_of" "short_of" xG f fd){f3' fi'}(dM:DQ P w K mg base f3' fi'){dQ' dg'}(bZ:zq P w K mg base dQ' dg'):FnOk P w K mg base CX0 48 f fd ["how", "wishes"] (spD K xb):=
 rf (k:=47) (N:=["how", "wishes"]) F FS xq (λaA A outer s H E B hr=>rb
  (qk (rh (sh hr (en 0) rP)
  (qU (qS (rZ (rB dM.G (hr.mono (by decide)) rfl dM.m dM.p dM.b (f' (en 1) gV rfl))))) rj)
  (qU (qS (rZ (rB bZ.G (hr.mono (by decide)) rfl bZ.m bZ.p bZ.b (f' (en 1) gV rfl)))))))
theorem F0:FnScope ["holds"] ["holds"] (defScope xJ):=⟨rfl,rfl,rfl,by decide +kernel,rfl,by decide +kernel,by decide +kernel⟩
theorem Js(F:Fun K "wishes_of" "wishes_of" xJ f fd) :FnOk P w K mg base CX0 2 f fd ["holds"] (spD K tf):=
 rf (k:=1) (N:=["holds"]) F F0 z6 (λaA A outer s H E B hr=>rb
  (qU (qS (rZ (rQ (N':=["hold", "-holds"]) (m:=1) (CompScope.of (by kernel_rfl)) rfl (rC (en 0)) (λ_ _ _ _=>(gd_n (i:=0) (m:=1) nk)) (λ_ _ _ _=>sy) (λ_ _ _ _=>(qV (en 0) pU)))))))
theorem Iw:FnScope ["web", "holds", "how", "house", "neighbour"] ["web", "holds", "how", "house", "neighbour"] (defScope zO):=⟨rfl,rfl,rfl,by decide +kernel,rfl,by decide +kernel,by decide +kernel⟩
theorem G7(F:Fun K "table_of" "table_of" zO f fd){aM' aH'}(aS:tU P w K mg base aM' aH'){bJ' by'}(bJ:w6 P w K mg base bJ' by'){dA' dh'}(dL:Dq P w K mg base dA' dh'){f4' fj'}(dN:Do P w K mg base f4' fj'):FnOk P w K mg base CX0 71 f fd ["web", "holds", "how", "house", "neighbour"] (spD K sf):=
 rf (k:=70) (N:=["web", "holds", "how", "house", "neighbour"]) F Iw zH (λaA A outer s H E B hr=>rb
  (qk (qS (rV (ra aS.G (hr.mono (by decide)) rfl aS.m aS.p aS.b (f' (qW (rB bJ.G (hr.mono (by decide)) rfl bJ.m bJ.p bJ.b (f' (en 1) gV rfl))) gV rfl))))
  (qk (qS (rV (ra dL.G (hr.mono (by decide)) rfl dL.m dL.p dL.b (f' (en 0) (f' (en 3) (f' (en 4) gV rfl) rfl) rfl))))
  (qU (qS (rZ (rB dN.G (hr.mono (by decide)) rfl dN.m dN.p dN.b (rK (en 0) (en 1) (en 2) (en 3) (f' (en 4) gV rfl) rfl rfl rfl rfl))))))))
theorem Mf:FnScope ["web", "holds", "how", "house", "neighbour", "wishes", "other"] ["web", "holds", "how", "house", "neighbour"] (defScope vM):=⟨rfl,rfl,rfl,by decide +kernel,rfl,by decide +kernel,by decide +kernel⟩
theorem FU{g:List R->Option (R×List R)}(hk:49<=kk)(F:Fun K "heard_of" "heard_of" vM f fd)(G:FnOk P w K mg base CX0 kk f fd ["web", "holds", "how", "house", "neighbour"] (spD K g)){bJ' by'}(bJ:w6 P w K mg base bJ' by'){as' ap'}(aO:sJ P w K mg base as' ap'){f5' fk'}(fv:AH P w K mg base f5' fk')(i7:Binds K fd ["web", "holds", "how", "house", "neighbour"] [])(i8:Qw K (.ref f)=true)(i9:mg "heard_of"=some (.ref f)):FnOk P w K mg base CX0 (kk+1) f fd ["web", "holds", "how", "house", "neighbour"] (spD K (fnD 7 5 (wS g))):=
 rf (N:=["web", "holds", "how", "house", "neighbour", "wishes", "other"]) F Mf (wS g) (λaA A outer s H E B hr=>rb
  (qk (qS (su (i:=5) nk (rB bJ.G (hr.mono (E_ (by decide) hk)) rfl bJ.m bJ.p bJ.b (f' (qW (rQ (N':=["hold", "-web", "-holds", "-how", "-house", "neighbour", "-wishes", "-other"]) (m:=1) (CompScope.of (by kernel_rfl)) rfl (rC (en 1)) (λ_ _ _ _=>(gd_n (i:=0) (m:=1) nk)) (λ_ _ _ _=>(sH (sh hr (qV (en 0) pU) (en 5)))) (λ_ _ _ _=>(en 0)))) gV rfl))))
  (qk (rL Rs rfl (rC (qW (rB aO.G (hr.mono (E_ (by decide) hk)) rfl aO.m aO.p aO.b (f' (en 0) (f' (en 4) gV rfl) rfl)))) (gd_n (i:=6) (m:=100) nk)
  (qU (rh (rX hr (en 6) (en 3))
  (qU (qS (Aa (pv 5) (qW (rB G hr rfl i9 i8 i7 (rK (en 0) (en 1) (en 2) (en 4) (f' (en 6) gV rfl) rfl rfl rfl rfl)))))) rj)))
  (qU (qS (rZ (rB fv.G (hr.mono (E_ (by decide) hk)) rfl fv.m fv.p fv.b (f' (en 2) (f' (en 5) gV rfl) rfl))))))))
theorem Df{f:l_}{fd:Qt}(F:Fun K "heard_of" "heard_of" vM f fd){bJ' by'}(bJ:w6 P w K mg base bJ' by'){as' ap'}(aO:sJ P w K mg base as' ap'){f5' fk'}(fv:AH P w K mg base f5' fk')(i7:Binds K fd ["web", "holds", "how", "house", "neighbour"] [])(i8:Qw K (.ref f)=true)(i9:mg "heard_of"=some (.ref f)):∀n:Nat,FnOk P w K mg base CX0 (50+n) f fd ["web", "holds", "how", "house", "neighbour"] (spD K (ua n))
 | 0=>tJ
 | n+1=>FU (E_ (by decide) (Pz _ n)) F (Df F bJ aO fv i7 i8 i9 n) bJ aO fv i7 i8 i9
theorem Kf:FnScope ["web", "holds", "how", "house", "letter", "roads", "reached", "given"] ["web", "holds", "how", "house", "letter"] (defScope xW):=⟨rfl,rfl,rfl,by decide +kernel,rfl,by decide +kernel,by decide +kernel⟩
theorem Ln(F:Fun K "led_by" "led_by" xW f fd){aM' aH'}(aS:tU P w K mg base aM' aH'){bJ' by'}(bJ:w6 P w K mg base bJ' by'){bc' a8'}(bf:vF P w K mg base bc' a8'){od' mz'}(ja:HD P w K mg base od' mz'){cq' b2'}(b9:yS P w K mg base cq' b2')(az:mg "sorted"=none)(aC:mg "enumerate"=none):FnOk P w K mg base CX0 94 f fd ["web", "holds", "how", "house", "letter"] (spD K t5):=
 rf (k:=93) (N:=["web", "holds", "how", "house", "letter", "roads", "reached", "given"]) F Kf zg (λaA A outer s H E B hr=>rb
  (qk (qS (rV (ra aS.G (hr.mono (by decide)) rfl aS.m aS.p aS.b (f' (qW (ur (qW (rq (f' (en 4) gV rfl))) (qW (rB bJ.G (hr.mono (by decide)) rfl bJ.m bJ.p bJ.b (f' (en 1) gV rfl))))) gV rfl))))
  (qk (qS (rV (ra bf.G (hr.mono (by decide)) rfl bf.m bf.p bf.b (f' (en 0) (f' (en 3) gV rfl) rfl))))
  (qk (qY (i:=5) nk (qW (wc hr rfl az (f' (ra ja.G (hr.mono (by decide)) rfl ja.m ja.p ja.b (rK (en 0) (en 1) (en 2) sF (f' (en 3) (f' (en 4) gV rfl) rfl) rfl rfl rfl rfl)) gV rfl))))
  (qk (qY (i:=6) nk (qW (ur (qW (rq (f' (en 3) gV rfl))) (qW (rQ (N':=["road", "-web", "-holds", "-how", "-house", "-letter", "-roads", "-reached", "-given"]) (m:=1) (CompScope.of (by kernel_rfl)) rfl (rC (en 5)) (λ_ _ _ _=>(gd_n (i:=0) (m:=1) nk)) (λ_ _ _ _=>sy) (λ_ _ _ _=>(qV (en 0) pU)))))))
  (qk (qS (yU (i:=7) (N':=["k", "hold", "-web", "-holds", "-how", "-house", "letter", "-roads", "reached", "-given"]) (m:=2) (CompScope.of (by kernel_rfl)) rfl nk (wL rfl aC (f' (en 1) gV rfl)) (λ_ _ _ _=>(sn (m:=2) rfl (rH (gd_n (i:=0) (m:=2) nk) (rH (gd_n (i:=1) (m:=2) nk) so)))) (λ_ _ _ _=>(sH (TW.td (uA (uT hr (qV (en 1) pU) (en 8)) (ug (um (ra b9.G (hr.mono (by decide)) rfl b9.m b9.p b9.b (f' (qV (en 1) pU) (f' (en 6) gV rfl) rfl)))))))) (λ_ _ _ _=>(en 0))))
  (qU (qS (rc (rA (f' (en 5) (f' (en 7) gV rfl) rfl)))))))))))
theorem LV:FnScope ["web", "holds", "how", "came", "house", "letter", "roads", "neighbour"] ["web", "holds", "how", "came", "house", "letter"] (defScope wG):=⟨rfl,rfl,rfl,by decide +kernel,rfl,by decide +kernel,by decide +kernel⟩
theorem HQ{g:List R->Option (R×List R)}(hk:72<=kk)(F:Fun K "roads_on" "roads_on" wG f fd)(G:FnOk P w K mg base CX0 kk f fd ["web", "holds", "how", "came", "house", "letter"] (spD K g)){as' ap'}(aO:sJ P w K mg base as' ap'){gO' f6'}(fw:CD P w K mg base gO' f6')(aq:mg "len"=none)(jb:Binds K fd ["web", "holds", "how", "came", "house", "letter"] [])(jc:Qw K (.ref f)=true)(jd:mg "roads_on"=some (.ref f)):FnOk P w K mg base CX0 (kk+1) f fd ["web", "holds", "how", "came", "house", "letter"] (spD K (fnD 8 6 (vL g))):=
 rf (N:=["web", "holds", "how", "came", "house", "letter", "roads", "neighbour"]) F LV (vL g) (λaA A outer s H E B hr=>rb
  (qk (qS (su (i:=6) nk (rq gV)))
  (qk (rL Rs rfl (rC (qW (rB aO.G (hr.mono (E_ (by decide) hk)) rfl aO.m aO.p aO.b (f' (en 0) (f' (en 4) gV rfl) rfl)))) (gd_n (i:=7) (m:=100) nk)
  (qU (rh (TW.td (uA (rX hr (en 7) (en 3)) (ug (yL (tM rfl aq (f' (qW (rB fw.G (hr.mono (E_ (by decide) hk)) rfl fw.m fw.p fw.b (rK (en 0) (en 1) (en 2) (en 4) (f' (en 7) (f' (en 5) gV rfl) rfl) rfl rfl rfl rfl))) gV rfl)) pU))))
  (qk (qS (ub (pv 6) (rA (f' (en 4) (f' (en 7) gV rfl) rfl))))
  (qU (qS (Aa (pv 6) (ra G hr rfl jd jc jb (rK (en 0) (en 1) (en 2) (en 4) (f' (en 7) (f' (en 5) gV rfl) rfl) rfl rfl rfl rfl)))))) rj)))
  (qU (qS (rc (en 6)))))))
theorem Bf{f:l_}{fd:Qt}(F:Fun K "roads_on" "roads_on" wG f fd){as' ap'}(aO:sJ P w K mg base as' ap'){gO' f6'}(fw:CD P w K mg base gO' f6')(aq:mg "len"=none)(jb:Binds K fd ["web", "holds", "how", "came", "house", "letter"] [])(jc:Qw K (.ref f)=true)(jd:mg "roads_on"=some (.ref f)):∀n:Nat,FnOk P w K mg base CX0 (73+n) f fd ["web", "holds", "how", "came", "house", "letter"] (spD K (tE n))
 | 0=>tJ
 | n+1=>HQ (E_ (by decide) (Pz _ n)) F (Bf F aO fw aq jb jc jd n) aO fw aq jb jc jd
theorem IX:FnScope ["web", "holds", "how", "house", "neighbour", "letter"] ["web", "holds", "how", "house", "neighbour", "letter"] (defScope zd):=⟨rfl,rfl,rfl,by decide +kernel,rfl,by decide +kernel,by decide +kernel⟩
theorem Jq(F:Fun K "leading" "leading" zd f fd){f4' fj'}(dN:Do P w K mg base f4' fj'){cq' b2'}(b9:yS P w K mg base cq' b2'):FnOk P w K mg base CX0 71 f fd ["web", "holds", "how", "house", "neighbour", "letter"] (spD K wX):=
 rf (k:=70) (N:=["web", "holds", "how", "house", "neighbour", "letter"]) F IX yY (λaA A outer s H E B hr=>rb
  (qU (qS (rZ (rQ (N':=["wish", "-web", "-holds", "-how", "-house", "-neighbour", "letter"]) (m:=1) (CompScope.of (by kernel_rfl)) rfl (rC (qW (rB dN.G (hr.mono (by decide)) rfl dN.m dN.p dN.b (rK (en 0) (en 1) (en 2) (en 3) (f' (en 4) gV rfl) rfl rfl rfl rfl)))) (λ_ _ _ _=>(gd_n (i:=0) (m:=1) nk)) (λ_ _ _ _=>(sH (um (ra b9.G (hr.mono (by decide)) rfl b9.m b9.p b9.b (f' (en 0) (f' (en 6) gV rfl) rfl))))) (λ_ _ _ _=>(en 0)))))))
theorem HJ:FnScope ["cell", "at", "one", "two", "three"] ["cell", "at"] (defScope xI):=⟨rfl,rfl,rfl,by decide +kernel,rfl,by decide +kernel,by decide +kernel⟩
theorem Lo(F:Fun K "_law_blend" "_law_blend" xI f fd) :FnOk P w K mg base CX0 2 f fd ["cell", "at"] (spD K vy):=
 rf (k:=1) (N:=["cell", "at", "one", "two", "three"]) F HJ yf (λaA A outer s H E B hr=>rb
  (qk (rh (Gv (en 0) (xZ pU pU))
  (qU (qS (rc (en 0)))) rj)
  (qk (qY (i:=2) nk (sL (rz (rz (sA (sL (en 0) pU) pU) (sA (en 1) pU)) pU) pU))
  (qk (qY (i:=3) nk (sL (rz (rz (sA (en 2) (en 2)) (sA (en 1) pU)) (sL (en 0) pU)) pU))
  (qk (qY (i:=4) nk (sL (rz (rz (sA (en 3) (en 3)) (sA (en 2) pU)) pU) pU))
  (qU (qS (rc (rz (sA (rz (sA (en 2) pU) (en 3)) pU) (en 4))))))))))
theorem Ga:FnScope ["script", "cells", "k", "cell"] ["script"] (defScope zz):=⟨rfl,rfl,rfl,by decide +kernel,rfl,by decide +kernel,by decide +kernel⟩
theorem FC(F:Fun K "_law_pot" "_law_pot" zz f fd)(bu:mg "list"=none)(aC:mg "enumerate"=none):FnOk P w K mg base CX0 2 f fd ["script"] (spD K vz):=
 rf (k:=1) (N:=["script", "cells", "k", "cell"]) F Ga ze (λaA A outer s H E B hr=>rb
  (qk (qS (su (i:=1) nk (Mg rfl bu (f' (sP (en 0) tQ (sD pU)) gV rfl))))
  (qk (rL Rs rfl (wL rfl aC (f' (sP (en 0) (sD pU) (sD pU)) gV rfl)) (sn (m:=100) rfl (rH (gd_n (i:=2) (m:=100) nk) (rH (gd_n (i:=3) (m:=100) nk) so)))
  (qU (qS (wu (pv 1) (sL (en 2) pU) (rz (sj (pv 1) (sL (en 2) pU)) (en 3))))))
  (qU (qS (rZ (rq (f' (en 1) (f' pU (f' pU gV rfl) rfl) rfl))))))))
theorem Iz:FnScope ["pot", "upto", "at", "cell", "found"] ["pot", "upto"] (defScope x0):=⟨rfl,rfl,rfl,by decide +kernel,rfl,by decide +kernel,by decide +kernel⟩
theorem E3(F:Fun K "_law_pick" "_law_pick" x0 f fd){mA' lZ'}(je:KI P w K mg base mA' lZ')(aq:mg "len"=none):FnOk P w K mg base CX0 3 f fd ["pot", "upto"] (spD K rE):=
 rf (k:=2) (N:=["pot", "upto", "at", "cell", "found"]) F Iz xD (λaA A outer s H E B hr=>rb
  (qk (rh (uY (sj (pv 0) pU) (en 1))
  (qk (qY (i:=2) nk (sj (pv 0) pU))
  (qk (qY (i:=3) nk (sA pU (en 2)))
  (qk (rh (uY (en 2) (tM rfl aq (f' (sj (pv 0) pU) gV rfl)))
  (qU (qY (i:=3) nk (qV (sj (pv 0) pU) (en 2)))) (qU (rh (rX hr (sj (pv 0) pU) (qW (rq gV)))
  (qU (qY (i:=3) nk (sL (qV (sj (pv 0) pU) (sL (rz (sA (en 2) pU) pU) (tM rfl aq (f' (sj (pv 0) pU) gV rfl)))) (rz (xZ pU pU) (sA pU (en 2)))))) rj)))
  (qk (qS (wu (pv 0) pU (rz (en 2) pU)))
  (qU (qS (wu (pv 0) pU (ra je.G (hr.mono (by decide)) rfl je.m je.p je.b (f' (en 3) (f' (en 2) gV rfl) rfl))))))))) rj)
  (qk (qY (i:=4) nk (sL (sj (pv 0) pU) (en 1)))
  (qk (qS (wu (pv 0) pU (Hm (sj (pv 0) pU) (en 1))))
  (qU (qS (rc (en 4))))))))
theorem Hc:FnScope ["pot", "fields", "low", "top", "pairs", "k", "one", "other"] ["pot", "fields", "low", "top"] (defScope Ab):=⟨rfl,rfl,rfl,by decide +kernel,rfl,by decide +kernel,by decide +kernel⟩
theorem JJ(F:Fun K "_law_wish" "_law_wish" Ab f fd){bd' a6'}(ao:uw P w K mg base bd' a6')(aD:mg "range"=none)(aP:mg "min"=none)(bc:mg "max"=none)(aF:mg "tuple"=none):FnOk P w K mg base CX0 4 f fd ["pot", "fields", "low", "top"] (spD K wZ):=
 rf (k:=3) (N:=["pot", "fields", "low", "top", "pairs", "k", "one", "other"]) F Hc xV (λaA A outer s H E B hr=>rb
  (qk (qS (su (i:=4) nk (rq gV)))
  (qk (rL Rs rfl (t6 rfl aD (f' (en 1) gV rfl)) (gd_n (i:=5) (m:=100) nk)
  (qk (qY (i:=6) nk (rz (en 2) (rD ao.G (hr.mono (by decide)) rfl ao.m ao.p ao.b (pv 0) (f' (en 3) gV rfl))))
  (qk (qY (i:=7) nk (rz (en 2) (rD ao.G (hr.mono (by decide)) rfl ao.m ao.p ao.b (pv 0) (f' (en 3) gV rfl))))
  (qU (qS (ub (pv 4) (rA (f' (uD rfl rfl aP (f' (en 6) (f' (en 7) gV rfl) rfl)) (f' (vA rfl rfl bc (f' (en 6) (f' (en 7) gV rfl) rfl)) gV rfl) rfl))))))))
  (qU (qS (rc (uK rfl aF (f' (en 4) gV rfl))))))))
theorem Ib:FnScope ["pot", "fields", "most", "top", "low", "found", "k", "way", "wish"] ["pot", "fields", "most"] (defScope z0):=⟨rfl,rfl,rfl,by decide +kernel,rfl,by decide +kernel,by decide +kernel⟩
theorem J7(F:Fun K "_law_wishes" "_law_wishes" z0 f fd){bd' a6'}(ao:uw P w K mg base bd' a6'){oe' mB'}(jf:KW P w K mg base oe' mB'){l0' ku'}(jg:IB P w K mg base l0' ku')(aP:mg "min"=none)(aD:mg "range"=none)(aq:mg "len"=none):FnOk P w K mg base CX0 5 f fd ["pot", "fields", "most"] (spD K wt):=
 rf (k:=4) (N:=["pot", "fields", "most", "top", "low", "found", "k", "way", "wish"]) F Ib xU (λaA A outer s H E B hr=>rb
  (qk (qY (i:=3) nk (uD rfl rfl aP (f' (qV (qW (rq (ad_k (by kernel_rfl)))) (rD ao.G (hr.mono (by decide)) rfl ao.m ao.p ao.b (pv 0) (f' pU gV rfl))) (f' (qV (qW (rq (ad_k (by kernel_rfl)))) (en 1)) gV rfl) rfl)))
  (qk (qY (i:=4) nk (rD ao.G (hr.mono (by decide)) rfl ao.m ao.p ao.b (pv 0) (f' (u6 pU (en 3)) gV rfl)))
  (qk (qS (su (i:=5) nk (rq gV)))
  (qk (rL Rs rfl (t6 rfl aD (f' (rD ao.G (hr.mono (by decide)) rfl ao.m ao.p ao.b (pv 0) (f' (rz (en 2) pU) gV rfl)) gV rfl)) (gd_n (i:=6) (m:=100) nk)
  (qk (qY (i:=7) nk (rD ao.G (hr.mono (by decide)) rfl ao.m ao.p ao.b (pv 0) (f' pU gV rfl)))
  (qk (qY (i:=8) nk (rD jf.G (hr.mono (by decide)) rfl jf.m jf.p jf.b (pv 0) (f' (en 1) (f' (en 4) (f' (en 3) gV rfl) rfl) rfl)))
  (qk (rh (TW.td (uA (sh hr (en 7) pU) (ug (B1 hr (pv 5) (qW (rq gV))))))
  (qU (qY (i:=8) nk (sj (pv 5) (rD ao.G (hr.mono (by decide)) rfl ao.m ao.p ao.b (pv 0) (f' (yc rfl aq (pv 5)) gV rfl))))) rj)
  (qk (rh (TW.td (uA (sh hr (en 7) pU) (ug (B1 hr (pv 5) (qW (rq gV))))))
  (qU (qY (i:=8) nk (rD jg.G (hr.mono (by decide)) rfl jg.m jg.p jg.b (pv 0) (f' (sj (pv 5) (rD ao.G (hr.mono (by decide)) rfl ao.m ao.p ao.b (pv 0) (f' (yc rfl aq (pv 5)) gV rfl))) gV rfl)))) rj)
  (qU (qS (ub (pv 5) (en 8)))))))))
  (qU (qS (rc (en 5)))))))))
theorem Ja:FnScope ["pot", "wish", "at", "low", "high", "pair"] ["pot", "wish"] (defScope xk):=⟨rfl,rfl,rfl,by decide +kernel,rfl,by decide +kernel,by decide +kernel⟩
theorem Gi(F:Fun K "_law_nudged" "_law_nudged" xk f fd){bd' a6'}(ao:uw P w K mg base bd' a6')(aq:mg "len"=none)(bc:mg "max"=none)(aP:mg "min"=none):FnOk P w K mg base CX0 4 f fd ["pot", "wish"] (spD K wa):=
 rf (k:=3) (N:=["pot", "wish", "at", "low", "high", "pair"]) F Ja ya (λaA A outer s H E B hr=>rb
  (qk (qY (i:=2) nk (rD ao.G (hr.mono (by decide)) rfl ao.m ao.p ao.b (pv 0) (f' (tM rfl aq (f' (en 1) gV rfl)) gV rfl)))
  (qk (qS (AL (qV (en 1) (en 2)) (sn (m:=100) rfl (rH (gd_n (i:=3) (m:=100) nk) (rH (gd_n (i:=4) (m:=100) nk) so)))))
  (qk (qY (i:=5) nk (qW (rq (rK (rA (f' (vA rfl rfl bc (f' pU (f' (u6 (en 3) pU) gV rfl) rfl)) (f' (en 4) gV rfl) rfl)) (rA (f' (en 3) (f' (uD rfl rfl aP (f' pU (f' (rz (en 4) pU) gV rfl) rfl)) gV rfl) rfl)) (rA (f' (uD rfl rfl aP (f' (rz (en 3) pU) (f' (en 4) gV rfl) rfl)) (f' (en 4) gV rfl) rfl)) (rA (f' (en 3) (f' (vA rfl rfl bc (f' (en 3) (f' (u6 (en 4) pU) gV rfl) rfl)) gV rfl) rfl)) gV rfl rfl rfl rfl))))
  (qU (qS (rc (rz (rz (sP (en 1) tQ (sD (en 2))) (rA (f' (qV (en 5) (rD ao.G (hr.mono (by decide)) rfl ao.m ao.p ao.b (pv 0) (f' pU gV rfl))) gV rfl))) (sP (en 1) (sD (rz (en 2) pU)) tQ)))))))))
theorem IG:FnScope ["pot", "most", "many", "way", "order", "names", "roads", "k", "ahead", "pair"] ["pot", "most"] (defScope yB):=⟨rfl,rfl,rfl,by decide +kernel,rfl,by decide +kernel,by decide +kernel⟩
theorem HG(F:Fun K "_law_web" "_law_web" yB f fd){bd' a6'}(ao:uw P w K mg base bd' a6')(bu:mg "list"=none)(aD:mg "range"=none)(aq:mg "len"=none)(aP:mg "min"=none)(bc:mg "max"=none)(az:mg "sorted"=none)(aF:mg "tuple"=none):FnOk P w K mg base CX0 4 f fd ["pot", "most"] (spD K wT):=
 rf (k:=3) (N:=["pot", "most", "many", "way", "order", "names", "roads", "k", "ahead", "pair"]) F IG xR (λaA A outer s H E B hr=>rb
  (qk (qY (i:=2) nk (rz pU (rD ao.G (hr.mono (by decide)) rfl ao.m ao.p ao.b (pv 0) (f' (en 1) gV rfl))))
  (qk (qY (i:=3) nk (rD ao.G (hr.mono (by decide)) rfl ao.m ao.p ao.b (pv 0) (f' pU gV rfl)))
  (qk (qS (su (i:=4) nk (Cp rfl rfl bu rfl aD (f' (en 2) gV rfl))))
  (qk (qS (yU (i:=5) (N':=["k", "pot", "-most", "-many", "-way", "order", "-names", "-roads", "-k", "-ahead", "-pair"]) (m:=1) (CompScope.of (by kernel_rfl)) rfl nk (t6 rfl aD (f' (en 2) gV rfl)) (λ_ _ _ _=>(gd_n (i:=0) (m:=1) nk)) (λ_ _ _ _=>sy) (λ_ _ _ _=>(Kk (pv 5) (f' (rD ao.G (hr.mono (by decide)) rfl ao.m ao.p ao.b (pv 1) (f' (yc rfl aq (pv 5)) gV rfl)) gV rfl)))))
  (qk (qS (su (i:=6) nk (rq gV)))
  (qk (rL Rs rfl (Jz rfl aD (f' pU (f' (en 2) gV rfl) rfl)) (gd_n (i:=7) (m:=100) nk)
  (qk (qY (i:=8) nk (qV (qW (rq (rK (u6 (en 7) pU) pU (rD ao.G (hr.mono (by decide)) rfl ao.m ao.p ao.b (pv 0) (f' (en 7) gV rfl)) (rD ao.G (hr.mono (by decide)) rfl ao.m ao.p ao.b (pv 0) (f' (en 7) gV rfl)) gV rfl rfl rfl rfl))) (en 3)))
  (qk (qY (i:=9) nk (rA (f' (uD rfl rfl aP (f' (qV (en 5) (en 7)) (f' (qV (en 5) (en 8)) gV rfl) rfl)) (f' (vA rfl rfl bc (f' (qV (en 5) (en 7)) (f' (qV (en 5) (en 8)) gV rfl) rfl)) gV rfl) rfl)))
  (qU (rh (TW.td (vQ (uY (en 3) pU) (y4 (yL (rD ao.G (hr.mono (by decide)) rfl ao.m ao.p ao.b (pv 0) (f' pU gV rfl)) pU))))
  (qU (qS (ub (pv 6) (en 9)))) rj)))))
  (qU (qS (rc (rA (f' (en 2) (f' (uK rfl aF (f' (qW (wc hr rfl az (f' (en 6) gV rfl))) gV rfl)) gV rfl) rfl))))))))))))
theorem K8:FnScope ["pot", "web", "fields", "most", "some"] ["pot", "web", "fields", "most"] (defScope xE):=⟨rfl,rfl,rfl,by decide +kernel,rfl,by decide +kernel,by decide +kernel⟩
theorem K9(F:Fun K "_law_holds" "_law_holds" xE f fd){l1' kw'}(jh:Mx P w K mg base l1' kw'){bd' a6'}(ao:uw P w K mg base bd' a6'):FnOk P w K mg base CX0 6 f fd ["pot", "web", "fields", "most"] (spD K xf):=
 rf (k:=5) (N:=["pot", "web", "fields", "most", "some"]) F K8 yP (λaA A outer s H E B hr=>rb
  (qk (qY (i:=4) nk (rD jh.G (hr.mono (by decide)) rfl jh.m jh.p jh.b (pv 0) (f' (en 2) (f' (en 3) gV rfl) rfl)))
  (qU (qS (rZ (rQ (N':=["wish", "pot", "web", "-fields", "-most", "-some"]) (m:=1) (CompScope.of (by kernel_rfl)) rfl (rC (en 4)) (λ_ _ _ _=>(gd_n (i:=0) (m:=1) nk)) (λ_ _ _ _=>sy) (λ_ _ _ _=>(rA (f' (rD ao.G (hr.mono (by decide)) rfl ao.m ao.p ao.b (pv 1) (f' (qV (en 2) pU) gV rfl)) (f' (en 0) gV rfl) rfl)))))))))
theorem Gk:FnScope ["web", "holds", "one", "other", "there", "some", "top", "kept", "low", "fresh"] ["web", "holds", "one", "other"] (defScope yh):=⟨rfl,rfl,rfl,by decide +kernel,rfl,by decide +kernel,by decide +kernel⟩
theorem G1(F:Fun K "_law_lane_right" "_law_lane_right" yh f fd){i3' im'}(ji:Fn P w K mg base i3' im'){of' mC'}(bL:Fu P w K mg base of' mC'){f3' fi'}(dM:DQ P w K mg base f3' fi'){dQ' dg'}(bZ:zq P w K mg base dQ' dg'){gN' f2'}(dJ:AJ P w K mg base gN' f2'):FnOk P w K mg base CX0 72 f fd ["web", "holds", "one", "other"] (spD K wv):=
 rf (k:=71) (N:=["web", "holds", "one", "other", "there", "some", "top", "kept", "low", "fresh"]) F Gk yJ (λaA A outer s H E B hr=>rb
  (qk (qY (i:=4) nk (qW (rB ji.G (hr.mono (by decide)) rfl ji.m ji.p ji.b (f' (en 0) (f' (en 2) (f' (en 3) gV rfl) rfl) rfl))))
  (qk (qY (i:=5) nk (qW (rQ (N':=["at", "wish", "-web", "-holds", "-one", "-other", "there", "-some", "-top", "-kept", "-low", "-fresh"]) (m:=2) (CompScope.of (by kernel_rfl)) rfl (rC (en 1)) (λ_ _ _ _=>(sn (m:=2) rfl (rH (gd_n (i:=0) (m:=2) nk) (rH (gd_n (i:=1) (m:=2) nk) so)))) (λ_ _ _ _=>(sH (uT hr (en 0) (en 6)))) (λ_ _ _ _=>(en 1)))))
  (qk (qY (i:=6) nk (qW (rB bL.G (hr.mono (by decide)) rfl bL.m bL.p bL.b (rK (en 0) (en 1) rP (en 2) (f' (en 3) gV rfl) rfl rfl rfl rfl))))
  (qk (qY (i:=7) nk (qW (rB bL.G (hr.mono (by decide)) rfl bL.m bL.p bL.b (rK (en 0) (en 1) rP (en 2) (f' (en 3) gV rfl) rfl rfl rfl rfl))))
  (qk (rh (TW.td (vQ (rX hr (en 6) (qW (rB bZ.G (hr.mono (by decide)) rfl bZ.m bZ.p bZ.b (f' (en 5) gV rfl)))) (vQ (rX hr (qW (rQ (N':=["wish", "-web", "-holds", "-one", "-other", "-there", "some", "-top", "-kept", "-low", "-fresh"]) (m:=1) (CompScope.of (by kernel_rfl)) rfl (rC (en 7)) (λ_ _ _ _=>(gd_n (i:=0) (m:=1) nk)) (λ_ _ _ _=>(sH (AY hr (en 0) (en 6)))) (λ_ _ _ _=>pU))) (qW (rq gV))) (y4 (rX hr (ra dM.G (hr.mono (by decide)) rfl dM.m dM.p dM.b (f' (en 7) gV rfl)) (en 7))))))
  (qU (qS (rc sB))) rj)
  (qk (rh (rX hr (qW (rQ (N':=["wish", "-web", "-holds", "-one", "-other", "-there", "-some", "-top", "kept", "-low", "-fresh"]) (m:=1) (CompScope.of (by kernel_rfl)) rfl (rC (en 5)) (λ_ _ _ _=>(gd_n (i:=0) (m:=1) nk)) (λ_ _ _ _=>(sH (sh hr (qV (ra dJ.G (hr.mono (by decide)) rfl dJ.m dJ.p dJ.b (f' (en 8) (f' (en 0) gV rfl) rfl)) pU) rP))) (λ_ _ _ _=>pU))) (qW (rq gV)))
  (qU (qS (rc sB))) rj)
  (qk (rh (rX hr (qW (rB bL.G (hr.mono (by decide)) rfl bL.m bL.p bL.b (rK (en 0) (qW (ur (qW (Ir (en 1) (zC pU))) (sP (en 1) tQ (sD pU)))) rP (en 2) (f' (en 3) gV rfl) rfl rfl rfl rfl))) (en 6))
  (qU (qS (rc sB))) rj)
  (qk (rh (sh hr (en 5) (qW (rq gV)))
  (qU (qS (rc sB))) rj)
  (qk (qY (i:=8) nk (qV (qV (qV (en 5) pU) pU) pU))
  (qk (qY (i:=9) nk (qW (rq (f' (rA (f' (qV (en 4) (zC pU)) (f' (rz (rA (f' (rA (f' (en 8) (f' (en 8) gV rfl) rfl)) gV rfl)) (sP (qV (en 5) pU) (sD pU) tQ)) gV rfl) rfl)) gV rfl))))
  (qU (qS (rc (Ex hr (qW (rB bL.G (hr.mono (by decide)) rfl bL.m bL.p bL.b (rK (en 0) (qW (ur (en 1) (en 9))) rP (en 2) (f' (en 3) gV rfl) rfl rfl rfl rfl))) (en 6))))))))))))))))
theorem HX:FnScope ["web", "holds", "house", "letter", "roads", "given", "wanted", "k", "at", "wish", "houses", "road"] ["web", "holds", "house", "letter"] (defScope zZ):=⟨rfl,rfl,rfl,by decide +kernel,rfl,by decide +kernel,by decide +kernel⟩
theorem GZ(F:Fun K "_law_led_right" "_law_led_right" zZ f fd){rg' pY'}(eK:Lv P w K mg base rg' pY'){kx' jA'}(eL:Iy P w K mg base kx' jA'){cq' b2'}(b9:yS P w K mg base cq' b2')(aC:mg "enumerate"=none)(bh:mg "zip"=none)(az:mg "sorted"=none):FnOk P w K mg base CX0 95 f fd ["web", "holds", "house", "letter"] (spD K uU):=
 rf (k:=94) (N:=["web", "holds", "house", "letter", "roads", "given", "wanted", "k", "at", "wish", "houses", "road"]) F HX xP (λaA A outer s H E B hr=>rb
  (qk (qS (AL (ra eK.G (hr.mono (by decide)) rfl eK.m eK.p eK.b (rK (en 0) (en 1) rP (en 2) (f' (en 3) gV rfl) rfl rfl rfl rfl)) (sn (m:=100) rfl (rH (gd_n (i:=4) (m:=100) nk) (rH (gd_n (i:=5) (m:=100) nk) so)))))
  (qk (rh (rX hr (ra eK.G (hr.mono (by decide)) rfl eK.m eK.p eK.b (rK (en 0) (en 1) rP (en 2) (f' (en 3) gV rfl) rfl rfl rfl rfl)) (rA (f' (en 4) (f' (en 5) gV rfl) rfl)))
  (qU (qS (rc sB))) rj)
  (qk (qS (LL (i:=6) nk Fp))
  (qk (rL Rs rfl (wL rfl aC (f' (en 1) gV rfl)) (sn (m:=100) rfl (rH (gd_n (i:=7) (m:=100) nk) (rH (sn (m:=100) rfl (rH (gd_n (i:=8) (m:=100) nk) (rH (gd_n (i:=9) (m:=100) nk) so))) so)))
  (qk (qY (i:=10) nk (Dp (qW (rB eL.G (hr.mono (by decide)) rfl eL.m eL.p eL.b (f' (en 0) (f' (en 2) (f' (en 8) gV rfl) rfl) rfl))) (ra eL.G (hr.mono (by decide)) rfl eL.m eL.p eL.b (f' (en 0) (f' (en 2) (f' (en 8) gV rfl) rfl) rfl))))
  (qk (rh (TW.td (vQ (TW.td (uA (rX hr (ra b9.G (hr.mono (by decide)) rfl b9.m b9.p b9.b (f' (en 9) (f' (en 3) gV rfl) rfl)) (HK hr (en 7) (en 5))) (ug (yu (en 10) sF)))) (y4 (TW.td (uA (uT hr (en 7) (en 5)) (ug (E8 (en 10) sF)))))))
  (qU (qS (rc sB))) rj)
  (qU (rh (uT hr (en 7) (en 5))
  (qU (rL Rs rfl (KB rfl bh (f' (en 10) (f' (sP (en 10) (sD pU) tQ) gV rfl) rfl)) (gd_n (i:=11) (m:=100) nk)
  (qU (qS (Iq hr (pv 6) (en 11) sB))))) rj)))))
  (qU (qS (rc (HY hr rfl rfl az (pv 6) (en 4))))))))))
theorem J5:FnScope ["script", "pot", "turn", "fields", "web", "holds", "house", "other", "letter"] ["script"] (defScope yq):=⟨rfl,rfl,rfl,by decide +kernel,rfl,by decide +kernel,by decide +kernel⟩
theorem G'(F:Fun K "law" "law" yq f fd){pZ' og'}(jk:Gc P w K mg base pZ' og'){bd' a6'}(ao:uw P w K mg base bd' a6'){p0' oh'}(jl:JW P w K mg base p0' oh'){mD' l2'}(jm:LP P w K mg base mD' l2'){as' ap'}(aO:sJ P w K mg base as' ap'){in' hB'}(jn:EM P w K mg base in' hB'){i4' io'}(jo:Kz P w K mg base i4' io')(aD:mg "range"=none)(aF:mg "tuple"=none):FnOk P w K mg base CX0 96 f fd ["script"] (spD K tY):=
 rf (k:=95) (N:=["script", "pot", "turn", "fields", "web", "holds", "house", "other", "letter"]) F J5 zY (λaA A outer s H E B hr=>rb
  (qk (qS (su (i:=1) nk (rB jk.G (hr.mono (by decide)) rfl jk.m jk.p jk.b (f' (en 0) gV rfl))))
  (qk (rL Rs rfl (t6 rfl aD (f' pU gV rfl)) (gd_n (i:=2) (m:=100) nk)
  (qk (qY (i:=3) nk (rz pU (rD ao.G (hr.mono (by decide)) rfl ao.m ao.p ao.b (pv 1) (f' pU gV rfl))))
  (qk (qY (i:=4) nk (rD jl.G (hr.mono (by decide)) rfl jl.m jl.p jl.b (pv 1) (f' pU gV rfl)))
  (qk (qY (i:=5) nk (qW (Lx jm.G (hr.mono (by decide)) rfl jm.m jm.p jm.b (pv 1) (f' (en 4) (f' (en 3) (f' pU gV rfl) rfl) rfl))))
  (qk (rL Rs rfl (t6 rfl aD (f' (qV (en 4) pU) gV rfl)) (gd_n (i:=6) (m:=100) nk)
  (qU (rL Rs rfl (rC (qW (rB aO.G (hr.mono (by decide)) rfl aO.m aO.p aO.b (f' (en 4) (f' (en 6) gV rfl) rfl)))) (gd_n (i:=7) (m:=100) nk)
  (qU (rh (wq (um (ra jn.G (hr.mono (by decide)) rfl jn.m jn.p jn.b (rK (en 4) (en 5) (en 6) (en 7) gV rfl rfl rfl rfl))))
  (qU (qS (rc sB))) rj)))))
  (qk (qY (i:=8) nk (uK rfl aF (f' (qW (rQ (N':=["k", "-script", "pot", "-turn", "-fields", "-web", "-holds", "-house", "-other", "-letter"]) (m:=1) (CompScope.of (by kernel_rfl)) rfl (t6 rfl aD (f' (en 3) gV rfl)) (λ_ _ _ _=>(gd_n (i:=0) (m:=1) nk)) (λ_ _ _ _=>sy) (λ_ _ _ _=>(rD ao.G (hr.mono (by decide)) rfl ao.m ao.p ao.b (pv 2) (f' pU gV rfl))))) gV rfl)))
  (qk (rh (rX hr (en 5) (qW (rq gV)))
  (qU (qY (i:=8) nk (uK rfl aF (f' (qW (rQ (N':=["pair", "-script", "pot", "-turn", "-fields", "-web", "-holds", "-house", "-other", "-letter"]) (m:=1) (CompScope.of (by kernel_rfl)) rfl (rC (qV (qV (en 5) pU) pU)) (λ_ _ _ _=>(gd_n (i:=0) (m:=1) nk)) (λ_ _ _ _=>sy) (λ_ _ _ _=>(qV (en 0) (rD ao.G (hr.mono (by decide)) rfl ao.m ao.p ao.b (pv 2) (f' pU gV rfl)))))) gV rfl)))) rj)
  (qU (rL Rs rfl (t6 rfl aD (f' (qV (en 4) pU) gV rfl)) (gd_n (i:=6) (m:=100) nk)
  (qU (rh (wq (um (ra jo.G (hr.mono (by decide)) rfl jo.m jo.p jo.b (rK (en 4) (en 5) (en 6) (en 8) gV rfl rfl rfl rfl))))
  (qU (qS (rc sB))) rj)))))))))))
  (qU (qS (rc sB))))))
end
structure Dn(K:PySem.W.Frag)(mg:Str->Option b_)(x:Str)(st:Pb)(f:l_)(fd:Qt):Prop where
 F:Fun K x x st f fd
 m:mg x=some (.ref f)
 a:nsIn K Pr x=some (some (.ref f))
theorem dn{K:PySem.W.Frag}{h:I_}{st:Pb}{sl:Array (Option b_)}{kV dc:b_}(X:K.In h)(G:h.Ns Pr mg)(a:nsIn K Pr x=some (some (.ref f)))(l:K.lookup f=some ⟨oc,od,.func (S1 x x (defArgs st) (defBody st) (defScope st) .none kV dc pm an cd ct),sl⟩)(c:codeIn K cd x=true)(k:Qw K (.ref f)=true):Dn K mg x st f (S1 x x (defArgs st) (defBody st) (defScope st) .none kV dc pm an cd ct):=⟨Ez l c k,PySem.W.mg_of X G a,a⟩
section
variable{P:C_}{w:J_}{K:PySem.W.Frag}{st:Pb}{g:List R->Option (R×List R)}
theorem lenOf1{α:Type}{us:List α}(h:us.length=1):∃a,us=[a]:=by
 obtain⟨a,us,rfl⟩:=OO h;exact⟨a,by rw[O8.mp (QP h)]⟩
theorem lenOf2{α:Type}{us:List α}(h:us.length=2):∃a b,us=[a,b]:=by
 obtain⟨a,us,rfl⟩:=OO h;obtain⟨b,rfl⟩:=lenOf1 (QP h);exact⟨a,b,rfl⟩
theorem lenOf3{α:Type}{us:List α}(h:us.length=3):∃a b c,us=[a,b,c]:=by
 obtain⟨a,us,rfl⟩:=OO h;obtain⟨b,c,rfl⟩:=lenOf2 (QP h);exact⟨a,b,c,rfl⟩
theorem lenOf4{α:Type}{us:List α}(h:us.length=4):∃a b c d,us=[a,b,c,d]:=by
 obtain⟨a,us,rfl⟩:=OO h;obtain⟨b,c,d,rfl⟩:=lenOf3 (QP h);exact⟨a,b,c,d,rfl⟩
theorem lenOf5{α:Type}{us:List α}(h:us.length=5):∃a b c d e,us=[a,b,c,d,e]:=by
 obtain⟨a,us,rfl⟩:=OO h;obtain⟨b,c,d,e,rfl⟩:=lenOf4 (QP h);exact⟨a,b,c,d,e,rfl⟩
theorem lenOf6{α:Type}{us:List α}(h:us.length=6):∃a b c d e f,us=[a,b,c,d,e,f]:=by
 obtain⟨a,us,rfl⟩:=OO h;obtain⟨b,c,d,e,f,rfl⟩:=lenOf5 (QP h);exact⟨a,b,c,d,e,f,rfl⟩
theorem Dn.b1{p:Str}(D:Dn K mg x st f fd)(h:∀(kV dc pm:b_) (an:Option l_) (cd ct a:b_),Qf (S1 x x (defArgs st) (defBody st) (defScope st) .none kV dc pm an cd ct) ⟨[a],[]⟩=pure [(p,a)]:=by intros;rfl):Binds K fd [p] []:=D.F.binds λ_ _ _ _ _ _ us hl=>by obtain⟨a,rfl⟩:=lenOf1 hl;exact h _ _ _ _ _ _ a
theorem Dn.c1{p:Str}(D:Dn K mg x st f fd)(G:FnOk P w K mg base CX0 k f fd [p] (spD K g))(h:∀(kV dc pm:b_) (an:Option l_) (cd ct a:b_),Qf (S1 x x (defArgs st) (defBody st) (defScope st) .none kV dc pm an cd ct) ⟨[a],[]⟩=pure [(p,a)]:=by intros;rfl):Cd P w K mg base k f fd [p] g x:=⟨G,D.b1 h,D.F.kp,D.m⟩
theorem Dn.b2{p:Str}(D:Dn K mg x st f fd)(h:∀(kV dc pm:b_) (an:Option l_) (cd ct a b:b_),Qf (S1 x x (defArgs st) (defBody st) (defScope st) .none kV dc pm an cd ct) ⟨[a,b],[]⟩=pure [(p,a),(q,b)]:=by intros;rfl):Binds K fd [p,q] []:=D.F.binds λ_ _ _ _ _ _ us hl=>by obtain⟨a,b,rfl⟩:=lenOf2 hl;exact h _ _ _ _ _ _ a b
theorem Dn.c2{p:Str}(D:Dn K mg x st f fd)(G:FnOk P w K mg base CX0 k f fd [p,q] (spD K g))(h:∀(kV dc pm:b_) (an:Option l_) (cd ct a b:b_),Qf (S1 x x (defArgs st) (defBody st) (defScope st) .none kV dc pm an cd ct) ⟨[a,b],[]⟩=pure [(p,a),(q,b)]:=by intros;rfl):Cd P w K mg base k f fd [p,q] g x:=⟨G,D.b2 h,D.F.kp,D.m⟩
theorem Dn.b3{p r:Str}(D:Dn K mg x st f fd)(h:∀(kV dc pm:b_) (an:Option l_) (cd ct a b c:b_),Qf (S1 x x (defArgs st) (defBody st) (defScope st) .none kV dc pm an cd ct) ⟨[a,b,c],[]⟩=pure [(p,a),(q,b),(r,c)]:=by intros;rfl):Binds K fd [p,q,r] []:=D.F.binds λ_ _ _ _ _ _ us hl=>by obtain⟨a,b,c,rfl⟩:=lenOf3 hl;exact h _ _ _ _ _ _ a b c
theorem Dn.c3{p r:Str}(D:Dn K mg x st f fd)(G:FnOk P w K mg base CX0 k f fd [p,q,r] (spD K g))(h:∀(kV dc pm:b_) (an:Option l_) (cd ct a b c:b_),Qf (S1 x x (defArgs st) (defBody st) (defScope st) .none kV dc pm an cd ct) ⟨[a,b,c],[]⟩=pure [(p,a),(q,b),(r,c)]:=by intros;rfl):Cd P w K mg base k f fd [p,q,r] g x:=⟨G,D.b3 h,D.F.kp,D.m⟩
theorem Dn.b4{p r s:Str}(D:Dn K mg x st f fd)(h:∀(kV dc pm:b_) (an:Option l_) (cd ct a b c d:b_),Qf (S1 x x (defArgs st) (defBody st) (defScope st) .none kV dc pm an cd ct) ⟨[a,b,c,d],[]⟩=pure [(p,a),(q,b),(r,c),(s,d)]:=by intros;rfl):Binds K fd [p,q,r,s] []:=D.F.binds λ_ _ _ _ _ _ us hl=>by obtain⟨a,b,c,d,rfl⟩:=lenOf4 hl;exact h _ _ _ _ _ _ a b c d
theorem Dn.c4{p r s:Str}(D:Dn K mg x st f fd)(G:FnOk P w K mg base CX0 k f fd [p,q,r,s] (spD K g))(h:∀(kV dc pm:b_) (an:Option l_) (cd ct a b c d:b_),Qf (S1 x x (defArgs st) (defBody st) (defScope st) .none kV dc pm an cd ct) ⟨[a,b,c,d],[]⟩=pure [(p,a),(q,b),(r,c),(s,d)]:=by intros;rfl):Cd P w K mg base k f fd [p,q,r,s] g x:=⟨G,D.b4 h,D.F.kp,D.m⟩
theorem Dn.b5{p r s t:Str}(D:Dn K mg x st f fd)(h:∀(kV dc pm:b_) (an:Option l_) (cd ct a b c d e:b_),Qf (S1 x x (defArgs st) (defBody st) (defScope st) .none kV dc pm an cd ct) ⟨[a,b,c,d,e],[]⟩=pure [(p,a),(q,b),(r,c),(s,d),(t,e)]:=by intros;rfl):Binds K fd [p,q,r,s,t] []:=D.F.binds λ_ _ _ _ _ _ us hl=>by obtain⟨a,b,c,d,e,rfl⟩:=lenOf5 hl;exact h _ _ _ _ _ _ a b c d e
theorem Dn.c5{p r s t:Str}(D:Dn K mg x st f fd)(G:FnOk P w K mg base CX0 k f fd [p,q,r,s,t] (spD K g))(h:∀(kV dc pm:b_) (an:Option l_) (cd ct a b c d e:b_),Qf (S1 x x (defArgs st) (defBody st) (defScope st) .none kV dc pm an cd ct) ⟨[a,b,c,d,e],[]⟩=pure [(p,a),(q,b),(r,c),(s,d),(t,e)]:=by intros;rfl):Cd P w K mg base k f fd [p,q,r,s,t] g x:=⟨G,D.b5 h,D.F.kp,D.m⟩
theorem Dn.b6{p r s t u:Str}(D:Dn K mg x st f fd)(h:∀(kV dc pm:b_) (an:Option l_) (cd ct a b c d e f:b_),Qf (S1 x x (defArgs st) (defBody st) (defScope st) .none kV dc pm an cd ct) ⟨[a,b,c,d,e,f],[]⟩=pure [(p,a),(q,b),(r,c),(s,d),(t,e),(u,f)]:=by intros;rfl):Binds K fd [p,q,r,s,t,u] []:=D.F.binds λ_ _ _ _ _ _ us hl=>by obtain⟨a,b,c,d,e,f,rfl⟩:=lenOf6 hl;exact h _ _ _ _ _ _ a b c d e f
theorem Dn.c6{p r s t u:Str}(D:Dn K mg x st f fd)(G:FnOk P w K mg base CX0 k f fd [p,q,r,s,t,u] (spD K g))(h:∀(kV dc pm:b_) (an:Option l_) (cd ct a b c d e f:b_),Qf (S1 x x (defArgs st) (defBody st) (defScope st) .none kV dc pm an cd ct) ⟨[a,b,c,d,e,f],[]⟩=pure [(p,a),(q,b),(r,c),(s,d),(t,e),(u,f)]:=by intros;rfl):Cd P w K mg base k f fd [p,q,r,s,t,u] g x:=⟨G,D.b6 h,D.F.kp,D.m⟩
end
theorem all_mk{P:C_}{w:J_}{K:PySem.W.Frag}(o5:mg "law"=some (.ref fa)){f0 d0}(D0:Dn K mg "must_be_kin" xA f0 d0){f1 d1}(D1:Dn K mg "has_letter" xY f1 d1){f2 d2}(D2:Dn K mg "covers" y9 f2 d2){f3 d3}(D3:Dn K mg "in_common" xu f3 d3){f4 d4}(D4:Dn K mg "roof_of" xm f4 d4){f5 d5}(D5:Dn K mg "is_under_another" za f5 d5){f6 d6}(D6:Dn K mg "covered" yd f6 d6){f7 d7}(D7:Dn K mg "looked_through" wM f7 d7){f8 d8}(D8:Dn K mg "first_border" zL f8 d8){f9 d9}(D9:Dn K mg "halves_of" xt f9 d9){f10 d10}(mB:Dn K mg "spare_of" zy f10 d10){f11 d11}(mC:Dn K mg "must_be_house" yl f11 d11){f12 d12}(mD:Dn K mg "must_be_road" yA f12 d12){f13 d13}(mE:Dn K mg "neighbours_of" xN f13 d13){f14 d14}(mF:Dn K mg "way_between" yp f14 d14){f15 d15}(ik:Dn K mg "way_on" wW f15 d15){f16 d16}(mG:Dn K mg "houses_behind" xz f16 d16){f17 d17}(il:Dn K mg "houses_from" vW f17 d17){f18 d18}(mH:Dn K mg "short_of" xG f18 d18){f19 d19}(mI:Dn K mg "wishes_of" xJ f19 d19){f20 d20}(mJ:Dn K mg "table_of" zO f20 d20){f21 d21}(im:Dn K mg "heard_of" vM f21 d21){f22 d22}(mK:Dn K mg "led_by" xW f22 d22){f23 d23}(io:Dn K mg "roads_on" wG f23 d23){f24 d24}(mM:Dn K mg "leading" zd f24 d24){f25 d25}(mN:Dn K mg "_law_blend" xI f25 d25){f26 d26}(mO:Dn K mg "_law_pot" zz f26 d26){f27 d27}(mP:Dn K mg "_law_pick" x0 f27 d27){f28 d28}(mQ:Dn K mg "_law_wish" Ab f28 d28){f29 d29}(mR:Dn K mg "_law_wishes" z0 f29 d29){f30 d30}(mT:Dn K mg "_law_nudged" xk f30 d30){f31 d31}(mU:Dn K mg "_law_web" yB f31 d31){f32 d32}(mV:Dn K mg "_law_holds" xE f32 d32){f33 d33}(mW:Dn K mg "_law_lane_right" yh f33 d33){f34 d34}(mX:Dn K mg "_law_led_right" zZ f34 d34){f35 d35}(kN:Dn K mg "law" yq f35 d35)(cx:mg "all"=none)(fm:mg "any"=none)(aC:mg "enumerate"=none)(aq:mg "len"=none)(bu:mg "list"=none)(bc:mg "max"=none)(aP:mg "min"=none)(aD:mg "range"=none)(fk:mg "set"=none)(az:mg "sorted"=none)(aF:mg "tuple"=none)(bh:mg "zip"=none):
  ∃fd:Qt,(∀(s:d_) (v:b_),Ul s fd ⟨[v],[]⟩ [("script", v)])/\∀base:I_,K.In base->base.Ns Pr mg->FnOk P w K mg base CX0 96 fa fd ["script"] (spD K tY):=by
 cases o5.symm.trans kN.m;refine⟨d35,λs v=>?_,λbase _ _=>?_⟩
 ·obtain⟨_,_,_,_,_,_,_,_,_,rfl,_,_⟩:=kN.F.ex;exact .of_eq rfl
 have o6:=mO.c1 (FC (P:=P) (w:=w) (base:=base) mO.F bu aC);have o7:=mN.c2 (Lo (P:=P) (w:=w) (base:=base) mN.F );have fS:=mP.c2 (E3 mP.F o7 aq);have o8:=mU.c2 (HG mU.F fS bu aD aq aP bc az aF);have o9:=mQ.c4 (JJ mQ.F fS aD aP bc aF);have pd:=mT.c2 (Gi mT.F fS aq bc aP);have pe:=mR.c3 (J7 mR.F fS o9 pd aP aD aq);have pf:=mV.c4 (K9 mV.F pe fS);have jp:=mC.c2 (IF (P:=P) (w:=w) (base:=base) mC.F );have fT:=mE.c2 (Mk mE.F jp az);have mY:=mD.c3 (LJ mD.F jp fT);have pg:=il.c3 (BY il.F fT il.b3 il.F.kp il.m 20);have ph:=mG.c3 (Ff mG.F mY pg az);have C0:=D0.c1 (IU (P:=P) (w:=w) (base:=base) D0.F aq);have kO:=mI.c1 (Js (P:=P) (w:=w) (base:=base) mI.F );have C2:=D2.c2 (JY D2.F C0 bh cx);have C5:=D5.c2 (Fv D5.F C2 fm);have C4:=D4.c1 (II D4.F C0 C5 az fk);have C3:=D3.c2 (Hv D3.F C0 bh bc aP aF);have C8:=D8.c2 (JB (P:=P) (w:=w) (base:=base) D8.F aC aP);have C9:=D9.c3 (GV (P:=P) (w:=w) (base:=base) D9.F );have C7:=D7.c3 (Ck D7.F C3 C2 C8 C9 aq aF D7.b3 D7.F.kp D7.m 40);have C6:=D6.c2 (IL D6.F C0 C7 aq bu aD);have mZ:=mB.c1 (El mB.F C4 C6);have pi:=mH.c2 (JS mH.F mZ C4);have m9:=im.c5 (Df im.F kO fT pi im.b5 im.F.kp im.m 20);have pj:=mJ.c5 (G7 mJ.F C0 kO mY m9);have pk:=mW.c4 (G1 mW.F ph pj mZ C4 C6);have C1:=D1.c2 (JX D1.F C0 bh cx);have po:=mM.c6 (Jq mM.F m9 C1);have pp:=io.c6 (Bf io.F fT po aq io.b6 io.F.kp io.m 20);have pq:=mK.c5 (Ln mK.F C0 kO jp pp C1 az aC);have pt:=ik.c4 (CV ik.F fT ik.b4 ik.F.kp ik.m 21);have pw:=mF.c3 (KP mF.F jp pt);have px:=mX.c4 (GZ mX.F pq pw C1 aC bh az);exact G' kN.F o6 fS o8 pf fT pk px aD aF
theorem walk{l:PySem.W.OpenLaw}{q:C_}{XP:(Str->Option b_)->I_->Prop}{YP:J_->I_->Prop}{d:DefRec}{K:Params->PySem.W.Frag}(nc:∀ns:List Int,ns.length<=63->∃rs,tY [.val (.lst (ns.map D.int))]=some (.val (.bl true),rs))(hn:l.most=some 63)(gB:d.params.defaults=[])(hY:∀(w:J_) (h:I_),YP w h->(K w.params).In h)(F:∀(w:J_) (mg:Str->Option b_) (fa:l_) (h:I_),(K w.params).In h->h.Ns Pr mg->mg d.name=some (.ref fa) →
   ∃fd:Qt,(∀(s:d_) (u:b_),Ul s fd ⟨[u],[]⟩ [("script", u)])/\∀base:I_,(K w.params).In base->base.Ns Pr mg->FnOk l.prog w (K w.params) mg base CX0 96 fa fd ["script"] (spD (K w.params) tY)):
  PySem.W.WalkO q cn XP YP l.row.toRowW d [] (λf vs=>PySem.call f vs):=
 GB (n:=63) (k:=96) (x:= "script") (CX:=λ_=>CX0) (sp:=λw=>spD (K w.params) tY) hn (by decide) gB ⟨rfl,by decide,by decide,rfl⟩ hY F (λ_ H a ns hl _ hS=>HA hS (nc ns hl)) λ_ _ _ _ _ z=>z
end Own
namespace Own
open DL L2
def PotOk(c:List D):Prop:=∃(ns:List Int) (bi ah:Int),c=[.lst (ns.map .int),.int bi,.int ah]/\0<=bi
theorem Md(a b:Int):∃z,cvF vy [.int a,.int b]=some (.int z):=by
 have:wpF vy [.val (.int a),.val (.int b)] λr _=>∃z,r=.val (.int z):=by
  refine sC rfl λKE hE _=>?_
  rw[yf];refine qR ?_;rintro K hK hR;simp;split
  ·exact hR _ _ (hE _ _ ⟨_,rfl,_,rfl⟩)
  ·refine hK _ ?_;refine qR ?_;rintro K hK -;simp;refine hK _ ?_;have l1:=Sv (a % 998244353*40692+b*69621+1009) (show(2147483399:Int)≠0 by decide);have u1:=Rm (a % 998244353*40692+b*69621+1009) (show(0:Int) < 2147483399 by decide);generalize (a % 998244353*40692+b*69621+1009) % 2147483399=x at *;refine qR ?_;rintro K hK -;simp;refine⟨by omega,hK _ ?_⟩;have l2:=Sv (x*x+b*48271+a % 131071) (show(2147483647:Int)≠0 by decide);have u2:=Rm (x*x+b*48271+a % 131071) (show(0:Int) < 2147483647 by decide);generalize (x*x+b*48271+a % 131071) % 2147483647=y at *;refine qR ?_;rintro K hK -;simp;refine⟨by omega,hK _ ?_⟩;generalize (y*y+x*17+3) % 2147483629=z at *;simp;exact hE _ _ ⟨_,rfl,_,rfl⟩
 obtain⟨r,aL,e,z,rfl⟩:=this;exact⟨z,by unfold cvF;simp only[map];rw[e]⟩
theorem rM{c:List D}{u:Int}{Q:R->List D->Prop}(hc:PotOk c)(h1:1<=u)(h2:u < 2 ^ 200)(k:∀n c',0<=n->n < u->PotOk c'->Q (.val (.int n)) c'):wpB rE c [.int u] Q:=by
 obtain⟨ns,bi,ah,rfl,h0⟩:=hc;refine uE rfl λKE hE _=>?_
 rw[xD];refine ut (λac=>∃kP jM x y z,0<=kP/\ac=[some (.bor [.lst (ns.map .int),.int kP,.int jM]),some (.val (.int u)),x,y,z]) (λK hK _=>?_) ?_
 ·simp[isMut,R.mut];split
  ·refine qR λK1 dO _=>?_
   simp[isMut,R.mut];refine dO _ ?_;refine qR λK1 dO _=>?_
   simp[isMut,R.mut];refine dO _ ?_;refine ut (λac=>∃m,ac=[some (.bor [.lst (ns.map .int),.int bi,.int ah]),some (.val (.int u)),some (.val (.int bi)),some (.val (.int m)),none]) (λK1 dO _=>?_) ?_
   ·simp[isMut,R.mut];split
    ·rename_i h;obtain⟨a,e,m⟩:=zB (ds:=ns.map D.int) h0 (by simpa using h);obtain⟨b,_,rfl⟩:=z_.mp m;rw[zS e];simp;exact dO _ ⟨_,rfl⟩
    ·rename_i h;split
     ·exact dO _ ⟨_,rfl⟩
     ·rename_i h';have hl:0 < ns.length:=by cases ns with | nil=>simp at h' | cons=>simp
      refine⟨by omega,?_⟩;obtain⟨a,e,m⟩:=zB (ds:=ns.map D.int) (i:=(bi*7+1) % (ns.length:Int)) (Sv _ (by omega)) (by simpa using Rm _ (by omega));obtain⟨b,_,rfl⟩:=z_.mp m;rw[zS e];simp;exact⟨by omega,dO _ ⟨_,rfl⟩⟩
   ·rintro ac ⟨m,rfl⟩;refine qR λK1 dO _=>?_
    simp[isMut,R.mut];refine dO _ ?_;obtain⟨z,e⟩:=Md m bi;simp[isMut,R.mut,e];exact hK _ ⟨_,_,_,_,_,by omega,rfl⟩
  ·exact hK _ ⟨_,_,_,_,_,h0,rfl⟩
 ·rintro ac ⟨kP,jM,x,y,z,h3,rfl⟩;refine qR ?_;rintro K hK -;simp[isMut,R.mut];refine⟨by omega,hK _ ?_⟩;refine qR ?_;rintro K hK -;simp[isMut,R.mut];refine⟨⟨by omega,by simpa using h2⟩,hK _ ?_⟩;simp;exact hE _ _ _ ⟨_,rfl⟩ (k _ _ (Sv _ (by omega)) (Rm _ (by omega)) ⟨_,_,_,rfl,h3⟩)
theorem uW{xs:List D}(h:(numD m xs)[i]?=some d):∃x,xs[i]?=some x/\d=.tup [.int ((m+i:Nat):Int),x]:=by
 induction xs generalizing m i with
 | nil=>simp[numD] at h
 | cons a xs ih =>
  cases i with
  | zero=>simp[numD] at h;exact⟨a,rfl,h.symm⟩
  | succ i =>
   simp only[numD,List.getElem?_cons_succ] at h;obtain⟨x,e1,e2⟩:=ih h;exact⟨x,by simpa using e1,by rw[e2,show m+1+i=m+(i+1) from by omega]⟩
theorem AC{α:Type}{f:α->D}{xs:List α}{lo:Option Int}:∃ys:List α,cutD (xs.map f) lo hi=ys.map f/\(∀y∈ys,y∈xs)/\ys.length=min (HT.sIx xs.length xs.length hi - HT.sIx xs.length 0 lo) (xs.length - HT.sIx xs.length 0 lo):=by
 refine⟨(xs.drop (HT.sIx xs.length 0 lo)).take (HT.sIx xs.length xs.length hi - HT.sIx xs.length 0 lo),?_,?_,?_⟩
 ·unfold cutD;simp[Vm,UE]
 ·intro y h;exact RS (Ps h)
 ·simp
theorem FD(ns:List Int):∃d,coF vz [.lst (ns.map .int)]=some d/\PotOk d:=by
 refine G3 ?_;unfold vz;refine Aw rfl ?_;rw[ze];refine qR λK hK _=>?_
 simp;refine hK _ ?_;obtain⟨cs,e,-,hl⟩:=AC (f:=D.int) (xs:=ns) (lo:=none) (hi:=some 12);rw[e]
 have cE:cs.length=min 12 ns.length:=by
  rw[hl];simp[HT.sIx]
 refine ut (λac=>∃cs,∃x y z,ac=[x,some (.own (map D.int cs)),y,z]) (λK hK _=>?_) ?_
 ·simp;obtain⟨ms,e,-,hm⟩:=AC (f:=D.int) (xs:=ns) (lo:=some 12) (hi:=some 63);rw[e];refine Di (J:=λi Y=>∃cs:List Int,∃y z,cs.length=min 12 ns.length/\Y=[some (.val (.lst (ns.map .int))),some (.own (cs.map .int)),y,z]) ⟨cs,_,_,cE,rfl⟩ ?_ ?_
  ·rintro i d Y hd ⟨cs,y,z,hc,rfl⟩;obtain⟨x,e1,rfl⟩:=uW hd;rw[B_,G_] at e1;obtain⟨n,e1,rfl⟩:=e1;have hi:i < ms.length:=(p_.mp e1).1
   have qA:12 < ns.length:=by
    simp[HT.sIx] at hm;omega
   simp[isMut,R.mut];have jS:cs.length=12:=by omega
   have pz:((i:Int) % 12)=((i % 12:Nat):Int):=by omega
   rw[pz];have bB:i % 12 < cs.length:=by omega
   rw[zS (a:=D.int cs[i % 12]) (by rw[sE];simp[bB])];simp;refine⟨(cs.set (i % 12) (cs[i % 12]+n)).map .int,?_,?_⟩
   ·unfold stF L2.ixN;rw[if_pos (by omega),if_pos (by simp;omega),show((i:Int) % 12).toNat=i % 12 from by omega];simp
   ·exact⟨cs.set (i % 12) (cs[i % 12]+n),by simpa using hc,by simp⟩
  ·rintro Y ⟨cs,y,z,hc,rfl⟩;exact hK _ ⟨cs,_,_,_,rfl⟩
 ·rintro ac ⟨cs,x,y,z,rfl⟩;simp[flR,fin];exact⟨cs,0,0,rfl,by omega⟩
noncomputable def pairD(p:Int×Int):D:=.tup [.int p.1,.int p.2]
noncomputable def wishD(w:List (Int×Int)):D:=.tup (w.map pairD)
noncomputable def letD(l:List Int):D:=.tup (l.map .int)
structure PairOk(p:Int×Int):Prop where
 lo:0<=p.1
 le:p.1<=p.2
 hi:p.2<=9
structure Wf(n:Nat)(w:List (Int×Int)):Prop where
 len:w.length=n
 all:∀p∈w,PairOk p
theorem uo{lo:Int}(h:(rngD lo n)[i]?=some d):d=.int (lo+i)/\i < n:=by
 unfold rngD at h;rw[B_,G_] at h;obtain⟨k,h1,rfl⟩:=h;obtain⟨h2,h3⟩:=p_.mp h1;rw[SG] at h3;subst h3;exact⟨rfl,by simpa using h2⟩
@[simp] theorem zI{lo:Int}:(rngD lo n).length=n:=by simp[rngD]
theorem Wf.app{w:List (Int×Int)}(h:Wf n w){p:Int×Int}(hp:PairOk p):Wf (n+1) (w++[p]):=by
 refine⟨by simp[h.len],λq hq=>?_⟩
 rcases D_.mp hq with h1 | h1
 ·exact h.all q h1
 ·rw[n_.mp h1];exact hp
theorem Ke{c:List D}{f:Nat}{top:Int}{Q:R->List D->Prop}(hc:PotOk c)(hf:f<=100)(h1:0<=low)(h2:1<=top)(h3:low+top<=10)(k:∀w c',Wf f w->PotOk c'->Q (.val (wishD w)) c'):wpB wZ c [.int f,.int low,.int top] Q:=by
 refine uE rfl λKE hE _=>?_
 rw[xV];refine qR ?_;rintro K hK -;refine⟨_,_,rfl,hK _ ?_⟩;show wp _ [some (.bor c),some (.val (.int f)),some (.val (.int low)),some (.val (.int top)),some (.own []),none,none,none] _;refine qR ?_;rintro K hK -;simp;refine⟨by omega,?_⟩;refine rO (J:=λi Y=>∃c w x y z,PotOk c/\Wf i w/\Y=[some (.bor c),some (.val (.int f)),some (.val (.int low)),some (.val (.int top)),some (.own (w.map pairD)),x,y,z]) ⟨c,[],_,_,_,hc,⟨rfl,by simp⟩,rfl⟩ ?_ ?_
 ·rintro i d Y hd ⟨c,w,x,y,z,hc,hw,rfl⟩ KL aH - - -;obtain⟨rfl,hi⟩:=uo hd;simp;refine qR ?_;rintro K hK -;simp[isMut,R.mut];refine rM hc h2 (by omega) λn c' fx eA aJ=>?_
  simp;refine hK _ ?_;refine qR ?_;rintro K hK -;simp[isMut,R.mut];refine rM aJ h2 (by omega) λm ng dF ir iw=>?_
  simp;refine hK _ ?_;simp[isMut,R.mut];refine⟨by have:=hw.len;omega,aH _ ?_⟩;exact⟨_,w++[(low+min n m,low+max n m)],_,_,_,iw,hw.app ⟨by simp;omega,by simp;omega,by simp;omega⟩,by rw[Qs];rfl⟩
 ·rintro Y ⟨c,w,x,y,z,hc,hw,rfl⟩;refine hK _ ?_;rw[zI] at hw;simp;exact hE _ _ _ ⟨_,rfl⟩ (k w c hw hc)
theorem Ko{c:List D}{f:Nat}{w:List (Int×Int)}{Q:R->List D->Prop}(hc:PotOk c)(hw:Wf f w)(h0:1<=f)(hf:f<=100)(k:∀w c',Wf f w->PotOk c'->Q (.val (wishD w)) c'):wpB wa c [wishD w] Q:=by
 refine uE rfl λKE hE _=>?_
 rw[ya];refine qR ?_;rintro K hK -;simp[isMut,R.mut,wishD];refine rM hc (by rw[hw.len];omega) (by rw[hw.len];omega) λn c' fx eA aJ=>?_
 simp;refine hK _ ?_;obtain⟨n,rfl⟩:=PH fx;have hn:n < w.length:=by omega
 obtain⟨p,hp⟩:∃p,w[n]?=some p:=⟨_,f_ hn⟩;have kQ:PairOk p:=hw.all p (K_ hp);have e1:atI (w.map pairD) (n:Int)=some (pairD p):=by rw[DL.sE];simp[hp]
 refine qR ?_;rintro K hK -;simp[e1];simp[pairD];refine hK _ ?_;refine qR ?_;rintro K hK -;refine⟨_,_,rfl,hK _ ?_⟩;show wp _ [some (R.bor c'),some (R.val (D.tup (w.map pairD))),some (.val (.int n)),some (.val (.int p.1)),some (.val (.int p.2)),some (.val (.lst [D.tup [.int (if p.1 - 1 > 0 then p.1 - 1 else 0),.int p.2],.tup [.int p.1,.int (if p.2+1 < 9 then p.2+1 else 9)],.tup [.int (if p.2 < p.1+1 then p.2 else p.1+1),.int p.2],.tup [.int p.1,.int (if p.2 - 1 > p.1 then p.2 - 1 else p.1)]]))] _
 have key:∀m:Int,0<=m->m < 4->∃q,PairOk q/\atI [D.tup [.int (if p.1 - 1 > 0 then p.1 - 1 else 0),.int p.2],.tup [.int p.1,.int (if p.2+1 < 9 then p.2+1 else 9)],.tup [.int (if p.2 < p.1+1 then p.2 else p.1+1),.int p.2],.tup [.int p.1,.int (if p.2 - 1 > p.1 then p.2 - 1 else p.1)]] m=some (pairD q):=λm dF ir=>by
  have:=kQ.lo;have:=kQ.le;have:=kQ.hi;have:m=0\/m=1\/m=2\/m=3:=by omega
  rcases this with rfl | rfl | rfl | rfl
  ·exact⟨(if p.1 - 1 > 0 then p.1 - 1 else 0,p.2),⟨by dsimp only;split<;>omega,by dsimp only;split<;>omega,by dsimp only;omega⟩,rfl⟩
  ·exact⟨(p.1,if p.2+1 < 9 then p.2+1 else 9),⟨by dsimp only;omega,by dsimp only;split<;>omega,by dsimp only;split<;>omega⟩,rfl⟩
  ·exact⟨(if p.2 < p.1+1 then p.2 else p.1+1,p.2),⟨by dsimp only;split<;>omega,by dsimp only;split<;>omega,by dsimp only;omega⟩,rfl⟩
  ·exact⟨(p.1,if p.2 - 1 > p.1 then p.2 - 1 else p.1),⟨by dsimp only;omega,by dsimp only;split<;>omega,by dsimp only;split<;>omega⟩,rfl⟩
 generalize [D.tup [.int (if p.1 - 1 > 0 then p.1 - 1 else 0),.int p.2],.tup [.int p.1,.int (if p.2+1 < 9 then p.2+1 else 9)],.tup [.int (if p.2 < p.1+1 then p.2 else p.1+1),.int p.2],.tup [.int p.1,.int (if p.2 - 1 > p.1 then p.2 - 1 else p.1)]]=ps at key ⊢;have e2:slF (.tup (w.map pairD)) none (some (n:Int))=some (.tup ((w.map pairD).take n)):=Eb (by simpa using hn);have e3:slF (.tup (w.map pairD)) (some ((n:Int)+1)) none=some (.tup ((w.map pairD).drop (n+1))):=xO (n:=n+1) (by simp;omega) (by omega);simp[isMut,R.mut,e2];refine rM aJ (by omega) (by omega) λm ng dF ir iw=>?_
 obtain⟨q,hq,eq⟩:=key m dF ir;simp[eq,e3];refine⟨by have:=hw.len;omega,by have:=hw.len;omega,hE _ _ _ ⟨_,rfl⟩ ?_⟩;have:=k (w.take n++[q]++w.drop (n+1)) ng ⟨by have:=hw.len;simp;omega,λr hr=>?_⟩ iw
 ·simpa[wishD,UE,Vm] using this
 ·simp at hr
  rcases hr with h | h | h
  ·exact hw.all r (Ps h)
  ·rw[h];exact hq
  ·exact hw.all r (RS h)
theorem Cs{α:Type}{f:α->D}{xs:List α}{i:Int}(h0:0<=i)(h1:i < xs.length):∃x,x∈xs/\atI (xs.map f) i=some (f x):=by
 obtain⟨a,e,m⟩:=zB (ds:=xs.map f) h0 (by simpa using h1);obtain⟨b,hb,rfl⟩:=z_.mp m;exact⟨b,hb,e⟩
theorem tx(h:∀d∈ds,dep d<=n):depA ds<=n:=by
 induction ds with
 | nil=>simp[depA]
 | cons d ds ih =>
  rw[depA];have h1:=h d j_;have h2:=ih λd hd=>h d (h_ _ hd)
  omega
theorem vx{w:List (Int×Int)}:dep (wishD w)<=2:=by
 unfold wishD;rw[dep]
 have:depA (w.map pairD)<=1:=tx λd hd=>by
  obtain⟨p,_,rfl⟩:=z_.mp hd;unfold pairD;simp[dep,depA]
 omega
theorem Jt{c:List D}{f:Nat}{Q:R->List D->Prop}(hc:PotOk c)(h0:1<=f)(hf:f<=3)(h1:0<=most)(h2:most<=100)(k:∀(ws:List (List (Int×Int))) c',(∀w∈ws,Wf f w)->(ws.length:Int)<=most->PotOk c'->Q (.val (.lst (ws.map wishD))) c'):wpB wt c [.int f,.int most] Q:=by
 refine uE rfl λKE hE _=>?_
 rw[xU];refine qR ?_;rintro K hK -;simp[isMut,R.mut];refine rM hc (by omega) (by omega) λn c' fx eA aJ=>?_
 simp
 have e1:∃t:Int,1<=t/\t<=10/\atI [D.int 2,D.int 3,D.int 4,D.int 10] n=some (.int t):=by
  have:n=0\/n=1\/n=2\/n=3:=by omega
  rcases this with rfl | rfl | rfl | rfl
  ·exact⟨2,by omega,by omega,rfl⟩
  ·exact⟨3,by omega,by omega,rfl⟩
  ·exact⟨4,by omega,by omega,rfl⟩
  ·exact⟨10,by omega,by omega,rfl⟩
 obtain⟨t,qB,qC,e1⟩:=e1
 have e2:∃t:Int,1<=t/\t<=10/\atI [D.int 10,D.int 10,D.int 5,D.int 4] (f:Int)=some (.int t):=by
  have:f=1\/f=2\/f=3:=by omega
  rcases this with rfl | rfl | rfl
  ·exact⟨10,by omega,by omega,rfl⟩
  ·exact⟨5,by omega,by omega,rfl⟩
  ·exact⟨4,by omega,by omega,rfl⟩
 obtain⟨t',qa,qb,e2⟩:=e2;simp[e1,e2];refine hK _ ?_;refine qR ?_;rintro K hK -;simp[isMut,R.mut];refine rM aJ (by omega) (by omega) λlow c' cG cE aJ=>?_
 simp;refine hK _ ?_;refine qR ?_;rintro K hK -;simp;refine hK _ ?_;refine qR ?_;rintro K hK -;simp[isMut,R.mut];refine rM aJ (by omega) (by omega) λqc c' dF ir aJ=>?_
 simp;refine⟨by omega,?_⟩;refine rO (J:=λi Y=>∃(c:List D) (ws:List (List (Int×Int))) (x y z:Option R),PotOk c/\(∀w∈ws,Wf f w)/\ws.length=i/\Y=[some (.bor c),some (.val (.int f)),some (.val (.int most)),some (.val (.int (min t t'))),some (.val (.int low)),some (.own (ws.map wishD)),x,y,z]) ⟨c',[],_,_,_,aJ,by simp,rfl,rfl⟩ ?_ ?_
 ·rintro i d Y hd ⟨c,ws,x,y,z,hc,aB,hi,rfl⟩ KL aH - - -;obtain⟨rfl,bX⟩:=uo hd;simp;refine qR ?_;rintro K hK -;simp[isMut,R.mut];refine rM hc (by omega) (by omega) λway c' pA iy aJ=>?_
  simp;refine hK _ ?_;refine qR ?_;rintro K hK -;simp[isMut,R.mut];refine Ke aJ (by omega) cG (by omega) (by omega) λw c' hw aJ=>?_
  simp;refine hK _ ?_;refine ut (λY=>∃(c:List D) (w:List (Int×Int)) (x:Option R),PotOk c/\Wf f w/\Y=[some (.bor c),some (.val (.int f)),some (.val (.int most)),some (.val (.int (min t t'))),some (.val (.int low)),some (.own (ws.map wishD)),x,some (.val (.int way)),some (.val (wishD w))]) ?_ ?_
  ·rintro K hK -;simp[isMut,R.mut];split
   ·split
    ·exact hK _ ⟨_,_,_,aJ,hw,rfl⟩
    ·rename_i dG;have ni:0 < ws.length:=Sg.mpr dG;refine rM aJ (by omega) (by omega) λn c' fx eA aJ=>?_
     obtain⟨w',ce,e⟩:=Cs (f:=wishD) fx eA;simp[e];exact hK _ ⟨_,_,_,aJ,aB _ ce,rfl⟩
   ·exact hK _ ⟨_,_,_,aJ,hw,rfl⟩
  ·rintro Y ⟨c,w,x,hc,hw,rfl⟩;refine ut (λY=>∃(c:List D) (w:List (Int×Int)) (x y:Option R),PotOk c/\Wf f w/\Y=[some (.bor c),some (.val (.int f)),some (.val (.int most)),some (.val (.int (min t t'))),some (.val (.int low)),some (.own (ws.map wishD)),x,y,some (.val (wishD w))]) ?_ ?_
   ·rintro K hK -;simp[isMut,R.mut];split
    ·split
     ·exact hK _ ⟨_,_,_,_,hc,hw,rfl⟩
     ·rename_i dG;have ni:0 < ws.length:=Sg.mpr dG;refine rM hc (by omega) (by omega) λn c' fx eA aJ=>?_
      obtain⟨w',ce,e⟩:=Cs (f:=wishD) fx eA;simp[e];refine Ko aJ (aB _ ce) h0 (by omega) λw c' hw aJ=>?_
      simp;exact hK _ ⟨_,_,_,_,aJ,hw,rfl⟩
    ·exact hK _ ⟨_,_,_,_,hc,hw,rfl⟩
   ·rintro Y ⟨c,w,x,y,hc,hw,rfl⟩;simp[isMut,R.mut];refine⟨by omega,aH _ ⟨_,ws++[w],_,_,_,hc,λv hv=>?_,by simp;omega,by rw[Qs];rfl⟩⟩
    rcases D_.mp hv with h | h
    ·exact aB v h
    ·rw[n_.mp h];exact hw
 ·rintro Y ⟨c,ws,x,y,z,hc,aB,hi,rfl⟩;refine hK _ ?_;rw[zI] at hi;simp;exact hE _ _ _ ⟨_,rfl⟩ (k ws c aB (by omega) hc)
noncomputable def hasB(w:List (Int×Int))(l:List Int):Bool:=(w.zip l).all λq=>decide (q.1.1<=q.2)&&decide (q.2<=q.1.2)
noncomputable def covB(a b:List (Int×Int)):Bool:=(a.zip b).all λq=>decide (q.1.1<=q.2.1)&&decide (q.2.2<=q.1.2)
@[simp] theorem M7{α:Type}{xs:List α}:UQ (λ_=>true) xs=xs:=by
 induction xs with
 | nil=>rfl
 | cons x xs ih=>simp
@[simp] theorem NF{p:Int×Int}:ixF (pairD p) (.int 0)=some (.int p.1):=rfl
@[simp] theorem Ou{p:Int×Int}:ixF (pairD p) (.int 1)=some (.int p.2):=rfl
@[simp ↓] theorem Ot{α:Type}{F:D->Option α}{g:M D}{Q:α->Gm->Prop}:wp (un1 F g) Y Q↔wp g Y λd ac=>wp (lft (F d)) ac Q:=by simp[un1]
@[simp] theorem NP{k:Ki}:isiF k d=some (.bl (isiB k d)):=rfl
@[simp] theorem M8{i:Int}:negI (.int i)=some (.int (-i)):=rfl
@[simp] theorem NX{b:Bool}:isNF b d .non=some (.bl (if b then !isN d else isN d)):=rfl
@[simp ↓] theorem MG{a:D}{QD:D->Gm->Prop}:wp (lft (inF neg a (.lst ds))) Y QD↔dep a<=99/\QD (.bl (if neg then !ds.any (λd=>deq d a) else ds.any λd=>deq d a)) Y:=by
 simp only[inF,Gf,sV]
@[simp] theorem M1:isiB .iT .non=false:=rfl
@[simp] theorem Op{x:Bool}:isiB .iT (.bl x)=true:=rfl
@[simp] theorem MJ{x:Int}:isiB .iT (.int x)=true:=rfl
@[simp] theorem OC:isiB .iT (.str x)=false:=rfl
@[simp] theorem Nt{x:List D}:isiB .iT (.tup x)=false:=rfl
@[simp] theorem NY{x:List D}:isiB .iT (.lst x)=false:=rfl
@[simp] theorem NU:isiB .sT .non=false:=rfl
@[simp] theorem N4{x:Bool}:isiB .sT (.bl x)=false:=rfl
@[simp] theorem ML{x:Int}:isiB .sT (.int x)=false:=rfl
@[simp] theorem MT:isiB .sT (.str x)=true:=rfl
@[simp] theorem NE{x:List D}:isiB .sT (.tup x)=false:=rfl
@[simp] theorem N8{x:List D}:isiB .sT (.lst x)=false:=rfl
@[simp] theorem Ny:isiB .bT .non=false:=rfl
@[simp] theorem NA{x:Bool}:isiB .bT (.bl x)=true:=rfl
@[simp] theorem N3{x:Int}:isiB .bT (.int x)=false:=rfl
@[simp] theorem M2:isiB .bT (.str x)=false:=rfl
@[simp] theorem MZ{x:List D}:isiB .bT (.tup x)=false:=rfl
@[simp] theorem My{x:List D}:isiB .bT (.lst x)=false:=rfl
@[simp] theorem OF:isiB .tT .non=false:=rfl
@[simp] theorem M9{x:Bool}:isiB .tT (.bl x)=false:=rfl
@[simp] theorem Oo{x:Int}:isiB .tT (.int x)=false:=rfl
@[simp] theorem Ox:isiB .tT (.str x)=false:=rfl
@[simp] theorem Nl{x:List D}:isiB .tT (.tup x)=true:=rfl
@[simp] theorem MW{x:List D}:isiB .tT (.lst x)=false:=rfl
@[simp] theorem Oy:isiB .lT .non=false:=rfl
@[simp] theorem NK{x:Bool}:isiB .lT (.bl x)=false:=rfl
@[simp] theorem Nz{x:Int}:isiB .lT (.int x)=false:=rfl
@[simp] theorem MB:isiB .lT (.str x)=false:=rfl
@[simp] theorem NZ{x:List D}:isiB .lT (.tup x)=false:=rfl
@[simp] theorem NW{x:List D}:isiB .lT (.lst x)=true:=rfl
theorem vd(h:∀d∈ds,∃xs:List D,d=.tup xs/\xs.length=n):cvF rY [.lst ds]=some .non:=by
 refine rS rfl λK _ k2=>?_
 rw[Ag];simp;refine rO (J:=λi Y=>∃x,Y=[some (.val (.lst ds)),x]) ⟨_,rfl⟩ ?_ ?_
 ·rintro i d Y hd ⟨x,rfl⟩ KL aH - - -;obtain⟨xs,rfl,hx⟩:=h d (K_ hd);cases ds with
  | nil=>simp at hd
  | cons d0 ds =>
   obtain⟨ys,rfl,hy⟩:=h d0 j_;simp[hx,hy];exact aH _ ⟨_,rfl⟩
 ·rintro Y ⟨x,rfl⟩;exact k2 _ rfl ⟨_,rfl⟩
theorem yt{a b:List D}(h:a.length=b.length):cvF rY [.lst [.tup a,.tup b]]=some .non:=
 vd (n:=a.length) (by simp[h])
theorem CJ{a b:List (Int×Int)}(h:a.length=b.length)(hl:a.length<=1000):cvF va [wishD a,wishD b]=some (.bl (covB a b)):=by
 refine rS rfl λK k1 _=>?_
 rw[xX];refine qR ?_;rintro K hK -;simp[wishD,yt,h];refine hK _ ?_;simp;refine wx (a.zip b) (λq=>.tup [pairD q.1,pairD q.2]) (λ_=>true) (λq=>.bl (decide (q.1.1<=q.2.1)&&decide (q.2.2<=q.1.2))) ?_;simp[xF];refine⟨by omega,?_,?_⟩
 ·rintro a b n m hm;split<;>omega
 ·rw[Cw];simp;exact k1 _ ⟨_,rfl⟩
theorem xK{w:List (Int×Int)}(h:w.length=l.length)(hl:w.length<=1000):cvF tR [wishD w,letD l]=some (.bl (hasB w l)):=by
 refine rS rfl λK k1 _=>?_
 rw[zf];refine qR ?_;rintro K hK -;simp[wishD,letD,yt,h];refine hK _ ?_;simp;refine wx (w.zip l) (λq=>.tup [pairD q.1,.int q.2]) (λ_=>true) (λq=>.bl (decide (q.1.1<=q.2)&&decide (q.2<=q.1.2))) ?_;simp[xF];refine⟨by omega,?_,?_⟩
 ·rintro a b n hm;split<;>omega
 ·rw[Cw];simp;exact k1 _ ⟨_,rfl⟩
theorem Gd{xs:List Nat}(h:∀x∈xs,x<=m):xs.sum<=xs.length*m:=by
 induction xs with
 | nil=>simp
 | cons x xs ih =>
  have h1:=h x j_;have h2:=ih λx hx=>h x (h_ _ hx)
  rw[sum_cons,OQ,Nat.succ_mul];omega
noncomputable def rngL(lo hi:Int):List Int:=(Pk (hi+1 - lo).toNat).map λk:Nat=>lo+(k:Int)
theorem uC{lo hi:Int}(h:hi < lo):rngL lo hi=[]:=by
 unfold rngL;rw[show(hi+1 - lo).toNat=0 by omega];rfl
theorem vq{lo hi:Int}(h:lo<=hi):rngL lo hi=lo::rngL (lo+1) hi:=by
 unfold rngL;rw[show(hi+1 - lo).toNat=(hi+1 - (lo+1)).toNat+1 by omega,QC];simp;intro a _;omega
theorem EF{lo hi n:Int}:n∈rngL lo hi↔lo<=n/\n<=hi:=by
 unfold rngL;simp;constructor
 ·rintro⟨k,h1,rfl⟩;omega
 ·rintro⟨h1,h2⟩;exact⟨(n - lo).toNat,by omega,by omega⟩
theorem IK{a b c d:Int}:(rngL a b).filter (λn=>decide (c<=n)&&decide (n<=d))=rngL (max a c) (min b d):=by
 obtain⟨m,hm⟩:∃m:Nat,(b+1 - a).toNat=m:=⟨_,rfl⟩
 induction m generalizing a with
 | zero=>rw[uC (by omega),uC (by omega)];rfl
 | succ m ih =>
  rw[vq (by omega),SA,ih (a:=a+1) (by omega)];by_cases h1:c<=a
  ·by_cases h2:a<=d
   ·rw[if_pos (by simp[h1,h2]),vq (lo:=max a c) (by omega),show max a c=a by omega,show max (a+1) c=a+1 by omega]
   ·rw[if_neg (by simp[h2]),uC (by omega),uC (by omega)]
  ·rw[if_neg (by simp[h1]),show max (a+1) c=max a c by omega]
noncomputable def lettersR:List (Int×Int)->List (List Int)
 | []=>[[]]
 | p::w=>(rngL p.1 p.2).flatMap λn=>(lettersR w).map (n::·)
theorem v8{w:List (Int×Int)}:l∈lettersR w↔l.length=w.length/\hasB w l=true:=by
 induction w generalizing l with
 | nil=>simp[lettersR,hasB]
 | cons p w ih =>
  cases l with
  | nil=>simp[lettersR]
  | cons n l =>
   simp[lettersR,EF,hasB] at ih ⊢;constructor
   ·rintro⟨h1,h2⟩;obtain⟨h3,h4⟩:=ih.mp h2;exact⟨h3,h1,h4⟩
   ·rintro⟨h1,h2,h3⟩;exact⟨h2,ih.mpr ⟨h1,h3⟩⟩
noncomputable def mixB(a b:List (Int×Int)):List (Int×Int):=(a.zip b).map λq=>(max q.1.1 q.2.1,min q.1.2 q.2.2)
noncomputable def okB(w:List (Int×Int)):Bool:=w.all λp=>decide (p.1<=p.2)
theorem IP{a b:List (Int×Int)}(h:a.length=b.length):(lettersR a).filter (hasB b)=if okB (mixB a b)=true then lettersR (mixB a b) else[]:=by
 induction a generalizing b with
 | nil =>
  cases b with
  | nil=>simp[lettersR,mixB,okB,hasB]
  | cons q b=>simp at h
 | cons p a ih =>
  cases b with
  | nil=>simp at h
  | cons q b =>
   have ih:=ih (b:=b) (by simpa using h)
   have e1:((lettersR (p::a)).filter (hasB (q::b)))=((rngL p.1 p.2).filter λn=>decide (q.1<=n)&&decide (n<=q.2)).flatMap λn=>((lettersR a).filter (hasB b)).map (n::·):=by
    rw[lettersR,List.filter_flatMap];generalize rngL p.1 p.2=ns
    induction ns with
    | nil=>rfl
    | cons n ns ihn =>
     rw[OS,ihn,SA];by_cases hq:q.1<=n/\n<=q.2
     ·rw[if_pos (by simp[hq]),OS]
      congr 1
      rw[List.filter_map]
      congr 2
      funext l
      simp[hasB,hq]
     ·rw[if_neg (by simpa using hq)]
      have:(UQ (hasB (q::b)) ((lettersR a).map (n::·)))=[]:=by
       rw[S9];intro l hl;simp at hl;obtain⟨l',_,rfl⟩:=hl;simp[hasB];intro h1 h2;omega
      rw[this,List.nil_append]
   rw[e1,IK,ih];have e2:mixB (p::a) (q::b)=(max p.1 q.1,min p.2 q.2)::mixB a b:=by simp[mixB]
   rw[e2];have e3:okB ((max p.1 q.1,min p.2 q.2)::mixB a b)=(decide (max p.1 q.1<=min p.2 q.2)&&okB (mixB a b)):=by simp only[okB,Qh]
   rw[e3];by_cases h1:okB (mixB a b)=true
   ·rw[if_pos h1];by_cases h2:max p.1 q.1<=min p.2 q.2
    ·rw[if_pos (by rw[h1];simpa using h2),lettersR]
    ·rw[if_neg (by rw[h1];simpa using h2),uC (by omega)];rfl
   ·rw[if_neg h1,if_neg (by simp[h1])];simp
theorem KJ{a b:List (Int×Int)}(h:a.length=b.length)(hl:a.length<=1000):cvF wO [wishD a,wishD b]=some (if okB (mixB a b)=true then wishD (mixB a b) else .non):=by
 refine rS rfl λKE k1 _=>?_
 rw[zG];refine qR ?_;rintro K hK -;simp[wishD,yt,h];refine hK _ ?_;refine qR ?_;rintro K hK -;simp;refine hK _ ?_;refine qR ?_;rintro K hK hR;simp[xF];refine rO (J:=λi Y=>∃x3 x4 x5 x6,okB ((mixB a b).take i)=true/\Y=[some (.val (wishD a)),some (.val (wishD b)),some (.own (((mixB a b).take i).map pairD)),x3,x4,x5,x6]) ⟨_,_,_,_,rfl,rfl⟩ ?_ ?_
 ·rintro i d Y hd ⟨x3,x4,x5,x6,ho,rfl⟩ KL aH - - iz;rw[B_,G_] at hd;obtain⟨q,hq,rfl⟩:=hd;obtain⟨hi,cD⟩:=p_.mp hq;have hm:(mixB a b)[i]?=some (max q.1.1 q.2.1,min q.1.2 q.2.2):=by unfold mixB;rw[B_,hq];rfl
  simp;refine qR ?_;rintro K hK -;simp;refine hK _ ?_;refine qR ?_;rintro K hK -;simp;refine hK _ ?_;refine qR ?_;rintro K hK fy;simp;split
  ·rename_i qD
   have:okB (mixB a b)=false:=by
    rw[←TJ];intro gA;have:=u_.mp gA _ (K_ hm);simp only[decide_eq_true_eq] at this;omega
   rw[this] at k1;exact fy _ _ (iz _ _ (hR _ _ (k1 _ ⟨_,rfl⟩)))
  ·rename_i qE;refine hK _ ?_;simp[isMut,R.mut];have aQ:(mixB a b).length=min a.length b.length:=by simp[mixB]
   have fU:(mixB a b).take (i+1)=(mixB a b).take i++[(max q.1.1 q.2.1,min q.1.2 q.2.2)]:=by rw[Qv,hm];rfl
   refine⟨by omega,aH _ ⟨some (.val (pairD q.1)),some (.val (pairD q.2)),some (.val (.int (max q.1.1 q.2.1))),some (.val (.int (min q.1.2 q.2.2))),?_,?_⟩⟩
   ·rw[fU];unfold okB at ho ⊢;rw[List.all_append,ho];simp only[Qh,List.all_nil,Ua,Bool.true_and,decide_eq_true_eq];omega
   ·rw[fU,Qs];simp[pairD,wishD]
 ·rintro Y ⟨x3,x4,x5,x6,ho,rfl⟩;refine hK _ ?_;have aQ:(mixB a b).length=(a.zip b).length:=by simp[mixB]
  rw[w_,←aQ,PP] at ho ⊢;simp;rw[if_pos ho] at k1;exact k1 _ ⟨_,rfl⟩
theorem AQ(p:Int×Int):ltP p p=false:=by simp[ltP]
theorem BA{p q:Int×Int}:ltP p q=true↔p.1 < q.1\/(p.1=q.1/\p.2 < q.2):=by
 unfold ltP;by_cases a:p.1=q.1
 ·simp[a]
 ·rw[if_neg (by simpa using a)];simp[a]
theorem LY{p q r:Int×Int}(h1:ltP p q=true)(h2:ltP q r=true):ltP p r=true:=by
 rw[BA] at *;omega
theorem CF(ps:List (Int×Int)):∀k i,i<=k->btP ps i (PySem.argBest (btP ps) k)=false
 | 0,i,h=>by
  obtain rfl:i=0:=by omega
  exact AQ _
 | k+1,i,h=>by
  have ih:=CF ps k;rw[PySem.argBest];split
  ·rename_i lt
   rcases RL k i with g | g
   ·obtain rfl:i=k+1:=by omega
    exact AQ _
   ·have:=ih i g;by_cases z:btP ps i (k+1)=true
    ·rw[show btP ps i _=true from LY z lt] at this;cases this
    ·simpa using z
  ·rename_i ma
   rcases RL k i with g | g
   ·obtain rfl:i=k+1:=by omega
    simpa using ma
   ·exact ih i g
theorem Mw(h:ps≠[]):minP ps∈ps/\∀q∈ps,ltP q (minP ps)=false:=by
 have pos:0 < ps.length:=Sg.mpr h;have low:=Bh (btP ps) (ps.length - 1);constructor
 ·unfold minP;rw[i_,f_ (by omega)];exact Pg _
 ·intro q hq;obtain⟨i,hi,rfl⟩:=QK hq;have:=CF ps (ps.length - 1) i (by omega);unfold btP at this;rw[i_,f_ hi] at this;exact this
noncomputable def leftB(ws:List (List (Int×Int)))(l:List Int):Bool:=ws.all λw=>!hasB w l
noncomputable def firstL(ws:List (List (Int×Int)))(p:List (Int×Int)):Option (List Int):=(lettersR p).find? (leftB ws)
theorem vv(a b:List (Int×Int)):lettersR (a++b)=(lettersR a).flatMap λl=>(lettersR b).map (l++·):=by
 induction a with
 | nil=>simp[lettersR]
 | cons p a ih =>
  rw[List.cons_append,lettersR,ih,lettersR,Ui]
  congr 1
  funext n
  simp[List.map_flatMap,List.flatMap_map,Vk]
theorem Ba{w:List (Int×Int)}(h:okB w=true):∃t,lettersR w=w.map (·.1)::t:=by
 induction w with
 | nil=>exact⟨[],rfl⟩
 | cons p w ih =>
  simp only[okB,Qh,OP,decide_eq_true_eq] at h;obtain⟨t,e⟩:=ih (by simpa[okB] using h.2);rw[lettersR,vq h.1,OS,e];simp
theorem IY{lo a hi:Int}(h1:lo<=a)(h2:a<=hi):rngL lo hi=rngL lo a++rngL (a+1) hi:=by
 obtain⟨m,hm⟩:∃m:Nat,(a+1 - lo).toNat=m:=⟨_,rfl⟩
 induction m generalizing lo with
 | zero=>omega
 | succ m ih =>
  rw[vq (by omega:lo<=hi),vq h1];by_cases z:lo=a
  ·subst z;rw[uC (by omega:lo < lo+1)];rfl
  ·rw[ih (lo:=lo+1) (by omega) (by omega)];rfl
theorem Bw{lo a hi:Int}{q:List (Int×Int)}(h1:lo<=a)(h2:a<=hi):lettersR ((lo,hi)::q)=lettersR ((lo,a)::q)++lettersR ((a+1,hi)::q):=by
 simp only[lettersR];rw[IY h1 h2,PD]
theorem Lz{pre q:List (Int×Int)}{P P':List Int->Bool}(ok:okB pre=true)(h:∀a∈lettersR pre,∀x∈lettersR q,P (a++x)=P' x):(lettersR (pre++q)).find? P=((lettersR q).find? P').map (pre.map (·.1)++·):=by
 obtain⟨t,e⟩:=Ba ok;rw[vv];cases f:(lettersR q).find? P' with
 | none =>
  rw[SM] at f;simp only[Option.map_none,SM];intro y hy;rw[OY] at hy;obtain⟨a,ha,hy⟩:=hy;rw[z_] at hy;obtain⟨x,hx,rfl⟩:=hy;rw[h a ha x hx];exact f x hx
 | some x =>
  rw[e,OS,UF,List.find?_map]
  have:(lettersR q).find? (P∘(pre.map (·.1)++·))=(lettersR q).find? P':=by
   have hx:∀x∈lettersR q,P (pre.map (·.1)++x)=P' x:=λx hx=>h _ (by rw[e];exact j_) x hx
   generalize lettersR q=Q at hx
   induction Q with
   | nil=>rfl
   | cons y Q ih =>
    rw[Sa,Sa,ih λx de=>hx x (h_ _ de)];rw[show(P∘(pre.map (·.1)++·)) y=P' y from hx y j_]
  rw[this,f];rfl
theorem G2{a b:List (Int×Int)}{x y:List Int}(h:a.length=x.length):hasB (a++b) (x++y)=(hasB a x&&hasB b y):=by
 unfold hasB;rw[List.zip_append h,List.all_append]
theorem Hb(a b:List (Int×Int)):mixB a b=mixB b a:=by
 unfold mixB
 induction a generalizing b with
 | nil=>simp
 | cons p a ih =>
  cases b with
  | nil=>simp
  | cons q b =>
   simp only[Qc,F_];rw[ih b,Int.max_comm,Int.min_comm]
theorem Ho{w:List (Int×Int)}(h:w.length=p.length)(no:okB (mixB w p)=false):∀l∈lettersR p,hasB w l=false:=by
 have:=IP h.symm;rw[Hb,no] at this;simp only[QW,if_false] at this;intro l hl;have:=S9.mp this l hl;simpa using this
theorem A3{w:List (Int×Int)}(h:w.length=p.length)(c:covB w p=true):∀l∈lettersR p,hasB w l=true:=by
 intro l hl;obtain⟨h1,h2⟩:=v8.mp hl;clear hl
 induction w generalizing p l with
 | nil=>simp[hasB]
 | cons a w ih =>
  cases p with
  | nil=>simp at h
  | cons b p =>
   cases l with
   | nil=>simp at h1
   | cons n l =>
    simp only[covB,hasB,Qc,Qh,OP,decide_eq_true_eq] at c h2 ⊢;exact⟨by omega,ih (by simpa using h) c.2 l (by simpa using h1) h2.2⟩
noncomputable def hv1(p:List (Int×Int))(f:Nat)(a:Int):List (Int×Int):=p.take f++[((p.getD f (0,0)).1,a)]++p.drop (f+1)
noncomputable def hv2(p:List (Int×Int))(f:Nat)(a:Int):List (Int×Int):=p.take f++[(a+1,(p.getD f (0,0)).2)]++p.drop (f+1)
theorem wU{f:Nat}(hf:f < p.length):p=p.take f++p.getD f (0,0)::p.drop (f+1):=by
 conv=>lhs;rw[←Qm f p,O3 hf]
 rw[i_,f_ hf];rfl
theorem Lr{f:Nat}{a:Int}(ok:okB p=true)(hf:f < p.length)(len:∀w∈ws,w.length=p.length)(h1:(p.getD f (0,0)).1<=a)(h2:a<=(p.getD f (0,0)).2)(aT:∀w∈ws,(∀l∈lettersR p,hasB w l=false)\/covB (w.take f) (p.take f)=true):firstL ws p=(firstL ws (hv1 p f a)).or (firstL ws (hv2 p f a)):=by
 have pB:okB (p.take f)=true:=u_.mpr λx hx=>u_.mp ok x (Ps hx)
 obtain⟨bs,hb⟩:∃bs:List (List (Int×Int)),bs=ws.filter λw=>covB (w.take f) (p.take f):=⟨_,rfl⟩
 have key:∀x∈lettersR (p.take f),∀y:List Int,x++y∈lettersR p->leftB ws (x++y)=leftB (bs.map (·.drop f)) y:=by
  intro x hx y hy;obtain⟨lx,_⟩:=v8.mp hx;unfold leftB;rw[hb];clear hb bs
  induction ws with
  | nil=>rfl
  | cons w ws ih =>
   have ih:=ih (λw hw=>len w (h_ _ hw)) λw hw=>aT w (h_ _ hw)
   rw[Qh,ih,SA];have lw:=len w j_;have lt:(w.take f).length=(p.take f).length:=by simp[lw]
   by_cases c:covB (w.take f) (p.take f)=true
   ·rw[if_pos c,F_,Qh]
    congr 2
    conv=>lhs;rw[←Qm f w]
    rw[G2 (by rw[lx,lt]),A3 lt c x hx];rfl
   ·rw[if_neg c]
    rcases aT w j_ with n | n
    ·rw[n _ hy];rfl
    ·exact absurd n c
 have sub:∀q:List (Int×Int),(∀y∈lettersR q,y∈lettersR (p.getD f (0,0)::p.drop (f+1)))->firstL ws (p.take f++q)=((lettersR q).find? (leftB (bs.map (·.drop f)))).map ((p.take f).map (·.1)++·):=by
  intro q hq;refine Lz pB λx hx y hy=>key x hx y ?_
  rw[wU hf,vv,OY];exact⟨x,hx,z_.mpr ⟨y,hq y hy,rfl⟩⟩
 have cut:=Bw (q:=p.drop (f+1)) h1 h2;rw[show firstL ws p=firstL ws (p.take f++p.getD f (0,0)::p.drop (f+1)) by rw[←wU hf],sub _ λy h=>h];unfold hv1 hv2
 rw[P_,P_,QA,QA,sub _ λy h=>by rw[show p.getD f (0,0)=((p.getD f (0,0)).1,(p.getD f (0,0)).2) from rfl,cut];exact O_ _ h,
  sub _ λy h=>by rw[show p.getD f (0,0)=((p.getD f (0,0)).1,(p.getD f (0,0)).2) from rfl,cut];exact OH _ h]
 rw[show p.getD f (0,0)=((p.getD f (0,0)).1,(p.getD f (0,0)).2) from rfl,cut,UF]
 cases(lettersR (((p.getD f (0,0)).1,a)::p.drop (f+1))).find? (leftB (bs.map (·.drop f)))<;>rfl
theorem HI{f:Nat}{a:Int}(hf:f < p.length)(hl:p.length<=1000):cvF wQ [wishD p,.int f,.int a]=some (.tup [wishD (hv1 p f a),wishD (hv2 p f a)]):=by
 obtain⟨pr,hp⟩:∃pr,p[f]?=some pr:=⟨_,f_ hf⟩;have e0:p.getD f (0,0)=pr:=by rw[i_,hp];rfl
 have e1:atI (p.map pairD) (f:Int)=some (pairD pr):=by rw[DL.sE];simp[hp]
 have e2:slF (.tup (p.map pairD)) none (some (f:Int))=some (.tup ((p.map pairD).take f)):=Eb (by simpa using hf);have e3:slF (.tup (p.map pairD)) (some ((f:Int)+1)) none=some (.tup ((p.map pairD).drop (f+1))):=xO (n:=f+1) (by simp;omega) (by omega);refine rS rfl λKE k1 _=>?_
 rw[zE];refine qR ?_;rintro K hK -;simp[wishD,e2];refine hK _ ?_;refine qR ?_;rintro K hK -;simp[e3];refine hK _ ?_;refine qR ?_;rintro K hK -;simp[e1];refine hK _ ?_;refine qR ?_;rintro K hK -;simp[e1];refine hK _ ?_;simp;refine⟨by omega,by omega,by omega,by omega,?_⟩;have k3:=k1 [some (.val (wishD p)),some (.val (.int f)),some (.val (.int a)),some (.val (.tup (List.take f (map pairD p)))),some (.val (.tup (List.drop (f+1) (map pairD p)))),some (.val (.int pr.1)),some (.val (.int pr.2))] ⟨_,rfl⟩;simpa[wishD,hv1,hv2,e0,pairD,hp,UE,Vm] using k3
noncomputable def bdL(g:Nat)(pr wr:Int×Int):List (Int×Int):=(if pr.1 < wr.1 then[((g:Int),wr.1 - 1)] else[])++if wr.2 < pr.2 then[((g:Int),wr.2)] else[]
noncomputable def bdsL(ws:List (List (Int×Int)))(p:List (Int×Int))(g:Nat):List (Int×Int):=ws.flatMap λw=>bdL g (p.getD g (0,0)) (w.getD g (0,0))
noncomputable def bordersL(ws:List (List (Int×Int)))(p:List (Int×Int)):List (Int×Int):=(Pk p.length).flatMap (bdsL ws p)
theorem vZ{α β:Type}{f:α->List β}{xs:List α}(h:∀x∈xs,(f x).length<=m):(xs.flatMap f).length<=xs.length*m:=by
 induction xs with
 | nil=>simp
 | cons x xs ih =>
  have h1:=h x j_;have h2:=ih λx hx=>h x (h_ _ hx)
  rw[OS,y_,OQ,Nat.succ_mul];omega
theorem Da{g:Nat}{wr:Int×Int}:(bdL g pr wr).length<=2:=by
 unfold bdL;split<;>split<;>simp
theorem JQ:prsD (L.map pairD)=some L:=by
 induction L with
 | nil=>rfl
 | cons x L ih=>simp only[F_,pairD,prsD] at ih ⊢;rw[ih]
theorem Kq(h:L≠[]):minlF [.lst (L.map pairD)]=some (pairD (minP L)):=by
 cases L with
 | nil=>exact absurd rfl h
 | cons x L=>unfold minlF;simp only;rw[JQ];rfl
theorem Et{w:List (Int×Int)}{g:Nat}(h:g < w.length):atI (w.map pairD) (g:Int)=some (pairD (w.getD g (0,0))):=by
 rw[DL.sE,i_];simp[h]
theorem Hw(hw:∀w∈ws,w.length=p.length)(hp:p.length<=100)(hl:ws.length<=100)(ne:bordersL ws p≠[]):cvF vS [.lst (ws.map wishD),wishD p]=some (pairD (minP (bordersL ws p))):=by
 refine rS rfl λKE k1 _=>?_
 rw[y0];refine qR ?_;rintro K hK -;simp;refine hK _ ?_;refine qR ?_;rintro K hK -;simp[wishD]
 have big:∀i,i<=100->((Pk i).flatMap (bdsL ws p)).length<=20000:=λi hi=>by
  refine E_ (vZ (m:=200) λg _=>E_ (vZ (m:=2) λw _=>Da) (by omega)) ?_;simp;omega
 refine rO (J:=λi Y=>∃x3 x4 x5,Y=[some (.val (.lst (ws.map wishD))),some (.val (wishD p)),some (.own (((Pk i).flatMap (bdsL ws p)).map pairD)),x3,x4,x5]) ⟨_,_,_,rfl⟩ ?_ ?_
 ·rintro i d Y hd ⟨x3,x4,x5,rfl⟩ KL aH - - -;obtain⟨x,e1,rfl⟩:=uW hd;rw[B_,G_] at e1;obtain⟨pr,e1,rfl⟩:=e1;have hi:i < p.length:=(p_.mp e1).1;have pC:p.getD i (0,0)=pr:=by rw[i_,e1];rfl
  simp;refine rO (J:=λj Y=>∃x5,Y=[some (.val (.lst (ws.map wishD))),some (.val (wishD p)),some (.own (((Pk i).flatMap (bdsL ws p)++(ws.take j).flatMap λw=>bdL i pr (w.getD i (0,0))).map pairD)),some (.val (.int i)),some (.val (pairD pr)),x5]) ⟨x5,by simp⟩ ?_ ?_
  ·rintro j d Y hd ⟨x5,rfl⟩ KL aH - - -;rw[B_,G_] at hd;obtain⟨w,np,rfl⟩:=hd;have jq:=hw w (K_ np);have fU:ws.take (j+1)=ws.take j++[w]:=by rw[Qv,np];rfl
   have aw:=Et (w:=w) (g:=i) (by omega);obtain⟨wr,nr⟩:∃wr,w.getD i (0,0)=wr:=⟨_,rfl⟩;rw[nr] at aw
   have iA:(((Pk i).flatMap (bdsL ws p))++(ws.take j).flatMap λw=>bdL i pr (w.getD i (0,0))).length<=30000:=by
    have b1:=big i (by omega);have b2:((ws.take j).flatMap λw=>bdL i pr (w.getD i (0,0))).length<=200:=E_ (vZ (m:=2) λw _=>Da) (by simp;omega);rw[y_];omega
   rw[fU,PD] at aH;simp only[OS,List.flatMap_nil,PY,nr] at aH;generalize ((Pk i).flatMap (bdsL ws p))=A at aH iA ⊢;generalize ((ws.take j).flatMap λw=>bdL i pr (w.getD i (0,0)))=C at aH iA ⊢;have qe:A.length+C.length<=30000:=by simpa using iA
   simp;refine ut (λY=>Y=[some (.val (.lst (ws.map wishD))),some (.val (wishD p)),some (.own ((A++C++if pr.1 < wr.1 then[((i:Int),wr.1 - 1)] else[]).map pairD)),some (.val (.int i)),some (.val (pairD pr)),some (.val (wishD w))]) ?_ ?_
   ·rintro K hK -;simp[isMut,R.mut,wishD,aw];split
    ·rename_i h;refine⟨by omega,hK _ ?_⟩;simp[wishD,pairD,h]
    ·rename_i h;refine hK _ ?_;rw[if_neg h];simp[wishD]
   ·rintro Y rfl;simp[isMut,R.mut,wishD,aw];split
    ·rename_i h;refine⟨by split<;>simp<;>omega,aH _ ⟨some (.val (wishD w)),?_⟩⟩;unfold bdL;rw[if_pos h];simp[wishD,pairD]
    ·rename_i h;refine aH _ ⟨some (.val (wishD w)),?_⟩;unfold bdL;rw[if_neg h];simp[wishD]
  ·rintro Y ⟨x5,rfl⟩;refine aH _ ⟨some (.val (.int i)),some (.val (pairD pr)),x5,?_⟩;rw[w_,PP,List.range_succ,PD];simp[bdsL,pC,e1]
 ·rintro Y ⟨x3,x4,x5,rfl⟩;refine hK _ ?_
  have hn:∀ds:List D,(numD 0 ds).length=ds.length:=by
   have:∀(ds:List D) m,(numD m ds).length=ds.length:=λds=>by
    induction ds with
    | nil=>intro m;rfl
    | cons d ds ih=>intro m;simp[numD,ih]
   exact λds=>this ds 0
  rw[hn,w_];have:=Kq ne;unfold bordersL at this k1;simp[this];exact k1 _ ⟨_,rfl⟩
theorem sU{g:Nat}{wr x:Int×Int}:x∈bdL g pr wr↔(pr.1 < wr.1/\x=((g:Int),wr.1 - 1))\/(wr.2 < pr.2/\x=((g:Int),wr.2)):=by
 unfold bdL;rw[D_];constructor
 ·rintro(h | h)
  ·split at h
   ·exact .inl ⟨‹_›,by simpa using h⟩
   ·simp at h
  ·split at h
   ·exact .inr ⟨‹_›,by simpa using h⟩
   ·simp at h
 ·rintro(⟨h,rfl⟩ | ⟨h,rfl⟩)
  ·exact .inl (by rw[if_pos h];simp)
  ·exact .inr (by rw[if_pos h];simp)
theorem xL{x:Int×Int}:x∈bordersL ws p↔∃g,g < p.length/\∃w∈ws,x∈bdL g (p.getD g (0,0)) (w.getD g (0,0)):=by
 unfold bordersL bdsL;simp only[OY,PF]
theorem xM{g:Nat}(h:g < p.length):p[g]?=some (p.getD g (0,0)):=by
 rw[i_,f_ h];rfl
theorem Hg{w:List (Int×Int)}(h:w.length=p.length)(ok:okB (mixB w p)=true){g:Nat}(hg:g < p.length):max (w.getD g (0,0)).1 (p.getD g (0,0)).1<=min (w.getD g (0,0)).2 (p.getD g (0,0)).2:=by
 have e:(mixB w p)[g]?=some (max (w.getD g (0,0)).1 (p.getD g (0,0)).1,min (w.getD g (0,0)).2 (p.getD g (0,0)).2):=by
  unfold mixB;rw[B_,QT (z:=(w.getD g (0,0),p.getD g (0,0))) |>.mpr ⟨xM (by omega),xM hg⟩];rfl
 have:=u_.mp ok _ (K_ e);simpa using this
theorem CH{w:List (Int×Int)}(h:w.length=p.length)(k:∀g,g < p.length->(w.getD g (0,0)).1<=(p.getD g (0,0)).1/\(p.getD g (0,0)).2<=(w.getD g (0,0)).2):covB w p=true:=by
 unfold covB;rw[u_];intro q hq;obtain⟨i,hi,rfl⟩:=QK hq;rw[Vd] at hi;have:=k i (by omega);rw[List.getElem_zip];rw[i_,i_,f_ (by omega),f_ (by omega)] at this;simpa using this
theorem G4(len:∀w∈ws,w.length=p.length)(ne:ws≠[])(pD:∀w∈ws,okB (mixB w p)=true)(no:∀w∈ws,covB w p=false):
  bordersL ws p≠[]/\∃(f:Nat) (a:Int),minP (bordersL ws p)=((f:Int),a)/\f < p.length/\(p.getD f (0,0)).1<=a/\a < (p.getD f (0,0)).2/\∀w∈ws,covB (w.take f) (p.take f)=true:=by
 have one:bordersL ws p≠[]:=by
  obtain⟨w,hw⟩:=List.exists_mem_of_ne_nil ws ne;intro pE
  have c:=CH (len w hw) λg hg=>by
   have h0:=λx hx=>(xL (ws:=ws) (p:=p) (x:=x)).mpr ⟨g,hg,w,hw,hx⟩
   rw[pE] at h0;refine⟨Uj.mp λlt=>?_,Uj.mp λlt=>?_⟩
   ·exact absurd (h0 _ (sU.mpr (.inl ⟨lt,rfl⟩))) QI
   ·exact absurd (h0 _ (sU.mpr (.inr ⟨lt,rfl⟩))) QI
  rw[no w hw] at c;cases c
 refine⟨one,?_⟩;obtain⟨m1,m2⟩:=Mw one;generalize minP (bordersL ws p)=m at m1 m2;obtain⟨f,hf,w,hw,hm⟩:=xL.mp m1;have mx:=Hg (len w hw) (pD w hw) hf;refine⟨f,m.2,?_,hf,?_⟩
 ·rcases sU.mp hm with⟨_,rfl⟩ | ⟨_,rfl⟩<;>rfl
 ·have qF:m.1=f:=by rcases sU.mp hm with⟨_,rfl⟩ | ⟨_,rfl⟩<;>rfl
  refine⟨?_,?_,λv hv=>?_⟩
  ·rcases sU.mp hm with⟨h,rfl⟩ | ⟨h,rfl⟩<;>(dsimp only;omega)
  ·rcases sU.mp hm with⟨h,rfl⟩ | ⟨h,rfl⟩<;>(dsimp only;omega)
  ·refine CH (by simp[len v hv]) λg hg=>?_
   rw[RI] at hg
   have e:∀u:List (Int×Int),(u.take f).getD g (0,0)=u.getD g (0,0):=λu=>by
    rw[i_,i_,SC (by omega)]
   rw[e,e]
   have far:∀x,x∈bdL g (p.getD g (0,0)) (v.getD g (0,0))->False:=λx hx=>by
    have:=m2 x (xL.mpr ⟨g,by omega,v,hv,hx⟩);have x1:x.1=g:=by rcases sU.mp hx with⟨_,rfl⟩ | ⟨_,rfl⟩<;>rfl
    have:¬ltP x m=true:=by rw[this];simp
    rw[BA] at this;omega
   exact⟨Uj.mp λlt=>far _ (sU.mpr (.inl ⟨lt,rfl⟩)),Uj.mp λlt=>far _ (sU.mpr (.inr ⟨lt,rfl⟩))⟩
inductive Tr where
 | byK (k:Nat)
 | cut (f:Nat) (a:Int) (l r:Tr)
noncomputable def trD:Tr->D
 | .byK k=>.tup [.str "by", .int k]
 | .cut f a l r=>.tup [.str "cut", .int f,.int a,trD l,trD r]
noncomputable def Tr.deep:Tr->Nat
 | .byK _=>0
 | .cut _ _ l r=>max l.deep r.deep+1
def GoodT(ws:List (List (Int×Int))):Tr->List (Int×Int)->Prop
 | .byK k,p=>∃w,ws[k]?=some w/\covB w p=true
 | .cut f a l r,p=>f < p.length/\(p.getD f (0,0)).1<=a/\a < (p.getD f (0,0)).2/\GoodT ws l (hv1 p f a)/\GoodT ws r (hv2 p f a)
def RightD(ws:List (List (Int×Int)))(p:List (Int×Int))(m:Nat)(d:D):Prop:=(∃l,firstL ws p=some l/\d=.tup [.str "out", letD l])\/∃t,firstL ws p=none/\GoodT ws t p/\t.deep<=m/\d=.tup [.str "in", trD t]
noncomputable def sizeP(p:List (Int×Int)):Nat:=(p.map λq=>(q.2 - q.1).toNat).sum
theorem Hj{f:Nat}{a:Int}(hf:f < p.length)(h1:(p.getD f (0,0)).1<=a)(h2:a < (p.getD f (0,0)).2):sizeP (hv1 p f a) < sizeP p/\sizeP (hv2 p f a) < sizeP p:=by
 have e:=wU hf;generalize p.getD f (0,0)=pr at *
 have s:sizeP p=sizeP (p.take f)+((pr.2 - pr.1).toNat+sizeP (p.drop (f+1))):=by
  conv=>lhs;rw[e]
  simp[sizeP]
 unfold hv1 hv2;rw[s]
 have e1:p.getD f (0,0)=pr:=by
  conv=>lhs;rw[e]
  rw[i_,Pt (by simp;omega)];simp[Nat.min_eq_left (Q9 hf)]
 rw[e1];simp[sizeP];omega
theorem Wf.cut{f:Nat}{a:Int}(hp:Wf n p)(hf:f < p.length)(h1:(p.getD f (0,0)).1<=a)(h2:a < (p.getD f (0,0)).2):Wf n (hv1 p f a)/\Wf n (hv2 p f a):=by
 have pr:PairOk (p.getD f (0,0)):=hp.all _ (K_ (xM hf));have:=pr.lo;have:=pr.hi;have:=hp.len;constructor
 ·refine⟨by simp[hv1];omega,λq hq=>?_⟩;unfold hv1 at hq;rw[D_,D_,n_] at hq
  rcases hq with(h | rfl) | h
  ·exact hp.all q (Ps h)
  ·exact⟨pr.lo,h1,by dsimp only;omega⟩
  ·exact hp.all q (RS h)
 ·refine⟨by simp[hv2];omega,λq hq=>?_⟩;unfold hv2 at hq;rw[D_,D_,n_] at hq
  rcases hq with(h | rfl) | h
  ·exact hp.all q (Ps h)
  ·exact⟨by dsimp only;omega,by dsimp only;omega,pr.hi⟩
  ·exact hp.all q (RS h)
theorem Wf.ok(hp:Wf n p):okB p=true:=u_.mpr λq hq=>by simpa using(hp.all q hq).le
theorem Kr{f:Nat}{a:Int}(hf:f < p.length)(h1:(p.getD f (0,0)).1<=a)(h2:a < (p.getD f (0,0)).2):∀l,l∈lettersR (hv1 p f a)\/l∈lettersR (hv2 p f a)->l∈lettersR p:=by
 intro l hl;have cut:=Bw (q:=p.drop (f+1)) h1 (Us h2);rw[show lettersR p=lettersR (p.take f++p.getD f (0,0)::p.drop (f+1)) by rw[←wU hf],vv,OY];rw[show p.getD f (0,0)=((p.getD f (0,0)).1,(p.getD f (0,0)).2) from rfl,cut]
 rcases hl with hl | hl
 ·unfold hv1 at hl;rw[P_,QA,vv,OY] at hl;obtain⟨x,hx,hl⟩:=hl;obtain⟨y,hy,rfl⟩:=z_.mp hl;exact⟨x,hx,z_.mpr ⟨y,O_ _ hy,rfl⟩⟩
 ·unfold hv2 at hl;rw[P_,QA,vv,OY] at hl;obtain⟨x,hx,hl⟩:=hl;obtain⟨y,hy,rfl⟩:=z_.mp hl;exact⟨x,hx,z_.mpr ⟨y,OH _ hy,rfl⟩⟩
noncomputable def wAt(ws:List (List (Int×Int)))(k:Nat):List (Int×Int):=ws.getD k []
theorem vw(h:k < ws.length):wAt ws k=ws[k]:=by
 unfold wAt;rw[i_,f_ h];rfl
theorem zk(h:k < ws.length):atI (ws.map wishD) (k:Int)=some (wishD (wAt ws k)):=by
 rw[DL.sE,vw h];simp[h]
theorem Cq(h:k < ws.length):wAt ws k∈ws:=by
 rw[vw h];exact Pg _
theorem B2{n:Nat}{ws:List (List (Int×Int))}(hw:∀w∈ws,Wf n w)(hl:ws.length<=100)(hn:n<=100):∀(m:Nat) (ks:List Nat) (p:List (Int×Int)),Wf n p->sizeP p < m->(∀k∈ks,k < ws.length)->ks.length<=100 →
  (∀k,k < ws.length->k∉ks->∀l∈lettersR p,hasB (wAt ws k) l=false)->∃d,cvF (tX m) [.lst (ws.map wishD),.lst (ks.map λk:Nat=>.int k),wishD p]=some d/\RightD ws p (sizeP p) d
 | 0,ks,p,hp,hs,_,_,_=>absurd hs (Tw _)
 | m+1,ks,p,hp,hs,hk,hkl,far=>by
  have ih:=B2 hw hl hn m;have cC:∀k,k < ws.length->(wAt ws k).length=p.length:=λk h=>by rw[(hw _ (Cq h)).len,hp.len]
  have nv:p.length<=100:=by rw[hp.len];exact hn
  have key:wpF (tX (m+1)) [.val (.lst (ws.map wishD)),.val (.lst (ks.map λk:Nat=>.int k)),.val (wishD p)] λr _=>∃d,r=.val d/\RightD ws p (sizeP p) d:=by
   rw[tX];refine sC rfl λKE hE _=>?_
   rw[xj];refine qR ?_;rintro K hK -;simp;refine sd ks (λk:Nat=>.int k) (λk=>okB (mixB (wAt ws k) p)) (λk:Nat=>.int k) ?_;simp;refine⟨by omega,λk iB=>?_,hK _ ?_⟩
   ·have e1:=zk (hk k iB);have e2:=KJ (cC k (hk k iB)) (by rw[cC k (hk k iB)];omega);simp[e1,e2];split<;>simp[isN,wishD, *]
   ·clear hK;obtain⟨aT,dP⟩:∃aT,aT=ks.filter λk=>okB (mixB (wAt ws k) p):=⟨_,rfl⟩
    rw[←dP];have bU:∀k,k∈aT↔k∈ks/\okB (mixB (wAt ws k) p)=true:=λk=>by rw[dP,A_]
    have fz:aT.length<=100:=by rw[dP];exact E_ (Qo _ _) hkl
    have fH:∀k,k < ws.length->k∉aT->∀l∈lettersR p,hasB (wAt ws k) l=false:=λk h1 h2=>by
     by_cases h3:k∈ks
     ·refine Ho (cC k h1) ?_;rw[bU] at h2;simpa[h3] using h2
     ·exact far k h1 h3
    clear dP;refine qR ?_;rintro K hK hR;simp;split
    ·-- nothing is aT
     rename_i h0;have h0:aT=[]:=by simpa using h0
     simp[wishD];refine sd p pairD (λ_=>true) (λq=>.int q.1) ?_;simp;refine⟨by omega,hR _ _ (hE _ _ ⟨_,rfl,_,rfl,.inl ⟨p.map (·.1),?_,?_⟩⟩)⟩
     ·obtain⟨t,e⟩:=Ba hp.ok;unfold firstL;rw[e,List.find?_cons_of_pos];unfold leftB;rw[u_];intro w jq;obtain⟨k,h1,rfl⟩:=QK jq;have:=fH k h1 (by rw[h0];simp) (p.map (·.1)) (by rw[e];exact j_);rw[vw h1] at this;simpa using this
     ·simp[letD,Vk]
    ·rename_i h0;refine hK _ ?_;have h0:aT≠[]:=by simpa using h0
     refine qR ?_;rintro K hK hR;simp;refine rO (J:=λi Y=>∃x4,(∀k∈aT.take i,covB (wAt ws k) p=false)/\Y=[some (.val (.lst (ws.map wishD))),some (.val (.lst (ks.map λk:Nat=>.int k))),some (.val (wishD p)),some (.val (.lst (aT.map λk:Nat=>.int k))),x4,none,none,none,none]) ⟨none,by simp,rfl⟩ ?_ ?_
     ·rintro i d Y hd ⟨x4,hc,rfl⟩ KL aH - - iz;rw[B_,G_] at hd;obtain⟨k,nw,rfl⟩:=hd;have jr:=(bU k).mp (K_ nw);have dj:=hk k jr.1;have e1:=zk dj;have e2:=CJ (cC k dj) (by rw[cC k dj];omega);have fU:aT.take (i+1)=aT.take i++[k]:=by rw[Qv,nw];rfl
      simp[e1,e2];split
      ·rename_i dz;have dz:covB (wAt ws k) p=true:=by simpa using dz
       refine iz _ _ (hR _ _ (hE _ _ ⟨_,rfl,_,rfl,.inr ⟨.byK k,?_,⟨wAt ws k,?_,dz⟩,O5 _,?_⟩⟩))
       ·unfold firstL;rw[SM];intro l pF;unfold leftB;intro all;have:=u_.mp all _ (Cq dj);rw[A3 (cC k dj) dz l pF] at this;cases this
       ·rw[vw dj,f_ dj]
       ·rw[trD]
      ·rename_i dz;refine aH _ ⟨_,λk' bp=>?_,rfl⟩;rw[fU] at bp
       rcases D_.mp bp with h | h
       ·exact hc k' h
       ·rw[n_.mp h];simpa using dz
     ·rintro Y ⟨x4,hc,rfl⟩;refine hK _ ?_;rw[w_,PP] at hc;obtain⟨fV,eM⟩:∃fV,fV=aT.map λk=>wAt ws k:=⟨_,rfl⟩
      have jt:∀w∈fV,∃k,k∈aT/\k < ws.length/\w=wAt ws k:=λw h=>by
       rw[eM,z_] at h;obtain⟨k,h1,rfl⟩:=h;exact⟨k,h1,hk k ((bU k).mp h1).1,rfl⟩
      obtain⟨bne,f,a,em,hf,h1,h2,pG⟩:=G4 (ws:=fV) (p:=p) (λw h=>by obtain⟨k,_,bp,rfl⟩:=jt w h;exact cC k bp) (by rw[eM];simpa using h0)
       (λw h=>by obtain⟨k,bp,_,rfl⟩:=jt w h;exact((bU k).mp bp).2) (λw h=>by obtain⟨k,bp,_,rfl⟩:=jt w h;exact hc k bp)
      have bo:=Hw (ws:=fV) (p:=p) (λw h=>by obtain⟨k,_,bp,rfl⟩:=jt w h;exact cC k bp) nv (by rw[eM];simpa using fz) bne;rw[em] at bo;have ha:=HI (p:=p) (a:=a) hf (by omega);obtain⟨w1,w2⟩:=hp.cut hf h1 h2;obtain⟨z1,z2⟩:=Hj hf h1 h2;have sub:=Kr hf h1 h2
      have first:firstL ws p=(firstL ws (hv1 p f a)).or (firstL ws (hv2 p f a)):=Lr hp.ok hf (λw h=>by rw[(hw w h).len,hp.len]) h1 (Us h2) λw h=>by
       obtain⟨k,dj,rfl⟩:=QK h;have eg:wAt ws k=ws[k]:=vw dj;by_cases jr:k∈aT
       ·exact .inr (pG _ (by rw[eM,z_];exact⟨k,jr,eg⟩))
       ·have:=fH k dj jr;rw[eg] at this;exact .inl this
      obtain⟨d1,e1,r1⟩:=ih aT (hv1 p f a) w1 (by omega) (λk h=>hk k ((bU k).mp h).1) fz λk h1 h2 l hl=>fH k h1 h2 l (sub l (.inl hl))
      obtain⟨d2,e2,r2⟩:=ih aT (hv2 p f a) w2 (by omega) (λk h=>hk k ((bU k).mp h).1) fz λk h1 h2 l hl=>fH k h1 h2 l (sub l (.inr hl))
      refine qR ?_;rintro K hK -;simp;refine sd aT (λk:Nat=>.int k) (λ_=>true) (λk:Nat=>wishD (wAt ws k)) ?_;simp;refine⟨by omega,λk iB=>?_,?_⟩
      ·have e1:=zk (hk k ((bU k).mp iB).1);simp[e1]
      ·have ew:(aT.map λk=>wishD (wAt ws k))=fV.map wishD:=by rw[eM];simp
       rw[ew];simp[bo];refine hK _ ?_;refine qR ?_;rintro K hK -;simp[ha];refine hK _ ?_;refine qR ?_;rintro K hK -;simp[e1];refine hK _ ?_
       rcases r1 with⟨l1,f1,rfl⟩ | ⟨t1,f1,g1,qG,rfl⟩
       ·refine qR ?_;rintro K hK fy;simp;exact fy _ _ (hE _ _ ⟨_,rfl,_,rfl,.inl ⟨l1,by rw[first,f1];rfl,rfl⟩⟩)
       ·refine qR ?_;rintro K hK -;simp;refine hK _ ?_;refine qR ?_;rintro K hK -;simp[e2];refine hK _ ?_
        rcases r2 with⟨l2,f2,rfl⟩ | ⟨t2,f2,g2,qH,rfl⟩
        ·refine qR ?_;rintro K hK fy;simp;exact fy _ _ (hE _ _ ⟨_,rfl,_,rfl,.inl ⟨l2,by rw[first,f1,f2];rfl,rfl⟩⟩)
        ·refine qR ?_;rintro K hK -;simp;refine hK _ ?_;simp;refine hE _ _ ⟨_,rfl,_,rfl,.inr ⟨.cut f a t1 t2,by rw[first,f1,f2];rfl,⟨hf,h1,h2,g1,g2⟩,?_,by rw[trD]⟩⟩;rw[Tr.deep];omega
  obtain⟨r,aL,e,d,rfl,hR⟩:=key;exact⟨d,by unfold cvF;simp only[map];rw[e],hR⟩
theorem E9(hw:∀w∈ws,Wf n w)(hl:ws.length<=100)(hn:n<=3)(hp:Wf n p):∃d,cvF t8 [.lst (ws.map wishD),wishD p]=some d/\RightD ws p 27 d:=by
 have sz:sizeP p<=27:=by
  unfold sizeP;refine E_ (Gd (m:=9) λx hx=>?_) ?_
  ·obtain⟨q,hq,rfl⟩:=z_.mp hx;have:=(hp.all q hq).lo;have:=(hp.all q hq).hi;omega
  ·rw[w_,hp.len];omega
 obtain⟨d,e,r⟩:=B2 hw hl (by omega) 40 (Pk ws.length) p hp (by omega) (λk h=>PF.mp h) (by simpa using hl) λk h1 h2=>absurd (PF.mpr h1) h2
 refine⟨d,?_,?_⟩
 ·refine rS rfl λKE k1 _=>?_
  rw[zW];refine qR ?_;rintro K hK -
  have kin:cvF rY [.lst (wishD p::ws.map wishD)]=some .non:=vd (n:=n) λd hd=>by
   rcases r_.mp hd with rfl | h
   ·exact⟨p.map pairD,rfl,by simp[hp.len]⟩
   ·obtain⟨w,jq,rfl⟩:=z_.mp h;exact⟨w.map pairD,rfl,by simp[(hw w jq).len]⟩
  simp[kin];refine⟨by omega,hK _ ?_⟩;have er:rngD 0 ws.length=(Pk ws.length).map λk:Nat=>D.int k:=by simp[rngD]
  simp[er,e];exact⟨by omega,k1 _ ⟨_,rfl⟩⟩
 ·rcases r with r | ⟨t,r1,r2,r3,r4⟩
  ·exact .inl r
  ·exact .inr ⟨t,r1,r2,by omega,r4⟩
theorem zV:dep (.lst (ws.map wishD))<=3:=by
 rw[dep]
 have:depA (ws.map wishD)<=2:=tx λd hd=>by
  obtain⟨w,_,rfl⟩:=z_.mp hd;exact vx
 omega
theorem Cz:∀(a b:List (Int×Int)),deqA (a.map pairD) (b.map pairD)=decide (a=b)
 | [],[]=>by simp[deqA]
 | [],q::b=>by simp[deqA]
 | p::a,[]=>by simp[deqA]
 | p::a,q::b=>by
  rw[F_,F_,deqA,Cz a b];simp[pairD,deq,deqA,Prod.ext_iff];by_cases h1:p.1=q.1<;>by_cases h2:p.2=q.2<;>by_cases h3:a=b<;>simp[h1,h2,h3]
theorem vb(a b:List (Int×Int)):deq (wishD a) (wishD b)=decide (a=b):=by
 unfold wishD;rw[deq];exact Cz a b
theorem Ai{a b:List (Int×Int)}(h:wishD a=wishD b):a=b:=by
 have:=vb a b;rw[h,DL.sg] at this;simpa using this.symm
theorem AI:∀(a b:List (Int×Int)),cmA (a.map pairD) (b.map pairD)=true
 | [],[]=>by simp[cmA]
 | [],q::b=>by simp[cmA]
 | p::a,[]=>by simp[cmA]
 | p::a,q::b=>by
  rw[F_,F_,cmA,AI a b];simp[pairD,cmB,cmA]
theorem DM(a b:List (Int×Int)):cmB (wishD a) (wishD b)=true:=by
 unfold wishD;rw[cmB];exact AI a b
theorem HE(ws:List (List (Int×Int))):cmAll (ws.map wishD)=true:=by
 unfold cmAll;rw[u_];intro a ha;rw[u_];intro b hb;obtain⟨x,_,rfl⟩:=z_.mp ha;obtain⟨y,_,rfl⟩:=z_.mp hb;exact DM x y
theorem DW:∀a:List (Int×Int),kyA (a.map pairD)=true
 | []=>by simp[kyA]
 | p::a=>by
  rw[F_,kyA,DW a];simp[pairD,kyB,kyA]
theorem zm{f:D->Bool}(h:∀w∈ws,f (wishD w)=true):(ws.map wishD).all f=true:=by
 rw[u_];intro d hd;obtain⟨w,hw,rfl⟩:=z_.mp hd;exact h w hw
theorem EY{w:List (Int×Int)}(hw:Wf n w)(h:1<=n):fstT (wishD w)=true:=by
 have:=hw.len;cases w with
 | nil=>simp at this;omega
 | cons p w=>rfl
theorem KN(ws:List (List (Int×Int))):depA (ws.map wishD)<=2:=tx λd hd=>by
 obtain⟨w,_,rfl⟩:=z_.mp hd;exact vx
theorem pull{ws:List (List (Int×Int))}:∀(l:List D),(∀d∈l,∃w∈ws,d=wishD w)->∃us:List (List (Int×Int)),l=us.map wishD/\∀u∈us,u∈ws
 | [],_=>⟨[],rfl,λu hu=>by cases hu⟩
 | d::l,h=>by
  obtain⟨us,e,m⟩:=pull l λd hd=>h d (h_ _ hd)
  obtain⟨w,hw,rfl⟩:=h d j_;refine⟨w::us,by rw[e];rfl,λu hu=>?_⟩
  rcases r_.mp hu with rfl | hu
  ·exact hw
  ·exact m u hu
theorem zp{us:List (List (Int×Int))}{w:List (Int×Int)}:wishD w∈us.map wishD↔w∈us:=by
 rw[z_];constructor
 ·rintro⟨u,hu,e⟩;rw[←Ai e];exact hu
 ·exact λh=>⟨w,h,rfl⟩
theorem Fh{us:List (List (Int×Int))}(h:(us.map wishD).Nodup):us.Nodup:=by
 induction us with
 | nil=>exact R4
 | cons u us ih =>
  rw[F_,Pc] at h;rw[Pc];exact⟨λm=>h.1 (zp.mpr m),ih h.2⟩
theorem CL(ws:List (List (Int×Int))):∃us:List (List (Int×Int)),sortD (dd (ws.map wishD))=us.map wishD/\(∀u,u∈us↔u∈ws)/\us.Nodup/\us.length<=ws.length:=by
 have p:=uJ (dd (ws.map wishD))
 obtain⟨us,e,m⟩:=pull (ws:=ws) (sortD (dd (ws.map wishD))) λd hd=>by
  obtain⟨w,hw,rfl⟩:=z_.mp (vp (p.mem_iff.mp hd));exact⟨w,hw,rfl⟩
 refine⟨us,e,λu=>⟨m u,λhu=>?_⟩,Fh ?_,?_⟩
 ·have h1:=Mo (ws.map wishD) (wishD u) (zp.mpr hu);obtain⟨d,hd,q⟩:=O'.mp h1;obtain⟨w,hw,rfl⟩:=z_.mp (vp hd);rw[vb] at q;simp at q;subst q;have:=p.mem_iff.mpr hd;rw[e] at this;exact zp.mp this
 ·rw[←e];exact p.nodup_iff.mpr (Dw _)
 ·have h1:=p.length_eq;have h2:=B8 (ws.map wishD);rw[e] at h1;simp at h1 h2;omega
theorem Jk(aB:∀w∈ws,Wf n w)(h:(dd (ws.map wishD)).length<=18):SetOk (ws.map wishD):=by
 refine⟨HE ws,zm λw _=>?_,zm λw _=>rfl,E_ (KN ws) (by omega),h⟩;unfold wishD;rw[kyB];exact DW w
theorem GA(aB:∀w∈ws,Wf n w)(hn:1<=n)(h:(dd (ws.map wishD)).length<=18):setF [.lst (ws.map wishD)]=some (sortD (dd (ws.map wishD))):=
 Eu (Jk aB h) (.inr (zm λw hw=>EY (aB w hw) hn))
theorem La{bs:List (List (Int×Int))}(h1:(as.map wishD).Pairwise λa b=>leD a b=true)(h2:(bs.map wishD).Pairwise λa b=>leD a b=true)(n1:as.Nodup)(n2:bs.Nodup)(m:∀w,w∈as↔w∈bs):as=bs:=by
 have len:bs.length<=as.length:=by
  have:=uz bs as n2 (λw hw=>(m w).mpr hw);exact this
 have p:as.Perm bs:=wR as bs n1 (λw hw=>(m w).mp hw) len
 have e:as.map wishD=bs.map wishD:=u3 _ _ (p.map _) h1 h2 λa ha b hb l1 l2=>by
  obtain⟨x,_,rfl⟩:=z_.mp ha;obtain⟨y,_,rfl⟩:=z_.mp hb;have c:=DM x y;refine uM _ _ c ?_;rw[uf _ _ c];unfold leD at l1 l2;rw[l1,l2];rfl
 have:∀(as bs:List (List (Int×Int))),as.map wishD=bs.map wishD->as=bs:=by
  intro as
  induction as with
  | nil=>intro bs e;cases bs with
   | nil=>rfl
   | cons b bs=>simp at e
  | cons a as ih =>
   intro bs e;cases bs with
   | nil=>simp at e
   | cons b bs =>
    rw[F_,F_] at e;injection e with e1 e2
    rw[Ai e1,ih bs e2]
 exact this as bs e
noncomputable def undB(us:List (List (Int×Int)))(w:List (Int×Int)):Bool:=us.any λone=>!decide (one=w)&&covB one w
theorem IH{us:List (List (Int×Int))}{w:List (Int×Int)}(iC:∀u∈us,Wf n u)(hw:Wf n w)(hn:n<=3)(hl:us.length<=1000000):cvF vV [.lst (us.map wishD),wishD w]=some (.bl (undB us w)):=by
 refine rS rfl λK k1 _=>?_
 rw[xx];simp;refine sd us wishD (λ_=>true) (λone=>.bl (!decide (one=w)&&covB one w)) ?_;simp[vb];refine⟨hl,λone ho=>⟨.inl (by have:=vx (w:=one);omega),?_⟩,?_⟩
 ·have:=CJ (a:=one) (b:=w) (by rw[(iC one ho).len,hw.len]) (by rw[(iC one ho).len];omega);simp[this];split<;>simp_all
 ·rw[FI];simp;exact k1 _ ⟨_,rfl⟩
theorem LA{us:List (List (Int×Int))}(aB:∀u∈ws,Wf n u)(h1:1<=n)(hn:n<=3)(hl:ws.length<=1000000)(kR:(dd (ws.map wishD)).length<=18)(e:sortD (dd (ws.map wishD))=us.map wishD)(m:∀u,u∈us↔u∈ws)(ul:us.length<=ws.length):
  coF ud [.lst (ws.map wishD)]=some ((us.filter λw=>!undB us w).map wishD):=by
 refine tG rfl λKE k1=>?_
 rw[yk];refine qR ?_;rintro K hK -
 have kin:cvF rY [.lst (ws.map wishD)]=some .non:=vd (n:=n) λd hd=>by
  obtain⟨w,hw,rfl⟩:=z_.mp hd;exact⟨w.map pairD,rfl,by rw[w_,(aB w hw).len]⟩
 simp[kin];refine hK _ ?_;refine qR ?_;rintro K hK -;simp[GA aB h1 kR,e];refine hK _ ?_;simp;refine sd us wishD (λw=>!undB us w) wishD ?_;simp;refine⟨by omega,λw hw=>?_,k1 _ ⟨_,rfl⟩⟩;have iC:∀u∈us,Wf n u:=λu hu=>aB u ((m u).mp hu)
 simp[IH iC (iC w hw) hn (by omega)]
theorem yD{us:List (List (Int×Int))}(m:∀u,u∈us↔u∈ws)(w:List (Int×Int)):undB us w=undB ws w:=by
 unfold undB;rw[Q0,O',O'];exact⟨λ⟨u,h,q⟩=>⟨u,(m u).mp h,q⟩,λ⟨u,h,q⟩=>⟨u,(m u).mpr h,q⟩⟩
theorem uF{p q:Int×Int}{a b:List (Int×Int)}:covB (p::a) (q::b)=true↔(p.1<=q.1/\q.2<=p.2)/\covB a b=true:=by
 unfold covB;rw[Qc,Qh];simp
theorem zD:∀a:List (Int×Int),covB a a=true
 | []=>rfl
 | p::a=>uF.mpr ⟨⟨TK _,TK _⟩,zD a⟩
theorem xc:∀{a b c:List (Int×Int)},a.length=b.length->b.length=c.length->covB a b=true->covB b c=true->covB a c=true
 | [],[],[],_,_,_,_=>rfl
 | p::a,q::b,r::c,h1,h2,x,y=>by
  rw[uF] at x y ⊢;exact⟨⟨S8 x.1.1 y.1.1,S8 y.1.2 x.1.2⟩,xc (by simpa using h1) (by simpa using h2) x.2 y.2⟩
theorem z5:∀{a b:List (Int×Int)},a.length=b.length->covB a b=true->covB b a=true->a=b
 | [],[],_,_,_=>rfl
 | p::a,q::b,h,x,y=>by
  rw[uF] at x y;rw[z5 (by simpa using h) x.2 y.2,U4 (Int.le_antisymm x.1.1 y.1.1) (Int.le_antisymm y.1.2 x.1.2)]
noncomputable def wd(w:List (Int×Int)):Nat:=(w.map λp=>(p.2 - p.1).toNat).sum
theorem DU:∀{a b:List (Int×Int)},a.length=b.length->(∀p∈b,p.1<=p.2)->covB a b=true->wd b<=wd a/\(wd b=wd a->a=b)
 | [],[],_,_,_=>⟨v_ _,λ_=>rfl⟩
 | p::a,q::b,h,ok,x=>by
  rw[uF] at x;obtain⟨h1,h2⟩:=DU (by simpa using h) (λp hp=>ok p (h_ _ hp)) x.2;have:=ok q j_;unfold wd at *;simp only[F_,sum_cons];refine⟨by omega,λe=>?_⟩;rw[h2 (by omega)];have e1:p.1=q.1:=by omega
  have e2:p.2=q.2:=by omega
  rw[U4 e1 e2]
theorem LS:∀{n:Nat}{w:List (Int×Int)},Wf n w->wd w<=9*n
 | n,w,h=>by
  have:=h.len
  have key:∀w:List (Int×Int),(∀p∈w,PairOk p)->wd w<=9*w.length:=by
   intro w
   induction w with
   | nil=>exact λ_=>v_ _
   | cons p w ih =>
    intro h;have h1:=ih λq hq=>h q (h_ _ hq)
    have h2:=h p j_;have:=h2.lo;have:=h2.hi;unfold wd at *;simp only[F_,sum_cons,OQ];omega
  have:=key w h.all;omega
theorem Wf.le2{w:List (Int×Int)}(h:Wf n w):∀p∈w,p.1<=p.2:=λp hp=>(h.all p hp).le
theorem tN{w:List (Int×Int)}:undB ws w=true↔∃u∈ws,u≠w/\covB u w=true:=by
 unfold undB;rw[O'];simp
theorem BO{n:Nat}{ws:List (List (Int×Int))}(aB:∀u∈ws,Wf n u):∀(k:Nat) (w:List (Int×Int)),w∈ws->9*n - wd w<=k->∃u∈ws,undB ws u=false/\covB u w=true
 | k,w,hw,hk=>by
  by_cases c:undB ws w=false
  ·exact⟨w,hw,c,zD w⟩
  ·have c:undB ws w=true:=by simpa using c
   obtain⟨u,hu,ne,cv⟩:=tN.mp c;have lu:=(aB u hu).len;have lw:=(aB w hw).len;obtain⟨d1,d2⟩:=DU (by rw[lu,lw]) (aB w hw).le2 cv
   have lt:wd w < wd u:=by
    rcases RL (wd w) (wd u) with z | z
    ·exact z
    ·exact absurd (d2 (Nat.le_antisymm d1 z)) ne
   have:=LS (aB u hu)
   match k with
   | 0=>omega
   | k+1 =>
    obtain⟨m,hm,h1,h2⟩:=BO aB k u hu (by omega);have lm:=(aB m hm).len;exact⟨m,hm,h1,xc (by rw[lm,lu]) (by rw[lu,lw]) h2 cv⟩
structure IsRoof(ws R:List (List (Int×Int))):Prop where
 up:(R.map wishD).Pairwise λa b=>leD a b=true
 nd:R.Nodup
 mem:∀w,w∈R↔w∈ws/\undB ws w=false
theorem IsRoof.alone{R S:List (List (Int×Int))}(a:IsRoof ws R)(b:IsRoof ws S):R=S:=La a.up b.up a.nd b.nd λw=>(a.mem w).trans (b.mem w).symm
theorem IsRoof.congr{vs R:List (List (Int×Int))}(a:IsRoof ws R)(m:∀u,u∈vs↔u∈ws):IsRoof vs R:=⟨a.up,a.nd,λw=>by rw[a.mem,m,yD m]⟩
theorem zF(ws:List (List (Int×Int))):∃R,IsRoof ws R/\R.length<=ws.length:=by
 obtain⟨us,eu,mu,nu,ul⟩:=CL ws;have iD:=uV (dd (ws.map wishD));rw[eu] at iD;refine⟨us.filter λw=>!undB us w,⟨iD.sublist (Sl.map _),nu.filter _,λw=>?_⟩,E_ (Qo _ _) ul⟩;rw[A_,mu,yD mu];simp
theorem zt{R:List (List (Int×Int))}(aB:∀u∈ws,Wf n u)(h1:1<=n)(hn:n<=3)(hl:ws.length<=18)(a:IsRoof ws R):coF ud [.lst (ws.map wishD)]=some (R.map wishD):=by
 obtain⟨us,eu,mu,nu,ul⟩:=CL ws;have iD:=uV (dd (ws.map wishD));rw[eu] at iD
 have kR:(dd (ws.map wishD)).length<=18:=by
  have:=B8 (ws.map wishD);simp at this;omega
 rw[LA aB h1 hn (by omega) kR eu mu ul]
 have:IsRoof ws (us.filter λw=>!undB us w):=⟨iD.sublist (Sl.map _),nu.filter _,λw=>by
  rw[A_,mu,yD mu]
  simp⟩
 rw[this.alone a]
theorem IsRoof.over{R:List (List (Int×Int))}(a:IsRoof ws R)(aB:∀u∈ws,Wf n u){w:List (Int×Int)}(hw:w∈ws):∃u∈R,covB u w=true:=by
 obtain⟨u,h1,h2,h3⟩:=BO aB _ w hw (v_ _);exact⟨u,(a.mem u).mpr ⟨h1,h2⟩,h3⟩
theorem IsRoof.sub{R:List (List (Int×Int))}(a:IsRoof ws R){w:List (Int×Int)}(h:w∈R):w∈ws:=((a.mem w).mp h).1
theorem IsRoof.und{R:List (List (Int×Int))}(a:IsRoof ws R)(aB:∀u∈ws,Wf n u){w:List (Int×Int)}(hw:Wf n w):undB R w=undB ws w:=by
 rw[Q0,tN,tN];constructor
 ·rintro⟨u,h1,h2⟩;exact⟨u,a.sub h1,h2⟩
 ·rintro⟨u,h1,h2,h3⟩;obtain⟨m,h4,h5⟩:=a.over aB h1;have lu:=(aB u h1).len;have lm:=(aB m (a.sub h4)).len;have lw:=hw.len;refine⟨m,h4,λe=>?_,xc (by rw[lm,lu]) (by rw[lu,lw]) h5 h3⟩;subst e;exact h2 (z5 (by rw[lu,lm]) h3 h5)
theorem IsRoof.self{R:List (List (Int×Int))}(a:IsRoof ws R)(aB:∀u∈ws,Wf n u):IsRoof R R:=⟨a.up,a.nd,λw=>by
 constructor
 ·intro h;refine⟨h,?_⟩;rw[a.und aB (aB w (a.sub h))];exact((a.mem w).mp h).2
 ·exact λh=>h.1⟩
theorem uX{vs:List (List (Int×Int))}{w:List (Int×Int)}:undB (ws++vs) w=(undB ws w||undB vs w):=by
 unfold undB;rw[Vl]
theorem IsRoof.cat{vs R S:List (List (Int×Int))}(a:IsRoof ws R)(b:IsRoof vs S)(aB:∀u∈ws,Wf n u)(eN:∀u∈vs,Wf n u)(c:IsRoof (ws++vs) T):IsRoof (R++S) T:=⟨c.up,c.nd,λw=>by
 rw[c.mem];constructor
 ·rintro⟨h1,h2⟩
  have hw:Wf n w:=by
   rcases D_.mp h1 with z | z
   ·exact aB w z
   ·exact eN w z
  have h3:=h2;rw[uX] at h3;simp at h3;refine⟨?_,?_⟩
  ·rcases D_.mp h1 with z | z
   ·exact D_.mpr (.inl ((a.mem w).mpr ⟨z,h3.1⟩))
   ·exact D_.mpr (.inr ((b.mem w).mpr ⟨z,h3.2⟩))
  ·rw[uX,a.und aB hw,b.und eN hw,←uX];exact h2
 ·rintro⟨h1,h2⟩
  have h4:w∈ws++vs:=by
   rcases D_.mp h1 with z | z
   ·exact D_.mpr (.inl (a.sub z))
   ·exact D_.mpr (.inr (b.sub z))
  have hw:Wf n w:=by
   rcases D_.mp h4 with z | z
   ·exact aB w z
   ·exact eN w z
  refine⟨h4,?_⟩;rw[uX,a.und aB hw,b.und eN hw,←uX] at h2
  exact h2⟩
theorem D':∀{a b:List (Int×Int)}{l:List Int},a.length=b.length->covB a b=true->hasB b l=true->hasB a l=true
 | [],[],l,_,_,h=>by simpa[hasB] using h
 | p::a,q::b,[],_,_,h=>by simp[hasB]
 | p::a,q::b,n::l,e,c,h=>by
  rw[uF] at c;unfold hasB at h ⊢;rw[Qc,Qh,OP] at h ⊢;have h1:=D' (l:=l) (by simpa using e) c.2 (by unfold hasB;exact h.2);unfold hasB at h1;refine⟨?_,h1⟩;have h2:=h.1;simp at h2 ⊢;omega
theorem Co:leftB ws l=true↔∀w∈ws,hasB w l=false:=by
 unfold leftB;rw[u_];simp
def AllIn(ws:List (List (Int×Int)))(p:List (Int×Int)):Prop:=∀l∈lettersR p,∃w∈ws,hasB w l=true
theorem K0:firstL ws p=none↔AllIn ws p:=by
 unfold firstL AllIn;rw[SM];constructor
 ·intro h l hl;have:=h l hl;rw[Co] at this;simp at this;obtain⟨w,h1,h2⟩:=this;exact⟨w,h1,h2⟩
 ·rintro h l hl z;obtain⟨w,h1,h2⟩:=h l hl;rw[Co] at z;rw[z w h1] at h2;cases h2
noncomputable def inB1(ws:List (List (Int×Int)))(p:List (Int×Int)):Bool:=(firstL ws p).isNone
theorem wn:inB1 ws p=true↔AllIn ws p:=by
 unfold inB1;rw[Option.isNone_iff_eq_none,K0]
theorem AllIn.mono{vs:List (List (Int×Int))}(h:AllIn ws p)(s:∀w∈ws,w∈vs):AllIn vs p:=λl hl=>by
 obtain⟨w,h1,h2⟩:=h l hl;exact⟨w,s w h1,h2⟩
noncomputable def butW(stay:List (List (Int×Int)))(w:List (Int×Int)):List (List (Int×Int)):=stay.filter λu=>!decide (u=w)
theorem uG{stay:List (List (Int×Int))}{w u:List (Int×Int)}:u∈butW stay w↔u∈stay/\u≠w:=by
 unfold butW;rw[A_];simp
noncomputable def spStep(stay:List (List (Int×Int)))(w:List (Int×Int)):List (List (Int×Int)):=if inB1 (butW stay w) w=true then butW stay w else stay
noncomputable def spareL(R:List (List (Int×Int))):List (List (Int×Int)):=R.foldl spStep R
theorem zu(stay:List (List (Int×Int)))(w:List (Int×Int)):(spStep stay w).Sublist stay:=by
 unfold spStep butW;split
 ·exact Sl
 ·exact Rt _
theorem uH:∀(ps stay:List (List (Int×Int))),(ps.foldl spStep stay).Sublist stay
 | [],stay=>Rt _
 | p::ps,stay=>(uH ps _).trans (zu stay p)
theorem Ev{stay:List (List (Int×Int))}{w:List (Int×Int)}(hw:Wf n w)(hl:l.length=n)(h:∃u∈stay,hasB u l=true):∃u∈spStep stay w,hasB u l=true:=by
 unfold spStep;split
 ·rename_i c;obtain⟨u,h1,h2⟩:=h;by_cases e:u=w
  ·subst e;exact wn.mp c l (v8.mpr ⟨by rw[hl,hw.len],h2⟩)
  ·exact⟨u,uG.mpr ⟨h1,e⟩,h2⟩
 ·exact h
theorem CW{n:Nat}{l:List Int}(hl:l.length=n):∀(ps stay:List (List (Int×Int))),(∀p∈ps,Wf n p)->(∃u∈stay,hasB u l=true)->∃u∈ps.foldl spStep stay,hasB u l=true
 | [],stay,_,h=>h
 | p::ps,stay,hp,h=>CW hl ps _ (λq hq=>hp q (h_ _ hq)) (Ev (hp p j_) hl h)
theorem Ct:∀(ps stay done:List (List (Int×Int))),(∀w∈stay,w∈done->inB1 (butW stay w) w=false)->∀w∈ps.foldl spStep stay,w∈done\/w∈ps->inB1 (butW (ps.foldl spStep stay) w) w=false
 | [],stay,done,h,w,hw,hd=>by
  rcases hd with hd | hd
  ·exact h w hw hd
  ·cases hd
 | p::ps,stay,done,h,w,hw,hd=>by
  have mono:∀(a b:List (List (Int×Int))) (w:List (Int×Int)),(∀u∈a,u∈b)->inB1 (butW b w) w=false->inB1 (butW a w) w=false:=λa b w s hb=>by
   rw[Sz] at hb ⊢;exact λz=>hb (wn.mpr ((wn.mp z).mono λu hu=>uG.mpr ⟨s u (uG.mp hu).1,(uG.mp hu).2⟩))
  refine Ct ps (spStep stay p) (p::done) (λw hw hd=>?_) w hw ?_
  ·have ws:=(zu stay p).subset hw;by_cases e:w=p
   ·subst e;unfold spStep at hw ⊢;split at hw
    ·exact absurd rfl (uG.mp hw).2
    ·rename_i c;rw[if_neg c];simpa using c
   ·rcases r_.mp hd with hd | hd
    ·exact absurd hd e
    ·exact mono _ _ w (λu hu=>(zu stay p).subset hu) (h w ws hd)
  ·rcases hd with hd | hd
   ·exact .inl (h_ _ hd)
   ·rcases r_.mp hd with rfl | hd
    ·exact .inl j_
    ·exact .inr hd
theorem EE(R:List (List (Int×Int))):∀w∈spareL R,inB1 (butW (spareL R) w) w=false:=λw hw =>
 Ct R R [] (λ_ _ h=>by cases h) w hw (.inr ((uH R R).subset hw))
theorem CO:∀(ps K:List (List (Int×Int))),(∀w∈ps,inB1 (butW K w) w=false)->ps.foldl spStep K=K
 | [],K,_=>rfl
 | p::ps,K,h=>by
  have e:spStep K p=K:=by
   unfold spStep;rw[if_neg (by rw[h p j_];exact k_)]
  rw[Uh,e];exact CO ps K λw hw=>h w (h_ _ hw)
theorem G8(R:List (List (Int×Int))):spareL (spareL R)=spareL R:=CO _ _ (EE R)
theorem IsRoof.part{R K:List (List (Int×Int))}(a:IsRoof ws R)(s:K.Sublist R):IsRoof K K:=⟨a.up.sublist (s.map _),a.nd.sublist s,λw=>by
 constructor
 ·intro h;refine⟨h,?_⟩;rw[Sz];intro z;obtain⟨u,h1,h2,h3⟩:=tN.mp z;have:=((a.mem w).mp (s.subset h)).2;rw[tN.mpr ⟨u,a.sub (s.subset h1),h2,h3⟩] at this;cases this
 ·exact λh=>h.1⟩
theorem IsRoof.one(w:List (Int×Int)):IsRoof [w] [w]:=⟨List.pairwise_singleton _ _,by simp,λu=>by
 rw[n_];constructor
 ·rintro rfl;refine⟨rfl,?_⟩;simp[undB]
 ·exact λh=>h.1⟩
theorem AB{l:D}{x:D}:ixF (.tup [x,l]) (.int 0)=some x:=rfl
theorem DS(hw:∀w∈ws,Wf n w)(hl:ws.length<=100)(hn:n<=3)(hp:Wf n p):∃x,cvF t8 [.lst (ws.map wishD),wishD p]=some (.tup [.str (if inB1 ws p=true then "in" else "out"),x]):=by
 obtain⟨d,e,r⟩:=E9 hw hl hn hp
 rcases r with⟨l,h1,rfl⟩ | ⟨t,h1,_,_,rfl⟩
 ·refine⟨letD l,?_⟩;rw[if_neg (by unfold inB1;rw[h1];simp)];exact e
 ·refine⟨trD t,?_⟩;rw[if_pos (by unfold inB1;rw[h1];rfl)];exact e
theorem Km:noLA (ws.map wishD)=true:=by
 have pr:∀w:List (Int×Int),noLA (w.map pairD)=true:=λw=>by
  induction w with
  | nil=>simp[noLA]
  | cons p w ih =>
   rw[F_,noLA,ih];simp[pairD,noL,noLA]
 induction ws with
 | nil=>simp[noLA]
 | cons w ws ih =>
  rw[F_,noLA,ih];simp[wishD,noL,pr]
theorem DF(aB:∀u∈ws,Wf n u)(h1:1<=n)(hn:n<=3)(hl:ws.length<=18)(a:IsRoof ws T)(lT:T.length<=ws.length){KE:Fl->Gm->Prop}(k1:∀af,(∃l,fin (map R.val [.lst (ws.map wishD)]) af=some l)->KE (.rt (.fro ((spareL T).map wishD))) af):wp wP [some (.val (.lst (ws.map wishD))),none,none,none,none] KE:=by
 have e1:=zt aB h1 hn hl a;rw[wP];refine qR ?_;rintro K hK -;simp[e1];refine hK _ ?_;refine qR ?_;rintro K hK -;refine⟨_,_,rfl,hK _ ?_⟩;show wp _ [some (.val (.lst (ws.map wishD))),some (.fro (T.map wishD)),some (.fro (T.map wishD)),none,none] _;refine qR ?_;rintro K hK -;simp;refine rO (J:=λi Y=>∃x3 x4,Y=[some (.val (.lst (ws.map wishD))),some (.fro (T.map wishD)),some (.fro (((T.take i).foldl spStep T).map wishD)),x3,x4]) ⟨_,_,rfl⟩ ?_ ?_
 ·rintro i d Y hd ⟨x3,x4,rfl⟩ KL aH - - -;rw[B_,G_] at hd;obtain⟨w,hw,rfl⟩:=hd;have pH:=aB w (a.sub (K_ hw));have tk:T.take (i+1)=T.take i++[w]:=by rw[Qv,hw];rfl
  rw[tk,Sy] at aH;simp only[Uh,List.foldl_nil] at aH;have sb:=uH (T.take i) T;generalize (T.take i).foldl spStep T=stay at *;have sl:=sb.length_le;have gf:∀u∈stay,Wf n u:=λu hu=>aB u (a.sub (sb.subset hu))
  have bl:(butW stay w).length<=100:=E_ (Qo _ _) (by omega);obtain⟨x,e2⟩:=DS (ws:=butW stay w) (λu hu=>gf u (uG.mp hu).1) bl hn pH;simp;refine qR ?_;rintro K hK -;simp;refine sd stay wishD (λu=>!decide (u=w)) wishD ?_;simp[vb];refine⟨by omega,λu hu=>.inl (by have:=vx (w:=u);omega),hK _ ?_⟩
  change wp _ [_,_,_,_,some (.fro ((butW stay w).map wishD))] _
  simp[e2,AB];by_cases c:inB1 (butW stay w) w=true
  ·rw[show spStep stay w=butW stay w from if_pos c] at aH;simp[c,deq,dep];exact aH _ ⟨_,_,rfl⟩
  ·rw[show spStep stay w=stay from if_neg c] at aH;simp[c,deq,dep];exact aH _ ⟨_,_,rfl⟩
 ·rintro Y ⟨x3,x4,rfl⟩;refine hK _ ?_;rw[w_,PP];simp;exact k1 _ ⟨_,rfl⟩
theorem Ji(aB:∀u∈ws,Wf n u)(h1:1<=n)(hn:n<=3)(hl:ws.length<=18)(a:IsRoof ws T)(lT:T.length<=ws.length):coF tL [.lst (ws.map wishD)]=some ((spareL T).map wishD):=
 JG rfl Km λKE k1=>DF aB h1 hn hl a lT k1
theorem GJ(aB:∀u∈ws,Wf n u)(h1:1<=n)(hn:n<=3)(hl:ws.length<=18)(a:IsRoof ws T)(lT:T.length<=ws.length):cvF tL [.lst (ws.map wishD)]=some (.lst ((spareL T).map wishD)):=by
 have w:wpF tL ([D.lst (ws.map wishD)].map .val) λr _=>r=.fro ((spareL T).map wishD):=sC rfl λK k1 _=>DF aB h1 hn hl a lT λaf ⟨l,e⟩=>k1 _ _ ⟨l,e,rfl⟩
 obtain⟨r,aL,e,rfl⟩:=w;unfold cvF;rw[e]
def Adj(rs:List (Int×Int))(a b:Int):Prop:=(a,b)∈rs\/(b,a)∈rs
theorem Adj.symm{a b:Int}(h:Adj rs a b):Adj rs b a:=h.elim .inr .inl
structure Web(n:Nat)(rs:List (Int×Int))(rk:Int->Nat):Prop where
 n1:1<=n
 n8:n<=8
 lt:∀r∈rs,0<=r.1/\r.1 < r.2/\r.2 < n
 nd:rs.Nodup
 ne:∀a b,Adj rs a b->rk a≠rk b
 rk8:∀a b,Adj rs a b->rk a < 8
 one:∀v a b,Adj rs v a->Adj rs v b->rk a < rk v->rk b < rk v->a=b
def Par(rs:List (Int×Int))(rk:Int->Nat)(v p:Int):Prop:=Adj rs v p/\rk p < rk v
inductive Desc(rs:List (Int×Int))(rk:Int->Nat)(x:Int):Int->Prop where
 | refl:Desc rs rk x x
 | up {v p:Int} (a:Par rs rk v p) (d:Desc rs rk x p):Desc rs rk x v
noncomputable def Wl(N:Int->List Int):Nat->Option Int->Int->List Int
 | 0,_,h=>[h]
 | k+1,c,h=>h::((N h).filter λu=>decide (some u≠c)).flatMap (Wl N k (some h))
theorem t7:h∈Wl N k c h:=by
 cases k<;>exact j_
theorem sR{v:Int}:v∈Wl N (k+1) c h↔v=h\/∃u,u∈N h/\some u≠c/\v∈Wl N k (some h) u:=by
 rw[Wl,r_,OY];simp only[A_,decide_eq_true_eq,and_assoc]
section
variable{rk:Int->Nat}
theorem Desc.rk_le{x v:Int}(h:Desc rs rk x v):rk x<=rk v:=by
 induction h with
 | refl=>exact v_ _
 | up a _ ih=>exact E_ ih (Q9 a.2)
theorem Desc.trans{x y v:Int}(h1:Desc rs rk x y)(h2:Desc rs rk y v):Desc rs rk x v:=by
 induction h2 with
 | refl=>exact h1
 | up a _ ih=>exact .up a ih
theorem Web.chain(W:Web n rs rk){a b v:Int}(h1:Desc rs rk a v)(h2:Desc rs rk b v):Desc rs rk a b\/Desc rs rk b a:=by
 induction h1 with
 | refl=>exact .inr h2
 | @up v p q d ih =>
  cases h2 with
  | refl=>exact .inl (.up q d)
  | @up _ p' q' d' =>
   have:=W.one v p p' q.1 q'.1 q.2 q'.2;subst this;exact ih d'
theorem Web.sib0(W:Web n rs rk){a b:Int}(pa:Par rs rk a h)(pb:Par rs rk b h)(d:Desc rs rk a b):a=b:=by
 cases d with
 | refl=>rfl
 | @up _ p q d' =>
  have:=W.one b p h q.1 pb.1 q.2 pb.2;subst this;have:=d'.rk_le;have:=pa.2;omega
theorem Web.sib(W:Web n rs rk){a b v:Int}(pa:Par rs rk a h)(pb:Par rs rk b h)(h1:Desc rs rk a v)(h2:Desc rs rk b v):a=b:=by
 rcases W.chain h1 h2 with d | d
 ·exact W.sib0 pa pb d
 ·exact(W.sib0 pb pa d).symm
def Side(rs:List (Int×Int))(rk:Int->Nat)(c h v:Int):Prop:=(rk c < rk h/\Desc rs rk h v)\/(rk h < rk c/\¬Desc rs rk c v)
theorem Web.side(W:Web n rs rk)(hN:∀v u,u∈N v↔Adj rs v u):∀(k:Nat) (c h:Int),Adj rs c h->∀v∈Wl N k (some c) h,Side rs rk c h v:=by
 have base:∀c h,Adj rs c h->Side rs rk c h h:=λc h a=>by
  have:=W.ne c h a;by_cases l:rk c < rk h
  ·exact .inl ⟨l,.refl⟩
  ·exact .inr ⟨by omega,λd=>by have:=d.rk_le;omega⟩
 intro k
 induction k with
 | zero=>intro c h a v hv;rw[Wl,n_] at hv;subst hv;exact base c v a
 | succ k ih =>
  intro c h a v hv
  rcases sR.mp hv with rfl | ⟨u,hu,hc,hv⟩
  ·exact base c v a
  ·have au:=(hN h u).mp hu;have hc:u≠c:=λz=>hc (by rw[z])
   have s:=ih h u au v hv;have n1:=W.ne c h a;have n2:=W.ne h u au;by_cases l:rk c < rk h
   ·rcases s with⟨s1,s2⟩ | ⟨s1,_⟩
    ·exact .inl ⟨l,.trans (.up ⟨au.symm,s1⟩ .refl) s2⟩
    ·exact absurd (W.one h u c au a.symm s1 l) hc
   ·have l:rk h < rk c:=by omega
    have pc:Par rs rk c h:=⟨a,l⟩;refine .inr ⟨l,λd=>?_⟩
    rcases s with⟨s1,s2⟩ | ⟨s1,s2⟩
    ·exact hc (W.sib (h:=h) ⟨au.symm,s1⟩ pc s2 d)
    ·exact s2 (.trans (.up pc .refl) d)
theorem Web.back(W:Web n rs rk)(hN:∀v u,u∈N v↔Adj rs v u){c:Int}(a:Adj rs c h):c∉Wl N k (some c) h:=λm=>by
 rcases W.side hN k c h a c m with⟨s1,s2⟩ | ⟨_,s2⟩
 ·have:=s2.rk_le;omega
 ·exact s2 .refl
theorem Web.apart(W:Web n rs rk)(hN:∀v u,u∈N v↔Adj rs v u){a b v:Int}(ha:Adj rs h a)(hb:Adj rs h b)(h1:v∈Wl N k (some h) a)(h2:v∈Wl N k (some h) b):a=b:=by
 rcases W.side hN k h a ha v h1 with⟨s1,s2⟩ | ⟨s1,s2⟩<;>rcases W.side hN k h b hb v h2 with⟨t1,t2⟩ | ⟨t1,t2⟩
 ·exact W.sib (h:=h) ⟨ha.symm,s1⟩ ⟨hb.symm,t1⟩ s2 t2
 ·exact absurd (.trans (.up ⟨ha.symm,s1⟩ .refl) s2) t2
 ·exact absurd (.trans (.up ⟨hb.symm,t1⟩ .refl) t2) s2
 ·exact W.one h a b ha hb s1 t1
theorem AS{α β:Type}{f:α->List β}:∀{l:List α},l.Nodup->(∀x∈l,(f x).Nodup)->(∀x∈l,∀y∈l,∀v,v∈f x->v∈f y->x=y)->(l.flatMap f).Nodup
 | [],_,_,_=>R4
 | x::l,hn,h1,h2=>by
  rw[OS,R0];rw[Pc] at hn;refine⟨h1 x j_,AS hn.2 (λy hy=>h1 y (h_ _ hy)) (λy hy z hz=>h2 y (h_ _ hy) z (h_ _ hz)),λv hv u hu e=>?_⟩;subst e;obtain⟨y,hy,bY⟩:=OY.mp hu;have:=h2 x j_ y (h_ _ hy) v hv bY;subst this;exact hn.1 hy
theorem Web.nodup(W:Web n rs rk)(hN:∀v u,u∈N v↔Adj rs v u)(hn:∀v,(N v).Nodup):∀(k:Nat) (c:Option Int) (h:Int),(Wl N k c h).Nodup:=by
 intro k
 induction k with
 | zero=>intro c h;rw[Wl];exact Pc.mpr ⟨by simp,R4⟩
 | succ k ih =>
  intro c h;rw[Wl,Pc];refine⟨λm=>?_,AS ((hn h).filter _) (λu hu=>ih _ _) λu hu v hv x h1 h2=>?_⟩
  ·obtain⟨u,hu,m⟩:=OY.mp m;exact W.back hN ((hN h u).mp (A_.mp hu).1) m
  ·exact W.apart hN ((hN h u).mp (A_.mp hu).1) ((hN h v).mp (A_.mp hv).1) h1 h2
noncomputable def mu(rk:Int->Nat):Option Int->Int->Nat
 | none,_=>18
 | some c,h=>if rk c < rk h then 8 - rk h else 9+rk h
theorem Web.mu_lt(W:Web n rs rk){u:Int}(hc:∀x,c=some x->Adj rs x h)(hu:Adj rs h u)(ne:some u≠c):mu rk (some h) u < mu rk c h:=by
 have n2:=W.ne h u hu;have r1:=W.rk8 h u hu;have r2:=W.rk8 u h hu.symm;cases c with
 | none=>simp only[mu];split<;>omega
 | some c =>
  have a:=hc c rfl;have n1:=W.ne c h a;simp only[mu];by_cases l:rk c < rk h
  ·rw[if_pos l];by_cases m:rk h < rk u
   ·rw[if_pos m];omega
   ·exact absurd (W.one h u c hu a.symm (by omega) l) (λz=>ne (by rw[z]))
  ·rw[if_neg l];split<;>omega
theorem BF(S:Int->Prop)(c:Option Int)(hS:∀v u,S v->u∈N v->some u≠c->S u):∀(k:Nat) (c':Option Int) (h:Int),S h->(∀v∈Wl N k c' h,some v≠c)->∀v∈Wl N k c' h,S v:=by
 intro k
 induction k with
 | zero=>intro c' h hh _ v hv;rw[Wl,n_] at hv;subst hv;exact hh
 | succ k ih =>
  intro c' h hh hc v hv
  rcases sR.mp hv with rfl | ⟨u,hu,ny,hv⟩
  ·exact hh
  ·refine ih (some h) u (hS h u hh hu (hc u (sR.mpr (.inr ⟨u,hu,ny,t7⟩)))) (λw hw=>hc w (sR.mpr (.inr ⟨u,hu,ny,hw⟩))) v hv
end
noncomputable def webD(n:Nat)(rs:List (Int×Int)):D:=.tup [.int n,.tup (rs.map pairD)]
@[simp] theorem ND:ixF (webD n rs) (.int 0)=some (.int n):=rfl
@[simp] theorem Nv:ixF (webD n rs) (.int 1)=some (.tup (rs.map pairD)):=rfl
noncomputable def sortI(xs:List Int):List Int:=xs.mergeSort λa b=>decide (a<=b)
theorem ve(xs:List Int):(sortI xs).Perm xs:=Rl _ _
theorem IN(xs:List Int):sortD (xs.map D.int)=(sortI xs).map D.int:=by
 unfold sortD sortI;refine(Sm λa _ b _=>?_).symm;unfold leD;rw[tm];by_cases h:a<=b
 ·rw[decide_eq_true h,decide_eq_false (by omega)];rfl
 ·rw[decide_eq_false h,decide_eq_true (by omega)];rfl
theorem Ml{xs:List Int}:depA (xs.map D.int)<=0:=tx λd hd=>by
 obtain⟨n,_,rfl⟩:=z_.mp hd;simp[dep]
theorem B6{xs:List Int}(h:xs.length < 64):sortF [.lst (xs.map D.int)]=some ((sortI xs).map D.int):=by
 rw[Ak,IN];refine⟨by simpa using h,?_,by have:=Ml (xs:=xs);omega,.inl ?_⟩
 ·unfold cmAll;rw[u_];intro a ha;rw[u_];intro b hb;obtain⟨i,_,rfl⟩:=z_.mp ha;obtain⟨j,_,rfl⟩:=z_.mp hb;rfl
 ·rw[u_];intro a ha;obtain⟨i,_,rfl⟩:=z_.mp ha;rfl
theorem w8{α β:Type}{f:α->β}:∀{l:List α},l.Nodup->(∀x∈l,∀y∈l,f x=f y->x=y)->(l.map f).Nodup
 | [],_,_=>R4
 | x::l,hn,h=>by
  rw[Pc] at hn;rw[F_,Pc];refine⟨λm=>?_,w8 hn.2 λy hy z hz=>h y (h_ _ hy) z (h_ _ hz)⟩;obtain⟨y,hy,e⟩:=z_.mp m;have:=h y (h_ _ hy) x j_ e;subst this;exact hn.1 hy
noncomputable def nbL(rs:List (Int×Int))(h:Int):List Int:=(rs.filter λr=>decide (h=r.1)||decide (h=r.2)).map λr=>if r.1=h then r.2 else r.1
noncomputable def nbs(rs:List (Int×Int))(h:Int):List Int:=sortI (nbL rs h)
section
variable{rk:Int->Nat}
theorem Web.nb0(W:Web n rs rk)(h u:Int):u∈nbL rs h↔Adj rs h u:=by
 unfold nbL Adj;rw[z_];constructor
 ·rintro⟨⟨a,b⟩,hr,e⟩;rw[A_] at hr;obtain⟨hr,c⟩:=hr;simp only[Bool.or_eq_true,decide_eq_true_eq] at c;simp only at e;by_cases q:a=h
  ·rw[if_pos q] at e;subst q;subst e;exact .inl hr
  ·rw[if_neg q] at e;subst e
   rcases c with c | c
   ·exact absurd c.symm q
   ·subst c;exact .inr hr
 ·rintro(m | m)
  ·exact⟨(h,u),A_.mpr ⟨m,by simp⟩,if_pos rfl⟩
  ·have:=W.lt _ m;exact⟨(u,h),A_.mpr ⟨m,by simp⟩,if_neg (show ¬u=h by have:=this.2.1;simp only at this;omega)⟩
theorem Web.nb0_nodup(W:Web n rs rk)(h:Int):(nbL rs h).Nodup:=by
 unfold nbL;refine w8 (filter _ W.nd) λx hx y hy e=>?_
 obtain⟨a,b⟩:=x;obtain⟨c,d⟩:=y;rw[A_] at hx hy;have l1:=W.lt _ hx.1;have l2:=W.lt _ hy.1;have h1:=hx.2;have h2:=hy.2;simp only[Bool.or_eq_true,decide_eq_true_eq] at h1 h2;simp only at e l1 l2;rw[RH];split at e<;>split at e<;>omega
theorem Web.nb(W:Web n rs rk)(h u:Int):u∈nbs rs h↔Adj rs h u:=by
 unfold nbs;rw[(ve _).mem_iff];exact W.nb0 h u
theorem Web.nb_nodup(W:Web n rs rk)(h:Int):(nbs rs h).Nodup:=by
 unfold nbs;exact(ve _).symm.nodup (W.nb0_nodup h)
theorem Web.in_n(W:Web n rs rk){a b:Int}(h:Adj rs a b):0<=a/\a < n/\0<=b/\b < n:=by
 rcases h with h | h
 ·have:=W.lt _ h;simp only at this;omega
 ·have:=W.lt _ h;simp only at this;omega
theorem z8(hn:l.Nodup)(h:∀x∈l,0<=x/\x < m):l.length<=m:=by
 have:=uz l ((Pk m).map λk:Nat=>(k:Int)) hn λx hx=>by
  obtain⟨h1,h2⟩:=h x hx;exact z_.mpr ⟨x.toNat,PF.mpr (by omega),by omega⟩
 simpa using this
theorem Web.nb_len(W:Web n rs rk)(h:Int):(nbL rs h).length<=n:=z8 (W.nb0_nodup h) λx hx=>by
 have:=W.in_n ((W.nb0 h x).mp hx);omega
theorem Web.rs_len(W:Web n rs rk):rs.length<=64:=by
 have:=uz rs ((Pk 64).map λk:Nat=>(((k / 8:Nat):Int),((k % 8:Nat):Int))) W.nd λr hr=>by
  have:=W.lt r hr;have:=W.n8;refine z_.mpr ⟨r.1.toNat*8+r.2.toNat,PF.mpr (by omega),?_⟩;obtain⟨a,b⟩:=r;simp only at *;rw[RH];omega
 simpa using this
end
theorem uv(h0:0<=h)(h1:h < n):cvF sQ [webD n rs,.int h]=some .non:=by
 refine rS rfl λKE _ k2=>?_
 rw[yI];simp[h0,h1];exact k2 _ rfl ⟨_,rfl⟩
theorem sx{a b:Int}:deq (.int a) (.int b)=decide (a=b):=by
 rw[deq];by_cases h:a=b<;>simp[h]
theorem Dr{a b:Int}:(a == b)=decide (a=b):=by
 by_cases h:a=b<;>simp[h]
theorem HU{a b:Int}:(a == b)=decide (b=a):=by
 by_cases h:b=a
 ·simp[h]
 ·have:¬a=b:=λz=>h z.symm
  simp[h,this]
theorem J8{r:Int×Int}:inF false (.int h) (pairD r)=some (.bl (decide (h=r.1)||decide (h=r.2))):=by
 unfold inF;simp[pairD,seqI,deq,dep,depA,HU]
theorem uL{rk:Int->Nat}(W:Web n rs rk)(h0:0<=h)(h1:h < n):coF sZ [webD n rs,.int h]=some ((nbs rs h).map D.int):=by
 have e1:=uv (rs:=rs) h0 h1;have l1:=W.rs_len;have l2:=W.nb_len h;have l3:=W.n8;have e2:sortF [.lst ((nbL rs h).map D.int)]=some ((nbs rs h).map D.int):=B6 (by omega);refine tG rfl λKE k1=>?_
 rw[yG];refine qR ?_;rintro K hK -;simp[e1];refine hK _ ?_;simp;refine sd rs pairD (λr=>decide (h=r.1)||decide (h=r.2)) (λr=>.int (if r.1=h then r.2 else r.1)) ?_;simp[J8,dep,sx];refine⟨by omega,λa b _ _=>by split<;>intro z<;>first | exact absurd (by assumption) z | exact absurd z (by assumption),?_⟩
 have e3:map (λr=>D.int (if r.1=h then r.2 else r.1)) (UQ (λr=>decide (h=r.1)||decide (h=r.2)) rs)=(nbL rs h).map D.int:=by
  unfold nbL;rw[Rr];rfl
 rw[e3,e2];simp;exact k1 _ ⟨_,rfl⟩
noncomputable def cameD:Option Int->D
 | none=>.non
 | some c=>.int c
theorem t9{u:Int}:deq (.int u) (cameD c)=decide (some u=c):=by
 cases c with
 | none=>simp[cameD,deq]
 | some c =>
  simp only[cameD,sx];by_cases h:u=c<;>simp[h]
theorem Web.wl_len{rk:Int->Nat}(W:Web n rs rk)(k:Nat)(c:Option Int)(h:Int)(h0:0<=h)(h1:h < n):(Wl (nbs rs) k c h).length<=n:=z8 (W.nodup W.nb W.nb_nodup k c h) λx hx=>by
 refine BF (N:=nbs rs) (λv=>0<=v/\v < n) none (λv u _ hu _=>?_) k c h ⟨h0,h1⟩ (λv _ z=>by cases z) x hx;have:=W.in_n ((W.nb v u).mp hu);omega
theorem sN{rk:Int->Nat}(W:Web n rs rk){c:Int}(a:Adj rs c h):mu rk (some c) h < 20:=by
 have:=W.rk8 h c a.symm;simp only[mu];split<;>omega
noncomputable def mkR(a b:Int):Int×Int:=(if b < a then b else a,if b > a then b else a)
theorem vY{a b:Int}(h:a≠b):(mkR a b=(a,b)/\a < b)\/(mkR a b=(b,a)/\b < a):=by
 unfold mkR;by_cases l:b < a
 ·exact .inr ⟨by rw[if_pos l,if_neg (by omega)],l⟩
 ·exact .inl ⟨by rw[if_neg l,if_pos (by omega)],by omega⟩
structure LOk(m:Nat)(L:List (Nat×Nat)):Prop where
 inc:L.Pairwise λp q=>p.1 < q.1
 ok:∀q∈L,1<=q.1/\q.1 < m/\q.2 < q.1
theorem Eg{L:List (Nat×Nat)}(h:L.Pairwise λp q=>p.1 < q.1){p q:Nat×Nat}(hp:p∈L)(hq:q∈L)(e:p.1=q.1):p=q:=by
 induction L with
 | nil=>cases hp
 | cons x L ih =>
  rw[RE] at h
  rcases r_.mp hp with fj | fj<;>rcases r_.mp hq with cD | cD
  ·rw[fj,cD]
  ·have:=h.1 q cD;rw[←fj] at this;omega
  ·have:=h.1 p fj;rw[←cD] at this;omega
  ·exact ih h.2 fj cD
noncomputable def atO(os:List Int)(k:Nat):Int:=os.getD k 0
noncomputable def roadsO(os:List Int)(L:List (Nat×Nat)):List (Int×Int):=L.map λq=>mkR (atO os q.1) (atO os q.2)
section
variable{os:List Int}{L:List (Nat×Nat)}
theorem xo(h:k < os.length):atO os k=os[k]:=by
 unfold atO;rw[i_,f_ h];rfl
theorem sW(nd:os.Nodup)(h:k < os.length):os.idxOf (atO os k)=k:=by
 rw[xo h];exact nd.idxOf_getElem k h
theorem sS(nd:os.Nodup)(hj:j < os.length)(hk:k < os.length)(e:atO os j=atO os k):j=k:=by
 have h1:=sW nd hj;rw[e,sW nd hk] at h1;exact h1.symm
theorem wN(hl:os.length=m)(nd:os.Nodup)(ok:LOk m L)(hp:rs.Perm (roadsO os L)){x y:Int}(h:Adj rs x y):∃q∈L,(x=atO os q.1/\y=atO os q.2)\/(x=atO os q.2/\y=atO os q.1):=by
 have go:∀a b,(a,b)∈rs->∃q∈L,(a=atO os q.1/\b=atO os q.2)\/(a=atO os q.2/\b=atO os q.1):=λa b h=>by
  rw[hp.mem_iff] at h;obtain⟨q,hq,e⟩:=z_.mp h;have o:=ok.ok q hq;have ne:atO os q.1≠atO os q.2:=λz=>by have:=sS nd (by omega) (by omega) z;omega
  refine⟨q,hq,?_⟩
  rcases vY ne with⟨e1,_⟩ | ⟨e1,_⟩<;>rw[e1] at e<;>cases e
  ·exact .inl ⟨rfl,rfl⟩
  ·exact .inr ⟨rfl,rfl⟩
 rcases h with h | h
 ·exact go x y h
 ·obtain⟨q,hq,z⟩:=go y x h;exact⟨q,hq,z.elim (λz=>.inr ⟨z.2,z.1⟩) λz=>.inl ⟨z.2,z.1⟩⟩
theorem Ka(hl:os.length=m)(nd:os.Nodup)(rng:∀x∈os,0<=x/\x < m)(ok:LOk m L)(m1:1<=m)(m8:m<=8)(hp:rs.Perm (roadsO os L)):Web m rs λv=>os.idxOf v:=by
 have eO:∀k,k < m->0<=atO os k/\atO os k < m:=λk hk=>by
  rw[xo (by omega)];exact rng _ (Pg _)
 have nq:∀q∈L,atO os q.1≠atO os q.2:=λq hq z=>by
  have o:=ok.ok q hq;have:=sS nd (by omega) (by omega) z;omega
 refine⟨m1,m8,λr hr=>?_,hp.symm.nodup (w8 (ok.inc.imp λh e=>by rw[e] at h;exact absurd h (PR _)) λp kS q kT e=>?_),λa b h=>?_,λa b h=>?_,λv a b ha hb la lb=>?_⟩
 ·rw[hp.mem_iff] at hr;obtain⟨q,hq,rfl⟩:=z_.mp hr;have o:=ok.ok q hq;have i1:=eO q.1 (by omega);have i2:=eO q.2 (by omega)
  rcases vY (nq q hq) with⟨e,l⟩ | ⟨e,l⟩<;>rw[e]<;>simp only<;>omega
 ·have o:=ok.ok p kS;have o':=ok.ok q kT;refine Eg ok.inc kS kT ?_
  rcases vY (nq p kS) with⟨e1,_⟩ | ⟨e1,_⟩<;>rcases vY (nq q kT) with⟨e2,_⟩ | ⟨e2,_⟩<;>rw[e1,e2,RH] at e
  ·exact sS nd (by omega) (by omega) e.1
  ·have h1:=sS nd (by omega) (by omega) e.1;have h2:=sS nd (by omega) (by omega) e.2;omega
  ·have h1:=sS nd (by omega) (by omega) e.1;have h2:=sS nd (by omega) (by omega) e.2;omega
  ·exact sS nd (by omega) (by omega) e.2
 ·obtain⟨q,hq,z⟩:=wN hl nd ok hp h;have o:=ok.ok q hq
  rcases z with⟨rfl,rfl⟩ | ⟨rfl,rfl⟩<;>rw[sW nd (by omega),sW nd (by omega)]<;>omega
 ·obtain⟨q,hq,z⟩:=wN hl nd ok hp h;have o:=ok.ok q hq
  rcases z with⟨rfl,rfl⟩ | ⟨rfl,rfl⟩<;>rw[sW nd (by omega)]<;>omega
 ·obtain⟨q,hq,z⟩:=wN hl nd ok hp ha;obtain⟨q',cD,z'⟩:=wN hl nd ok hp hb;have o:=ok.ok q hq;have o':=ok.ok q' cD
  have e1:v=atO os q.1/\a=atO os q.2:=by
   rcases z with z | ⟨rfl,rfl⟩
   ·exact z
   ·rw[sW nd (by omega),sW nd (by omega)] at la;omega
  have e2:v=atO os q'.1/\b=atO os q'.2:=by
   rcases z' with z' | ⟨rfl,rfl⟩
   ·exact z'
   ·rw[sW nd (by omega),sW nd (by omega)] at lb;omega
  have:=Eg ok.inc hq cD (sS nd (by omega) (by omega) (e1.1.symm.trans e2.1));subst this;rw[e1.2,e2.2]
end
theorem CY{p:Int×Int}:dep (pairD p)<=1:=by
 unfold pairD;simp[dep,depA]
noncomputable def sortP(ps:List (Int×Int)):List (Int×Int):=ps.mergeSort λp q=>leD (pairD p) (pairD q)
theorem Bn(h:ps.length < 64):∃rs:List (Int×Int),sortF [.lst (ps.map pairD)]=some (rs.map pairD)/\rs.Perm ps/\rs=sortP ps:=by
 refine⟨ps.mergeSort λp q=>leD (pairD p) (pairD q),?_,Rl _ _,rfl⟩;rw[Ak]
 ·unfold sortD;exact congrArg some (Sm (s:=leD) (f:=pairD) λa _ b _=>rfl).symm
 ·refine⟨by simpa using h,?_,?_,.inr (.inl ?_)⟩
  ·unfold cmAll;rw[u_];intro a ha;rw[u_];intro b hb;obtain⟨i,_,rfl⟩:=z_.mp ha;obtain⟨j,_,rfl⟩:=z_.mp hb;simp[pairD,cmB,cmA]
  ·refine E_ (tx (n:=1) λd hd=>?_) (by omega);obtain⟨p,_,rfl⟩:=z_.mp hd;exact CY
  ·rw[u_];intro a ha;obtain⟨i,_,rfl⟩:=z_.mp ha;rfl
abbrev WS:=List (List (Int×Int))
noncomputable def roofL(ws:WS):WS:=(zF ws).choose
theorem r8(ws:WS):IsRoof ws (roofL ws):=(zF ws).choose_spec.1
theorem Bl(ws:WS):(roofL ws).length<=ws.length:=(zF ws).choose_spec.2
noncomputable def shortL(sp:Bool)(ws:WS):WS:=if sp then spareL (roofL ws) else roofL ws
noncomputable def howD(sp:Bool):D:=.str (if sp then "spare" else "roof")
theorem zM{ws:WS}{w:List (Int×Int)}(h:w∈shortL sp ws):w∈ws:=by
 unfold shortL at h;split at h
 ·exact(r8 ws).sub ((uH _ _).subset h)
 ·exact(r8 ws).sub h
theorem Fa{ws:WS}:(shortL sp ws).length<=ws.length:=by
 have:=Bl ws;unfold shortL;split
 ·exact E_ (uH _ _).length_le this
 ·exact this
theorem Dl:deq (howD sp) (.str "spare")=sp/\deq (howD sp) (.str "roof")=!sp:=by
 cases sp<;>exact⟨by decide,by decide⟩
theorem KM{ws:WS}(aB:∀u∈ws,Wf n u)(h1:1<=n)(hn:n<=3)(hl:ws.length<=18):coF xb [howD sp,.lst (ws.map wishD)]=some ((shortL sp ws).map wishD):=by
 have e1:=zt aB h1 hn hl (r8 ws);have e2:=Ji aB h1 hn hl (r8 ws) (Bl ws);refine tG rfl λKE k1=>?_
 rw[xq];refine qR ?_;rintro K hK hR;simp only[DC];cases sp with
 | true =>
  have q:=Dl (sp:=true);simp[q.1,dep,e2];exact hR _ _ (k1 _ ⟨_,rfl⟩)
 | false =>
  have q:=Dl (sp:=false);simp[q.1,dep];refine hK _ ?_;simp[e1];exact k1 _ ⟨_,rfl⟩
theorem DT{rk:Int->Nat}(W:Web n rs rk){a b:Int}(h:Adj rs a b):cvF u0 [webD n rs,.int a,.int b]=some .non:=by
 obtain⟨h0,h1,h2,h3⟩:=W.in_n h;have e1:=uv (rs:=rs) h0 h1;have e2:=uv (rs:=rs) h2 h3;have e3:=uL W h0 h1;have hb:b∈nbs rs a:=(W.nb a b).mpr h;refine rS rfl λKE _ k2=>?_
 rw[zo];refine qR ?_;rintro K hK -;simp[e1];refine hK _ ?_;refine qR ?_;rintro K hK -;simp[e2];refine hK _ ?_;simp[e3,dep,sx];exact⟨⟨_,⟨b,hb,rfl⟩,by simp[deq]⟩,k2 _ rfl ⟨_,rfl⟩⟩
theorem v4{c:M Bool}{a b:M Fl}{Q:Fl->Gm->Prop}:wp (ifS c a b) Y Q↔wp c Y λk ac=>if k=true then wp a ac Q else wp b ac Q:=DC
abbrev HS:=List (Int×List (Int×Int))
noncomputable def holdD(p:Int×List (Int×Int)):D:=.tup [.int p.1,wishD p.2]
@[simp] theorem M5{p:Int×List (Int×Int)}:ixF (holdD p) (.int 0)=some (.int p.1):=rfl
@[simp] theorem M3{p:Int×List (Int×Int)}:ixF (holdD p) (.int 1)=some (wishD p.2):=rfl
noncomputable def ownW(hs:HS)(h:Int):WS:=(hs.filter λp=>decide (p.1=h)).map (·.2)
noncomputable def argW(sp:Bool)(N:Int->List Int)(hs:HS)(pI:Option Int->Int->WS)(c:Option Int)(h:Int):WS:=ownW hs h++((N h).filter λu=>decide (some u≠c)).flatMap (pI (some h))
noncomputable def tl(sp:Bool)(N:Int->List Int)(hs:HS):Nat->Option Int->Int->WS
 | 0,_,_=>[]
 | k+1,c,h=>shortL sp (argW sp N hs (tl sp N hs k) c h)
noncomputable def bW(N:Int->List Int)(hs:HS)(k:Nat)(c:Option Int)(h:Int):WS:=(Wl N k c h).flatMap (ownW hs)
theorem wf{hs:HS}:bW N hs (k+1) c h=ownW hs h++((N h).filter λu=>decide (some u≠c)).flatMap (bW N hs k (some h)):=by
 unfold bW;rw[Wl,OS,Ui]
theorem yE{α β:Type}{f g:α->List β}:∀{l:List α},(∀x∈l,(f x).length<=(g x).length)->(l.flatMap f).length<=(l.flatMap g).length
 | [],_=>v_ _
 | x::l,h=>by
  have h1:=h x j_;have h2:=yE λy hy=>h y (h_ _ hy)
  rw[OS,OS,y_,y_];omega
theorem vI{hs:HS}:∀{L:List Int},L.Nodup->(L.flatMap (ownW hs)).length<=hs.length:=by
 induction hs with
 | nil =>
  intro L _;have:L.flatMap (ownW [])=[]:=List.flatMap_eq_nil_iff.mpr λ_ _=>rfl
  rw[this];exact v_ _
 | cons p hs ih =>
  intro L nd
  have key:∀L:List Int,L.Nodup->(L.flatMap (ownW (p::hs))).length=(L.flatMap (ownW hs)).length+(if p.1∈L then 1 else 0):=by
   intro L
   induction L with
   | nil=>intro _;simp
   | cons x L ih2 =>
    intro nd;rw[Pc] at nd;have i:=ih2 nd.2;rw[OS,OS,y_,y_,i]
    have e:(ownW (p::hs) x).length=(ownW hs x).length+(if p.1=x then 1 else 0):=by
     unfold ownW;by_cases q:p.1=x
     ·rw[O6 (by simpa using q),if_pos q];simp
     ·rw[Px (by simpa using q),if_neg q];rfl
    rw[e];by_cases q:p.1=x
    ·have:p.1∉L:=by rw[q];exact nd.1
     simp[q,this,nd.1];omega
    ·have:¬x=p.1:=λz=>q z.symm
     by_cases r:p.1∈L<;>simp[q,r]<;>omega
  rw[key L nd,OQ];have:=ih nd;split<;>omega
section
variable{rk:Int->Nat}{f:Nat}{hs:HS}
theorem u5{N:Int->List Int}:∀(k:Nat) (c:Option Int) (h:Int),(tl sp N hs k c h).length<=(bW N hs k c h).length
 | 0,_,_=>O5 _
 | k+1,c,h=>by
  rw[tl,wf];refine E_ Fa ?_;unfold argW;rw[y_,y_];have:=yE (l:=(N h).filter λu=>decide (some u≠c)) (f:=tl sp N hs k (some h)) (g:=bW N hs k (some h)) λu _=>u5 k (some h) u
  omega
theorem u4{w:List (Int×Int)}(m:w∈ownW hs h):∃p∈hs,p.1=h/\p.2=w:=by
 obtain⟨p,hp,rfl⟩:=z_.mp m;rw[A_,decide_eq_true_eq] at hp;exact⟨p,hp.1,hp.2,rfl⟩
theorem vf{N:Int->List Int}(hw:∀p∈hs,Wf f p.2):∀(k:Nat) (c:Option Int) (h:Int),(∀w∈tl sp N hs k c h,Wf f w)/\∀w∈argW sp N hs (tl sp N hs k) c h,Wf f w
 | 0,c,h=>⟨λw m=>(by cases m),λw m=>by
  unfold argW at m
  rcases D_.mp m with m | m
  ·obtain⟨p,hp,_,rfl⟩:=u4 m;exact hw p hp
  ·obtain⟨u,_,m⟩:=OY.mp m;cases m⟩
 | k+1,c,h=>by
  have t:∀c h,∀w∈tl sp N hs (k+1) c h,Wf f w:=λc h w m=>(vf hw k c h).2 w (zM m)
  refine⟨t c h,λw m=>?_⟩;unfold argW at m
  rcases D_.mp m with m | m
  ·obtain⟨p,hp,_,rfl⟩:=u4 m;exact hw p hp
  ·obtain⟨u,_,m⟩:=OY.mp m;exact t _ _ w m
theorem H0(W:Web n rs rk)(k:Nat)(c:Option Int)(h:Int):(argW sp (nbs rs) hs (tl sp (nbs rs) hs k) c h).length<=hs.length:=by
 have e:(argW sp (nbs rs) hs (tl sp (nbs rs) hs k) c h).length<=(bW (nbs rs) hs (k+1) c h).length:=by
  rw[wf];unfold argW;rw[y_,y_];have:=yE (l:=(nbs rs h).filter λu=>decide (some u≠c)) (f:=tl sp (nbs rs) hs k (some h)) (g:=bW (nbs rs) hs k (some h)) λu _=>u5 k (some h) u
  omega
 exact E_ e (vI (W.nodup W.nb W.nb_nodup _ _ _))
end
section
variable{rk:Int->Nat}{f:Nat}{hs:HS}
noncomputable def hsD(hs:HS):D:=.lst (hs.map holdD)
theorem y8{ps:HS}(l:ps.length<=1000):coF tf [.lst (ps.map holdD)]=some ((ps.map (·.2)).map wishD):=by
 refine tG rfl λKE k1=>?_
 rw[z6];simp;refine sd ps holdD (λ_=>true) (λp=>wishD p.2) ?_;simp;refine⟨by omega,?_⟩;have:=k1 [some (.val (.lst (ps.map holdD)))] ⟨_,rfl⟩;rw[Rr] at this;exact this
theorem AE(W:Web n rs rk)(hw:∀p∈hs,Wf f p.2)(h1:1<=f)(hf:f<=3)(hl:hs.length<=18):∀(k:Nat) (c h:Int),Adj rs c h->mu rk (some c) h < k->coF (ua k) [webD n rs,hsD hs,howD sp,.int c,.int h]=some ((tl sp (nbs rs) hs k (some c) h).map wishD):=by
 intro k
 induction k with
 | zero=>intro c h _ hm;omega
 | succ k ih =>
  intro c h a hm;obtain⟨c0,c1,h0,ju⟩:=W.in_n a;have e1:=uL W h0 ju;have e2:=y8 (ps:=hs.filter λp=>decide (p.1=h)) (E_ (Qo _ _) (by omega));have aw:=(vf (sp:=sp) (N:=nbs rs) hw k (some c) h).2;have al:=H0 (sp:=sp) (hs:=hs) W k (some c) h;have e3:=KM (sp:=sp) aw h1 hf (by omega);rw[ua];refine tG rfl λKE k1=>?_
  rw[wS];refine qR ?_;rintro K hK -;simp;refine sd hs holdD (λp=>decide (p.1=h)) holdD ?_;simp[hsD,dep,sx];refine⟨by omega,λa b _=>Dr,?_⟩;simp[e2];refine hK _ ?_;refine qR ?_;rintro K hK -;simp[e1];refine rO (J:=λi Y=>∃x,Y=[some (.val (webD n rs)),some (.val (hsD hs)),some (.val (howD sp)),some (.val (.int c)),some (.val (.int h)),some (.own ((ownW hs h++(((nbs rs h).take i).filter λu=>decide (some u≠some c)).flatMap (tl sp (nbs rs) hs k (some h))).map wishD)),x]) ⟨none,?_⟩ ?_ ?_
  ·simp[hsD,ownW]
  ·rintro i d Y hd ⟨x,rfl⟩ KL aH - - -;rw[B_,G_] at hd;obtain⟨u,hu,rfl⟩:=hd;have tk:(nbs rs h).take (i+1)=(nbs rs h).take i++[u]:=by rw[Qv,hu];rfl
   have au:=(W.nb h u).mp (K_ hu);rw[tk,PQ,PD] at aH
   have big:∀j,(ownW hs h++(((nbs rs h).take j).filter λu=>decide (some u≠some c)).flatMap (tl sp (nbs rs) hs k (some h))).length<=hs.length:=λj=>by
    refine E_ ?_ al;unfold argW;rw[y_,y_];have e:=PD (xs:=((nbs rs h).take j).filter λu=>decide (some u≠some c)) (ys:=((nbs rs h).drop j).filter λu=>decide (some u≠some c)) (f:=tl sp (nbs rs) hs k (some h));rw[←PQ,Qm] at e;rw[e,y_];omega
   have b1:=big (i+1);rw[tk,PQ,PD] at b1;rw[←P_] at aH b1;generalize ownW hs h++(((nbs rs h).take i).filter λu=>decide (some u≠some c)).flatMap (tl sp (nbs rs) hs k (some h))=L at aH b1 ⊢;refine⟨_,_,rfl,?_⟩;show wp _ [some (.val (webD n rs)),some (.val (hsD hs)),some (.val (howD sp)),some (.val (.int c)),some (.val (.int h)),some (.own (L.map wishD)),some (.val (.int u))] _;refine v4.mpr ⟨decide (u≠c),[some (.val (webD n rs)),some (.val (hsD hs)),some (.val (howD sp)),some (.val (.int c)),some (.val (.int h)),some (.own (L.map wishD)),some (.val (.int u))],by simp[tst,op2,bnd,nm,lft,eqF,dep,sx,asB];exact Dr,?_⟩;dsimp only;by_cases uc:u=c
   ·rw[if_neg (by simp[uc])];exact⟨_,_,rfl,aH _ ⟨some (.val (.int u)),by simp[uc]⟩⟩
   ·have lt:=W.mu_lt (c:=some c) (λx z=>by cases z;exact a) au (λz=>uc (by cases z;rfl));have e4:=ih h u au (by omega);simp[uc] at b1;rw[if_pos (by simp[uc])];simp[isMut,R.mut,e4];exact⟨by omega,aH _ ⟨some (.val (.int u)),by simp[uc]⟩⟩
  ·rintro Y ⟨x,rfl⟩;refine hK _ ?_;rw[w_,PP]
   change wp _ [some (.val (webD n rs)),some (.val (hsD hs)),some (.val (howD sp)),some (.val (.int c)),some (.val (.int h)),some (.own ((argW sp (nbs rs) hs (tl sp (nbs rs) hs k) (some c) h).map wishD)),x] _
   have tt:tl sp (nbs rs) hs (k+1) (some c) h=shortL sp (argW sp (nbs rs) hs (tl sp (nbs rs) hs k) (some c) h):=rfl;rw[tt] at k1;generalize argW sp (nbs rs) hs (tl sp (nbs rs) hs k) (some c) h=A at e3 k1 ⊢;simp[e3];exact k1 _ ⟨_,rfl⟩
end
theorem IsRoof.swap{f:Nat}{ws vs S T:WS}(b:IsRoof vs S)(aB:∀u∈ws,Wf f u)(eN:∀u∈vs,Wf f u)(c:IsRoof (ws++vs) T):IsRoof (ws++S) T:=by
 have hS:∀u∈S,Wf f u:=λu hu=>eN u (b.sub hu)
 have h1:=(r8 ws).cat b aB eN c;have h2:=(r8 ws).cat (b.self eN) aB hS (r8 (ws++S));rw[h1.alone h2];exact r8 _
theorem Cu{f:Nat}{F G:Int->WS}{T:WS}(hF:∀u w,w∈F u->Wf f w):∀(us:List Int) (A:WS),(∀u∈us,IsRoof (F u) (G u))->(∀w∈A,Wf f w)->IsRoof (A++us.flatMap F) T->IsRoof (A++us.flatMap G) T
 | [],A,_,_,h=>h
 | u::us,A,hr,hA,h=>by
  have gw:∀x∈us,∀w∈G x,Wf f w:=λx hx w m=>hF x w ((hr x (h_ _ hx)).sub m)
  rw[OS,←P_] at h
  have h1:=Cu hF us (A++F u) (λx hx=>hr x (h_ _ hx)) (λw m=>by
   rcases D_.mp m with m | m
   ·exact hA w m
   ·exact hF u w m) h
  have h2:IsRoof ((A++us.flatMap G)++F u) T:=h1.congr λw=>by simp only[D_];exact or_right_comm
  have h3:=(hr u j_).swap (f:=f) (λw m=>by
   rcases D_.mp m with m | m
   ·exact hA w m
   ·obtain⟨x,hx,m⟩:=OY.mp m;exact gw x hx w m) (hF u) h2
  refine h3.congr λw=>?_
  rw[OS];simp only[D_];constructor
  ·rintro(m | m | m)
   ·exact .inl (.inl m)
   ·exact .inr m
   ·exact .inl (.inr m)
  ·rintro((m | m) | m)
   ·exact .inl m
   ·exact .inr (.inr m)
   ·exact .inr (.inl m)
section
variable{rk:Int->Nat}{f:Nat}{hs:HS}
theorem zQ(hw:∀p∈hs,Wf f p.2):∀w∈bW N hs k c h,Wf f w:=λw m=>by
 obtain⟨v,_,m⟩:=OY.mp m;obtain⟨p,hp,_,rfl⟩:=u4 m;exact hw p hp
theorem JH(hw:∀p∈hs,Wf f p.2):∀w∈ownW hs h,Wf f w:=λw m=>by
 obtain⟨p,hp,_,rfl⟩:=u4 m;exact hw p hp
theorem v7(W:Web n rs rk)(hw:∀p∈hs,Wf f p.2):∀(k:Nat) (c:Option Int) (h:Int),(∀x,c=some x->Adj rs x h)->mu rk c h < k->IsRoof (bW (nbs rs) hs k c h) (tl false (nbs rs) hs k c h)
 | 0,_,_,_,hm=>by omega
 | k+1,c,h,hc,hm=>by
  have h1:=r8 (bW (nbs rs) hs (k+1) c h)
  have h2:IsRoof (argW false (nbs rs) hs (tl false (nbs rs) hs k) c h) (roofL (bW (nbs rs) hs (k+1) c h)):=by
   unfold argW;refine Cu (f:=f) (F:=bW (nbs rs) hs k (some h)) (λu w m=>zQ hw w m) _ _ (λu hu=>?_) (JH hw) ?_
   ·rw[A_,decide_eq_true_eq] at hu;have au:=(W.nb h u).mp hu.1;have lt:=W.mu_lt hc au hu.2;exact v7 W hw k (some h) u (λx z=>by cases z;exact au) (by omega)
   ·have:=h1;rw[wf] at this ⊢;exact this
  have e:tl false (nbs rs) hs (k+1) c h=roofL (argW false (nbs rs) hs (tl false (nbs rs) hs k) c h):=rfl;rw[e,(r8 (argW false (nbs rs) hs (tl false (nbs rs) hs k) c h)).alone h2];exact h1
theorem GX{x:Int}:((l.map D.int).any λd=>deq d (.int x))=decide (x∈l):=by
 by_cases h:x∈l
 ·rw[decide_eq_true h,O'];exact⟨.int x,z_.mpr ⟨x,h,rfl⟩,by simp[deq]⟩
 ·rw[decide_eq_false h,List.any_eq_false];intro d hd z;obtain⟨y,hy,rfl⟩:=z_.mp hd;rw[sx,decide_eq_true_eq] at z;subst z;exact h hy
theorem Eo:dep (hsD hs)<=5:=by
 have:depA (hs.map holdD)<=4:=tx λd hd=>by
  obtain⟨p,_,rfl⟩:=z_.mp hd;have:=zV (ws:=[p.2]);simp only[F_,map_nil,dep,depA] at this;simp only[holdD,dep,depA];omega
 unfold hsD;rw[dep];omega
end
theorem v6{QL:List D->Gm->Prop}(J:Nat->List D->Gm->Prop)(h:wp it Y λds ac=>ds.length<=lim/\J 0 [] ac/\(∀(i:Nat) d ah a aj,ds[i]?=some d->J i ah aj->wp (aE d) (a::aj) λ_ aR=>wp ts aR λb aW=>b=true/\wp el aW λx dY=>∃a' gL,dY=a'::gL/\J (i+1) (ah++[x]) gL)/\∀ah aj,J ds.length ah aj->QL ah aj):wp (compO 1 it aE ts el) Y QL:=by
 unfold compO;rw[rF];refine h.mono λds ac ⟨hl,h0,hs,hq⟩=>?_
 rw[if_pos hl]
 have key:∀(es:List D) (i:Nat) (ah:List D) (a:Option R) (aj:Gm),ds.drop i=es->i<=ds.length->J i ah aj->∃r a' cF,compM aE ts el es (a::aj)=some (r,a'::cF)/\J ds.length (ah++r) cF:=by
  intro es
  induction es with
  | nil =>
   intro i ah a aj hd hi hj
   have:i=ds.length:=by
    have:=Tt.mp hd;omega
   subst this;exact⟨[],a,aj,rfl,by simpa using hj⟩
  | cons d es ih =>
   intro i ah a aj hd hi hj
   have bB:i < ds.length:=by
    rcases RL i ds.length with z | z
    ·exact z
    ·rw[Rk z] at hd;cases hd
   have e1:ds[i]?=some d:=by
    have:=O3 bB;rw[hd] at this;cases this;exact f_ bB
   have e2:ds.drop (i+1)=es:=by
    have:=O3 bB;rw[hd] at this;injection this with _ q
    exact q.symm
   obtain⟨_,aR,g1,b,aW,g2,rfl,x,dY,g3,a',gL,rfl,bq⟩:=hs i d ah a aj e1 hj;obtain⟨r,pJ,cF,g4,nz⟩:=ih (i+1) (ah++[x]) a' gL e2 bB bq;refine⟨x::r,pJ,cF,?_,by simpa using nz⟩;rw[compM];unfold bnd;rw[g1];dsimp only;rw[g2];dsimp only;rw[if_pos rfl];rw[g3];dsimp only;rw[g4];rfl
 obtain⟨r,a',cF,e,hj⟩:=key ds 0 [] none ac rfl (O5 _) h0;refine⟨r,cF,?_,hq r cF (by simpa using hj)⟩;have e':compM aE ts el ds (OZ 1 none++ac)=some (r,a'::cF):=e;unfold inC;rw[e'];rfl
@[simp ↓] theorem Og{t:M (List D)}{Q:D->Gm->Prop}:wp (popAt i t) Y Q↔isMut Y i=true/\wp t Y λas gF=>wp (look i) gF λl ac=>wp (lft (pkF as l)) ac λd aj=>wp (wr i (ersF as)) aj λ_ aR=>Q d aR:=by
 simp only[popAt,tV,rF,uk]
theorem LR{xs:List Int}{x:Nat}(h:x < xs.length)(l:xs.length < 1000):pkF [.int x] (.lst (xs.map D.int))=some (.int xs[x]):=by
 unfold pkF;dsimp only;rw[if_pos ⟨by omega,by omega⟩,Qa,B_,f_ h];rfl
theorem JD{xs:List Int}{x:Nat}:ersF [.int x] (xs.map D.int)=some ((xs.eraseIdx x).map D.int):=by
 unfold ersF;simp only[Qa]
 congr 1
 induction xs generalizing x with
 | nil=>rfl
 | cons y xs ih=>cases x with
  | zero=>rfl
  | succ x=>simp only[F_,Q8,F_];rw[ih]
theorem FW{xs:List Int}{x:Nat}(h:x < xs.length):(xs[x]::xs.eraseIdx x).Perm xs:=by
 induction xs generalizing x with
 | nil=>cases h
 | cons y xs ih =>
  cases x with
  | zero=>exact TB _
  | succ x =>
   have:=ih (x:=x) (by simpa using h);simp only[S7,Q8];exact(swap y _ _).trans (this.cons y)
noncomputable def rngZ(n:Nat):List Int:=(Pk n).map λk:Nat=>(k:Int)
theorem Hl(n:Nat):rngD 0 n=(rngZ n).map D.int:=by
 unfold rngD rngZ;rw[Rr];refine TX λk _=>?_
 simp
theorem Ek(n:Nat):(rngZ n).Nodup:=w8 List.nodup_range λx _ y _ e=>by omega
theorem Gg{a b:Int}:mkR a b=(min a b,max a b):=by
 unfold mkR;refine U4 ?_ ?_
 ·simp only;split<;>omega
 ·simp only;split<;>omega
theorem Iu{c:List D}{Q:R->List D->Prop}(hc:PotOk c)(m1:1<=most)(m7:most<=7)(k:∀n rs rk c',Web n rs rk->PotOk c'->Q (.val (webD n rs)) c'):wpB wT c [.int most] Q:=by
 refine uE rfl λKE hE _=>?_
 rw[xR];refine qR ?_;rintro K hK -;simp[isMut,R.mut];refine rM hc (by omega) (by omega) λm0 c2 dF ir hc=>?_
 obtain⟨m,hm⟩:∃m:Nat,1+m0=m:=⟨(1+m0).toNat,by omega⟩;simp[hm];refine hK _ ?_;refine qR ?_;rintro K hK -;simp[isMut,R.mut];refine rM hc (by omega) (by omega) λway c3 pA iy hc=>?_
 simp;refine hK _ ?_;refine qR ?_;rintro K hK -;simp;refine⟨by omega,hK _ ?_⟩;rw[Hl];refine qR ?_;rintro K hK -;simp;obtain⟨J,hJ⟩:∃J:Nat->List D->Gm->Prop,∀i ah Y,J i ah Y↔∃(c:List D) (os ak:List Int),PotOk c/\ah=os.map D.int/\os.length=i/\(os++ak).Perm (rngZ m)/\Y=[some (.bor c),some (.val (.int most)),some (.val (.int m)),some (.val (.int way)),some (.own (ak.map D.int)),none,none,none,none,none]:=⟨_,λ_ _ _=>UG⟩;have zl:(rngZ m).length=m:=by simp[rngZ]
 refine v6 J ?_;simp;refine⟨by omega,by omega,(hJ _ _ _).mpr ⟨c3,[],rngZ m,hc,rfl,rfl,by simp,rfl⟩,?_,?_⟩
 ·intro i d ah aj hd j;obtain⟨c4,os,ak,hc,rfl,hi,pm,rfl⟩:=(hJ _ _ _).mp j
  have bX:i < m:=by
   have:=(p_.mp hd).1;simpa using this
  have ln:=pm.length_eq;rw[y_,zl] at ln;simp[isMut,R.mut];refine rM hc (by omega) (by omega) λx c5 jv kU hc=>?_
  obtain⟨x,rfl⟩:=PH jv;have e1:=LR (xs:=ak) (x:=x) (by omega) (by omega);have e2:=JD (xs:=ak) (x:=x);simp[e1,e2];refine⟨_,_,⟨rfl,rfl⟩,(hJ _ _ _).mpr ⟨c5,os++[ak[x]],ak.eraseIdx x,hc,by simp,by simp[hi],?_,rfl⟩⟩;rw[P_];exact((FW (xs:=ak) (x:=x) (by omega)).append_left os).trans pm
 ·intro ah aj j;obtain⟨c4,os,ak,hc,rfl,hi,pm,rfl⟩:=(hJ _ _ _).mp j;have ln:=pm.length_eq;rw[y_,zl] at ln;have:ak=[]:=O8.mp (by omega);subst this;rw[PY] at pm;have nd:os.Nodup:=pm.symm.nodup (Ek m)
  have rg:∀x∈os,0<=x/\x < m:=λx hx=>by
   rw[pm.mem_iff] at hx;obtain⟨k,hk,rfl⟩:=z_.mp hx;have:=PF.mp hk;omega
  have hl:os.length=m:=by omega
  simp;refine hK _ ?_
  have nA:∀j,j < m->atI (os.map D.int) ((j:Nat):Int)=some (.int (atO os j)):=λj hj=>by
   rw[DL.sE,xo (by omega)];simp[hl,hj]
  refine qR ?_;rintro K hK -;refine⟨_,_,rfl,hK _ ?_⟩;show wp _ [some (.bor c4),some (.val (.int most)),some (.val (.int m)),some (.val (.int way)),some (.own []),some (.val (.lst (os.map D.int))),some (.own []),none,none,none] _;refine qR ?_;rintro K hK -;simp;refine⟨by omega,?_⟩;refine rO (J:=λi Y=>∃(c:List D) (L:List (Nat×Nat)) (x7 x8 x9:Option R),PotOk c/\LOk (i+1) L/\L.length<=i/\Y=[some (.bor c),some (.val (.int most)),some (.val (.int m)),some (.val (.int way)),some (.own []),some (.val (.lst (os.map D.int))),some (.own ((roadsO os L).map pairD)),x7,x8,x9]) ⟨c4,[],none,none,none,hc,⟨T_.nil,by simp⟩,v_ _,rfl⟩ ?_ ?_
  ·rintro i d Y hd ⟨c,L,x7,x8,x9,hc,ok,ll,rfl⟩ KL aH - - -;obtain⟨rfl,hi⟩:=uo hd;have up:LOk (i+1+1) L:=⟨ok.inc,λq hq=>by have:=ok.ok q hq;omega⟩;obtain⟨kk,kW⟩:∃kk:Nat,(1:Int)+i=kk:=⟨1+i,by omega⟩;rw[kW];have ln:(roadsO os L).length=L.length:=by simp[roadsO]
   simp;refine qR ?_;rintro K2 bK -;simp[isMut,R.mut];refine rM hc (by omega) (by omega) λj1 c5 pK qf hc=>?_
   simp;refine rM hc (by omega) (by omega) λj2 c6 pL qg hc=>?_
   have ix:∃j:Nat,j < kk/\atI [D.int ((kk:Int) - 1),D.int 0,D.int j1,D.int j2] way=some (.int j):=by
    have:way=0\/way=1\/way=2\/way=3:=by omega
    rcases this with rfl | rfl | rfl | rfl
    ·exact⟨kk - 1,by omega,by rw[show((kk - 1:Nat):Int)=(kk:Int) - 1 by omega];rfl⟩
    ·exact⟨0,by omega,rfl⟩
    ·obtain⟨j1,rfl⟩:=PH pK;exact⟨j1,by omega,rfl⟩
    ·obtain⟨j2,rfl⟩:=PH pL;exact⟨j2,by omega,rfl⟩
   obtain⟨j,hj,ix⟩:=ix;simp[ix];refine bK _ ?_;clear bK;refine qR ?_;rintro K2 bK -;have a1:=nA kk (by omega);have a2:=nA j (by omega);simp[a1,a2];refine bK _ ?_;clear bK
   have put:∀c7,PotOk c7->wp (appS 6 (nm 9)) [some (.bor c7),some (.val (.int most)),some (.val (.int m)),some (.val (.int way)),some (.own []),some (.val (.lst (os.map D.int))),some (.own ((roadsO os L).map pairD)),some (.val (.int kk)),some (.val (.int j)),some (.val (.tup [.int (min (atO os kk) (atO os j)),.int (max (atO os kk) (atO os j))]))] KL:=λc7 hc=>by
    simp[isMut,R.mut];refine⟨by omega,aH _ ⟨c7,L++[(kk,j)],some (.val (.int kk)),some (.val (.int j)),some (.val (.tup [.int (min (atO os kk) (atO os j)),.int (max (atO os kk) (atO os j))])),hc,⟨?_,?_⟩,by simp;omega,?_⟩⟩
    ·rw[List.pairwise_append];refine⟨ok.inc,by simp,λp hp q hq=>?_⟩;rw[n_.mp hq];have:=ok.ok p hp;simp only;omega
    ·intro q hq
     rcases D_.mp hq with hq | hq
     ·exact up.ok q hq
     ·rw[n_.mp hq];simp only;omega
    ·simp[roadsO,Gg,pairD]
   by_cases w3:way < 3
   ·simp[w3,isMut,R.mut];simpa[isMut,R.mut] using put _ hc
   ·simp[w3,isMut,R.mut];refine rM hc (by omega) (by omega) λz c7 pM pN hc=>?_
    simp;split
    ·simpa[isMut,R.mut] using put _ hc
    ·exact aH _ ⟨c7,L,_,_,_,hc,up,by omega,rfl⟩
  ·rintro Y ⟨c,L,x7,x8,x9,hc,ok,ll,rfl⟩;refine hK _ ?_;rw[zI] at ok ll;have mm:m - 1+1=m:=by omega
   rw[mm] at ok;obtain⟨rs,e1,hp,hs⟩:=Bn (ps:=roadsO os L) (by simp[roadsO];omega);simp[e1];exact hE _ _ _ ⟨_,rfl⟩ (k m rs _ c (Ka hl nd rg ok (by omega) (by omega) hp) hc)
theorem J6{f:Nat}{ws:WS}(aB:∀u∈ws,Wf f u)(hl:l.length=f):(∃w∈shortL sp ws,hasB w l=true)↔∃w∈ws,hasB w l=true:=by
 constructor
 ·rintro⟨w,hw,h⟩;exact⟨w,zM hw,h⟩
 ·rintro⟨w,hw,h⟩;obtain⟨u,hu,c⟩:=(r8 ws).over aB hw;have lu:=(aB u ((r8 ws).sub hu)).len;have lw:=(aB w hw).len;have nB:∃u∈roofL ws,hasB u l=true:=⟨u,hu,D' (by rw[lu,lw]) c h⟩;unfold shortL;split
  ·exact CW hl _ _ (λp hp=>aB p ((r8 ws).sub hp)) nB
  ·exact nB
noncomputable def wants(hs:HS)(l:List Int)(v:Int):Bool:=hs.any λp=>decide (p.1=v)&&hasB p.2 l
theorem Br{hs:HS}{v:Int}:(∃w∈ownW hs v,hasB w l=true)↔wants hs l v=true:=by
 unfold wants ownW;rw[O'];constructor
 ·rintro⟨w,hw,h⟩;obtain⟨p,hp,rfl⟩:=z_.mp hw;rw[A_] at hp;exact⟨p,hp.1,by rw[hp.2,h];rfl⟩
 ·rintro⟨p,hp,h⟩;rw[OP] at h;exact⟨p.2,z_.mpr ⟨p,A_.mpr ⟨hp,h.1⟩,rfl⟩,h.2⟩
theorem CU{α β:Type}{f g:α->List β}{l:List α}(h:∀x∈l,f x=g x):l.flatMap f=l.flatMap g:=by
 induction l with
 | nil=>rfl
 | cons x l ih=>rw[OS,OS,h x j_,ih λy hy=>h y (h_ _ hy)]
theorem JK{α β:Type}{f g:α->List β}(h:∀x,(f x).Sublist (g x)){l m:List α}(s:l.Sublist m):(l.flatMap f).Sublist (m.flatMap g):=by
 induction s with
 | slnil=>exact Rt _
 | cons a _ ih=>rw[OS];exact ih.trans (List.sublist_append_right _ _)
 | cons_cons a _ ih=>rw[OS,OS];exact(h a).append ih
section
variable{rk:Int->Nat}{f:Nat}{hs:HS}
theorem yX(W:Web n rs rk)(hw:∀p∈hs,Wf f p.2)(hl:l.length=f):∀(k:Nat) (c:Option Int) (h:Int),(∀x,c=some x->Adj rs x h)->mu rk c h < k->((∃w∈tl sp (nbs rs) hs k c h,hasB w l=true)↔∃v∈Wl (nbs rs) k c h,wants hs l v=true)
 | 0,_,_,_,hm=>by omega
 | k+1,c,h,hc,hm=>by
  rw[tl,J6 (vf (sp:=sp) (N:=nbs rs) hw k c h).2 hl];unfold argW
  have go:∀u,u∈nbs rs h->some u≠c->((∃w∈tl sp (nbs rs) hs k (some h) u,hasB w l=true)↔∃v∈Wl (nbs rs) k (some h) u,wants hs l v=true):=λu hu uc=>by
   have au:=(W.nb h u).mp hu;have lt:=W.mu_lt hc au uc;exact yX W hw hl k (some h) u (λx z=>by cases z;exact au) (by omega)
  constructor
  ·rintro⟨w,ce,hb⟩
   rcases D_.mp ce with m | m
   ·exact⟨h,t7,Br.mp ⟨w,m,hb⟩⟩
   ·obtain⟨u,hu,m⟩:=OY.mp m;rw[A_,decide_eq_true_eq] at hu;obtain⟨v,hv,z⟩:=(go u hu.1 hu.2).mp ⟨w,m,hb⟩;exact⟨v,sR.mpr (.inr ⟨u,hu.1,hu.2,hv⟩),z⟩
  ·rintro⟨v,hv,z⟩
   rcases sR.mp hv with rfl | ⟨u,hu,uc,hv⟩
   ·obtain⟨w,m,hb⟩:=Br.mpr z;exact⟨w,O_ _ m,hb⟩
   ·obtain⟨w,m,hb⟩:=(go u hu uc).mpr ⟨v,hv,z⟩;exact⟨w,OH _ (OY.mpr ⟨u,A_.mpr ⟨hu,by simpa using uc⟩,m⟩),hb⟩
noncomputable def ldB(rs:List (Int×Int))(hs:HS)(l:List Int)(c h:Int):Bool:=(Wl (nbs rs) 20 (some c) h).any (wants hs l)
theorem LB(W:Web n rs rk)(hw:∀p∈hs,Wf f p.2)(hl:l.length=f){c:Int}(a:Adj rs c h):(!((tl sp (nbs rs) hs 20 (some c) h).filter λw=>hasB w l).isEmpty)=ldB rs hs l c h:=by
 have:=yX (sp:=sp) W hw hl 20 (some c) h (λx z=>by cases z;exact a) (sN W a);rw[Q0];unfold ldB;rw[O',←this,S5,List.isEmpty_eq_false_iff_exists_mem];simp only[A_]
noncomputable def RO(rs:List (Int×Int))(hs:HS)(l:List Int):Nat->Option Int->Int->List (Int×Int)
 | 0,_,_=>[]
 | k+1,c,h=>((nbs rs h).filter λu=>decide (some u≠c)&&ldB rs hs l h u).flatMap λu=>(h,u)::RO rs hs l k (some h) u
theorem Du(W:Web n rs rk):∀(k k':Nat) (c:Option Int) (h:Int),(∀x,c=some x->Adj rs x h)->mu rk c h < k->mu rk c h < k'->RO rs hs l k c h=RO rs hs l k' c h
 | 0,_,_,_,_,h1,_=>by omega
 | k+1,0,_,_,_,_,h2=>by omega
 | k+1,k'+1,c,h,hc,h1,h2=>by
  rw[RO,RO];refine CU λu hu=>?_
  rw[A_,OP,decide_eq_true_eq] at hu;have au:=(W.nb h u).mp hu.1;have lt:=W.mu_lt hc au hu.2.1;rw[Du W k k' (some h) u (λx z=>by cases z;exact au) (by omega) (by omega)]
theorem vE:∀(k:Nat) (c:Option Int) (h:Int),(h::(RO rs hs l k c h).map (·.2)).Sublist (Wl (nbs rs) k c h)
 | 0,_,_=>Rt _
 | k+1,c,h=>by
  rw[RO,Wl,List.map_flatMap];refine List.Sublist.cons_cons _ (JK (λu=>?_) ?_)
  ·rw[F_];exact vE k (some h) u
  ·have:(nbs rs h).filter (λu=>decide (some u≠c)&&ldB rs hs l h u)=((nbs rs h).filter λu=>decide (some u≠c)).filter λu=>ldB rs hs l h u:=by
    rw[List.filter_filter];exact List.filter_congr λu _=>Bool.and_comm _ _
   rw[this];exact Sl
theorem Ae(W:Web n rs rk)(h0:0<=h)(h1:h < n):(RO rs hs l k c h).length+1<=8:=by
 have:=(vE (rs:=rs) (hs:=hs) (l:=l) k c h).length_le;have:=W.wl_len k c h h0 h1;have:=W.n8;rw[OQ,w_] at *;omega
end
section
variable{rk:Int->Nat}{f:Nat}{hs:HS}
theorem K7(W:Web n rs rk)(hw:∀p∈hs,Wf f p.2)(h1:1<=f)(hf:f<=3)(hl:hs.length<=18)(ll:l.length=f){c:Int}(a:Adj rs c h):coF wX [webD n rs,hsD hs,howD sp,.int c,.int h,letD l]=some (((tl sp (nbs rs) hs 20 (some c) h).filter λw=>hasB w l).map wishD):=by
 have e1:=AE (sp:=sp) W hw h1 hf hl 20 c h a (sN W a);have tw:=(vf (sp:=sp) (N:=nbs rs) hw 20 (some c) h).1;have nC:(tl sp (nbs rs) hs 20 (some c) h).length<=hs.length:=E_ (u5 20 (some c) h) (vI (W.nodup W.nb W.nb_nodup _ _ _));generalize tl sp (nbs rs) hs 20 (some c) h=T at *;have hT:∀w∈T,cvF tR [wishD w,letD l]=some (.bl (hasB w l)):=λw m=>xK (by rw[(tw w m).len,ll]) (by rw[(tw w m).len];omega)
 refine tG rfl λKE k1=>?_
 rw[yY];simp;refine sd T wishD (λw=>hasB w l) wishD ?_;simp[e1];refine⟨by omega,λw m=>?_,k1 _ ⟨_,rfl⟩⟩;simp[hT w m]
theorem ES(W:Web n rs rk)(hw:∀p∈hs,Wf f p.2)(h1:1<=f)(hf:f<=3)(hl:hs.length<=18)(ll:l.length=f):∀(k:Nat) (c:Option Int) (h:Int),0<=h->h < n->(∀x,c=some x->Adj rs x h)->mu rk c h < k->cvF (tE k) [webD n rs,hsD hs,howD sp,cameD c,.int h,letD l]=some (.lst ((RO rs hs l k c h).map pairD)):=by
 intro k
 induction k with
 | zero=>intro c h _ _ _ hm;omega
 | succ k ih =>
  intro c h h0 ju hc hm;have e1:=uL W h0 ju;have jN:=Ae (hs:=hs) (l:=l) (k:=k+1) (c:=c) W h0 ju;rw[RO] at jN ⊢;rw[tE];refine rS rfl λKE k1 _=>?_
  rw[vL];refine qR ?_;rintro K hK -;refine⟨_,_,rfl,hK _ ?_⟩;show wp _ [some (.val (webD n rs)),some (.val (hsD hs)),some (.val (howD sp)),some (.val (cameD c)),some (.val (.int h)),some (.val (letD l)),some (.own []),none] _;refine qR ?_;rintro K hK -;simp[e1];refine rO (J:=λi Y=>∃x,Y=[some (.val (webD n rs)),some (.val (hsD hs)),some (.val (howD sp)),some (.val (cameD c)),some (.val (.int h)),some (.val (letD l)),some (.own (((((nbs rs h).take i).filter λu=>decide (some u≠c)&&ldB rs hs l h u).flatMap λu=>(h,u)::RO rs hs l k (some h) u).map pairD)),x]) ⟨none,by simp⟩ ?_ ?_
  ·rintro i d Y hd ⟨x,rfl⟩ KL aH - - -;rw[B_,G_] at hd;obtain⟨u,hu,rfl⟩:=hd;have tk:(nbs rs h).take (i+1)=(nbs rs h).take i++[u]:=by rw[Qv,hu];rfl
   have au:=(W.nb h u).mp (K_ hu)
   have big:∀j,((((nbs rs h).take j).filter λu=>decide (some u≠c)&&ldB rs hs l h u).flatMap λu=>(h,u)::RO rs hs l k (some h) u).length+1<=8:=λj=>by
    have e:=PD (xs:=((nbs rs h).take j).filter λu=>decide (some u≠c)&&ldB rs hs l h u) (ys:=((nbs rs h).drop j).filter λu=>decide (some u≠c)&&ldB rs hs l h u) (f:=λu=>(h,u)::RO rs hs l k (some h) u);rw[←PQ,Qm] at e;rw[e,y_] at jN;omega
   have b1:=big (i+1);rw[tk,PQ,PD] at aH b1;rw[y_] at b1;generalize (((nbs rs h).take i).filter λu=>decide (some u≠c)&&ldB rs hs l h u).flatMap (λu=>(h,u)::RO rs hs l k (some h) u)=L at aH b1 ⊢;have e2:=K7 (sp:=sp) W hw h1 hf hl ll au;have e3:=LB (sp:=sp) W hw ll au;generalize (tl sp (nbs rs) hs 20 (some h) u).filter (λw=>hasB w l)=T at e2 e3;refine⟨_,_,rfl,?_⟩;show wp _ [some (.val (webD n rs)),some (.val (hsD hs)),some (.val (howD sp)),some (.val (cameD c)),some (.val (.int h)),some (.val (letD l)),some (.own (L.map pairD)),some (.val (.int u))] _;have dc:dep (cameD c)<=100:=by cases c<;>simp[cameD,dep]
   refine v4.mpr ⟨decide (some u≠c)&&ldB rs hs l h u,[some (.val (webD n rs)),some (.val (hsD hs)),some (.val (howD sp)),some (.val (cameD c)),some (.val (.int h)),some (.val (letD l)),some (.own (L.map pairD)),some (.val (.int u))],?_,?_⟩
   ·by_cases uc:some u=c
    ·simp[andT,tst,op2,bnd,nm,lft,eqF,dep,dc,t9,asB,uc,ret]
    ·rw[←e3];cases T with
     | nil=>simp[andT,tst,op2,bnd,nm,lft,eqF,dep,dc,t9,asB,uc,ret,fn1,consA,nilA,frz,e2,lenF,seqI]
     | cons w T=>simp[andT,tst,op2,bnd,nm,lft,eqF,dep,dc,t9,asB,uc,ret,fn1,consA,nilA,frz,e2,lenF,seqI]
   ·dsimp only;by_cases cc:(decide (some u≠c)&&ldB rs hs l h u)=true
    ·rw[if_pos cc];rw[O6 (by exact cc)] at aH b1;rw[OP,decide_eq_true_eq] at cc;have lt:=W.mu_lt hc au cc.1;have iu:=W.in_n au;have e4:=ih (some h) u iu.2.2.1 iu.2.2.2 (λx z=>by cases z;exact au) (by omega);have e4:cvF (tE k) [webD n rs,hsD hs,howD sp,.int h,.int u,letD l]=some (.lst ((RO rs hs l k (some h) u).map pairD)):=e4;simp at b1;refine qR ?_;rintro K hK -;simp[isMut,R.mut];refine⟨by omega,hK _ ?_⟩;simp[isMut,R.mut,e4];exact⟨by omega,aH _ ⟨some (.val (.int u)),by simp[pairD]⟩⟩
    ·rw[if_neg cc];rw[Px (by exact cc)] at aH;exact⟨_,_,rfl,aH _ ⟨some (.val (.int u)),by simp⟩⟩
  ·rintro Y ⟨x,rfl⟩;refine hK _ ?_;rw[w_,PP];generalize List.flatMap _ _=L at *;simp;exact k1 _ ⟨_,rfl⟩
end
theorem GU{rk:Int->Nat}(W:Web n rs rk):∀(k:Nat) (c:Option Int) (h:Int),0<=h->h < n->(∀x,c=some x->Adj rs x h)->mu rk c h < k->cvF (tz k) [webD n rs,cameD c,.int h]=some (.lst ((Wl (nbs rs) k c h).map D.int)):=by
 intro k
 induction k with
 | zero=>intro c h _ _ _ hm;omega
 | succ k ih =>
  intro c h h0 h1 hc hm;have e1:=uL W h0 h1
  have wl:∀(k:Nat) (c:Option Int) (h:Int),0<=h->h < n->(Wl (nbs rs) k c h).length<=n:=λk c h h0 h1=>z8 (W.nodup W.nb W.nb_nodup k c h) λx hx=>by
   refine BF (N:=nbs rs) (λv=>0<=v/\v < n) none (λv u _ hu _=>?_) k c h ⟨h0,h1⟩ (λv _ z=>by cases z) x hx;have:=W.in_n ((W.nb v u).mp hu);omega
  have l3:=W.n8;rw[tz];refine rS rfl λKE k1 _=>?_
  rw[vX];refine qR ?_;rintro K hK -;refine⟨_,_,rfl,hK _ ?_⟩;show wp _ [some (.val (webD n rs)),some (.val (cameD c)),some (.val (.int h)),some (.own [.int h]),none] _;refine qR ?_;rintro K hK -;simp[e1];refine rO (J:=λi Y=>∃x,Y=[some (.val (webD n rs)),some (.val (cameD c)),some (.val (.int h)),some (.own ((h::(((nbs rs h).take i).filter λu=>decide (some u≠c)).flatMap (Wl (nbs rs) k (some h))).map D.int)),x]) ⟨none,rfl⟩ ?_ ?_
  ·rintro i d Y hd ⟨x,rfl⟩ KL aH - - -;rw[B_,G_] at hd;obtain⟨u,hu,rfl⟩:=hd;have tk:(nbs rs h).take (i+1)=(nbs rs h).take i++[u]:=by rw[Qv,hu];rfl
   rw[tk,PQ,PD] at aH;have au:=(W.nb h u).mp (K_ hu);have un:=W.in_n au
   have big:((((nbs rs h).take i).filter λu=>decide (some u≠c)).flatMap (Wl (nbs rs) k (some h))).length<=64:=by
    refine E_ (vZ (m:=n) λx hx=>?_) ?_
    ·have:=W.in_n ((W.nb h x).mp (Ps (A_.mp hx).1));exact wl _ _ _ (by omega) (by omega)
    ·have:=Qo (λu=>decide (some u≠c)) ((nbs rs h).take i);have l4:(nbs rs h).length<=n:=by unfold nbs;rw[(ve _).length_eq];exact W.nb_len h
     rw[RI] at this;exact E_ (Nat.mul_le_mul (E_ this (by omega:min i (nbs rs h).length<=8)) (by omega:n<=8)) (by decide)
   generalize (((nbs rs h).take i).filter λu=>decide (some u≠c)).flatMap (Wl (nbs rs) k (some h))=L at aH big ⊢;refine⟨_,_,rfl,?_⟩;show wp _ [some (.val (webD n rs)),some (.val (cameD c)),some (.val (.int h)),some (.own ((h::L).map D.int)),some (.val (.int u))] _;by_cases aJ:some u=c
   ·simp[dep,t9,aJ];exact aH _ ⟨some (.val (.int u)),by simp[aJ]⟩
   ·have lt:=W.mu_lt hc au aJ;have e3:=ih (some h) u (by omega) (by omega) (λx z=>by cases z;exact au) (by omega);have lw:=wl k (some h) u (by omega) (by omega)
    change cvF (tz k) [webD n rs,.int h,.int u]=_ at e3
    simp[dep,t9,aJ,isMut,R.mut,e3];exact⟨by omega,aH _ ⟨some (.val (.int u)),by simp[aJ]⟩⟩
  ·rintro Y ⟨x,rfl⟩;refine hK _ ?_;rw[w_,PP];exact⟨_,_,rfl,k1 _ ⟨_,rfl⟩⟩
theorem GC{rk:Int->Nat}(W:Web n rs rk){c:Int}(a:Adj rs c h):coF wJ [webD n rs,.int c,.int h]=some ((sortI (Wl (nbs rs) 20 (some c) h)).map D.int):=by
 obtain⟨h0,h1,h2,h3⟩:=W.in_n a;have e1:=DT W a;have e2:=GU W 20 (some c) h h2 h3 (λx z=>by cases z;exact a) (sN W a)
 change cvF (tz 20) [webD n rs,.int c,.int h]=_ at e2
 have l1:=W.wl_len 20 (some c) h h2 h3;have l2:=W.n8;have e3:=B6 (xs:=Wl (nbs rs) 20 (some c) h) (by omega);refine tG rfl λKE k1=>?_
 rw[yK];refine qR ?_;rintro K hK -;simp[e1];refine hK _ ?_;simp[e2,e3];exact k1 _ ⟨_,rfl⟩
theorem DX{α:Type}{a b:M α}{Q:α->Gm->Prop}(h:wp a Y Q):wp (altM a b) Y Q:=by
 obtain⟨x,af,e,q⟩:=h;exact⟨x,af,by unfold altM;rw[e],q⟩
theorem CA{α:Type}{a b:M α}{Q:α->Gm->Prop}(e:a Y=none)(h:wp b Y Q):wp (altM a b) Y Q:=by
 obtain⟨x,af,e',q⟩:=h;exact⟨x,af,by unfold altM;rw[e];exact e',q⟩
structure MixN(g:List R->Option (R×List R))(ds:List D):Prop where
 co:coF g ds=none
 cv:cvF g ds=some .non
theorem yn{g:List R->Option (R×List R)}{o:Option (List D)}(h:wpF g (ds.map .val) λr _=>r=(match o with | some l=>R.own l | none=>R.val .non)):(∀l,o=some l->coF g ds=some l)/\(o=none->MixN g ds):=by
 obtain⟨r,aL,e,hr⟩:=h;refine⟨λl z=>?_,λz=>⟨?_,?_⟩⟩
 ·subst z;subst hr;unfold coF;rw[e]
 ·subst z;subst hr;unfold coF;rw[e]
 ·subst z;subst hr;unfold cvF;rw[e]
section
variable{g:List R->Option (R×List R)}{t:M (List D)}{ac:Gm}{l:List D}
theorem tJ{α:Type}{F:List D->Option α}(ht:t Y=some (ds,ac))(e:F ds=none):fn1 F t Y=none:=by
 unfold fn1 bnd;rw[ht];show lft (F ds) ac=none;rw[e];rfl
theorem vD{α:Type}{F:List D->Option α}{x:α}(ht:t Y=some (ds,ac))(e:F ds=some x):fn1 F t Y=some (x,ac):=by
 unfold fn1 bnd;rw[ht];show lft (F ds) ac=_;rw[e];rfl
theorem AN{α β:Type}{m:M α}{f:α->M β}(h:m Y=none):bnd m f Y=none:=by unfold bnd;rw[h]
theorem zP{α β:Type}{m:M α}{f:α->M β}{x:α}(h:m Y=some (x,ac)):bnd m f Y=f x ac:=by unfold bnd;rw[h]
theorem Ef{Q:D->Gm->Prop}(ht:t Y=some (ds,ac))(e:coF g ds=some l)(q:Q (.lst l) ac):wp (altM (frz (fn1 (coF g) t)) (fn1 (cvF g) t)) Y Q:=
 DX ⟨_,_,by unfold frz;rw[zP (vD ht e)];rfl,q⟩
theorem Aq{Q:D->Gm->Prop}(ht:t Y=some (ds,ac))(e:MixN g ds)(q:Q .non ac):wp (altM (frz (fn1 (coF g) t)) (fn1 (cvF g) t)) Y Q:=
 CA (by unfold frz;exact AN (tJ ht e.co)) ⟨_,_,vD ht e.cv,q⟩
theorem EQ{Q:Fl->Gm->Prop}(ht:t Y=some (ds,ac))(e:coF g ds=some l)(q:Q (.rt (.own l)) ac):wp (altM (retO (fn1 (coF g) t)) (retS (fn1 (cvF g) t))) Y Q:=
 DX ⟨_,_,by unfold retO;rw[zP (vD ht e)];rfl,q⟩
theorem Lb{Q:Fl->Gm->Prop}(ht:t Y=some (ds,ac))(e:MixN g ds)(q:Q (.rt (.val .non)) ac):wp (altM (retO (fn1 (coF g) t)) (retS (fn1 (cvF g) t))) Y Q:=
 CA (by unfold retO;exact AN (tJ ht e.co)) ⟨_,_,by unfold retS;rw[zP (vD ht e.cv)];rfl,q⟩
end
noncomputable def Wy(N:Int->List Int):Nat->Option Int->Int->Int->Option (List Int)
 | 0,_,_,_=>none
 | k+1,c,h,t=>if h=t then some [h] else(((N h).filter λu=>decide (some u≠c)).findSome? λu=>Wy N k (some h) u t).map (h::·)
theorem xg{α β:Type}{f:α->Option β}{r:β}{x:α}:∀{l:List α},x∈l->f x=some r->(∀y∈l,(f y).isSome=true->y=x)->l.findSome? f=some r
 | [],hx,_,_=>by cases hx
 | y::l,hx,hf,hu=>by
  rw[TY];cases e:f y with
  | some r' =>
   have:=hu y j_ (by rw[e];rfl);subst this;rw[e] at hf;exact hf
  | none =>
   refine xg ?_ hf λz hz=>hu z (h_ _ hz)
   rcases r_.mp hx with rfl | hx
   ·rw[e] at hf;cases hf
   ·exact hx
section
variable{rk:Int->Nat}
theorem sk:∀{k:Nat}{c:Option Int}{h t:Int}{p:List Int},Wy N k c h t=some p->t∈Wl N k c h/\p.length<=k
 | 0,_,_,_,_,e=>by cases e
 | k+1,c,h,t,p,e=>by
  rw[Wy] at e;by_cases ht:h=t
  ·rw[if_pos ht] at e;cases e;subst ht;exact⟨t7,by simp⟩
  ·rw[if_neg ht,G_] at e;obtain⟨q,e,rfl⟩:=e;obtain⟨u,hu,e⟩:=OW e;rw[A_,decide_eq_true_eq] at hu;have:=sk e;exact⟨sR.mpr (.inr ⟨u,hu.1,hu.2,this.1⟩),by simp;exact this.2⟩
theorem Web.ext(W:Web n rs rk)(hN:∀v u,u∈N v↔Adj rs v u):∀(k:Nat) (c:Option Int) (h v u:Int) (p:List Int),(∀x,c=some x->Adj rs x h)->mu rk c h < k->Wy N k c h v=some p->u∈N v->some u≠c->u∉p->Wy N k c h u=some (p++[u])
 | 0,_,_,_,_,_,_,_,e,_,_,_=>by cases e
 | k+1,c,h,v,u,p,hc,hm,e,hu,uc,up=>by
  have uni:∀x y,x∈N h->y∈N h->u∈Wl N k (some h) x->u∈Wl N k (some h) y->x=y:=λx y hx hy=>W.apart hN ((hN h x).mp hx) ((hN h y).mp hy)
  rw[Wy] at e;by_cases hv:h=v
  ·rw[if_pos hv] at e;cases e;subst hv;have uh:¬h=u:=λz=>up (by rw[z];simp)
   have au:=(hN h u).mp hu;have lt:=W.mu_lt hc au uc;rw[Wy,if_neg uh]
   have one:Wy N k (some h) u u=some [u]:=by
    cases k with
    | zero=>omega
    | succ k=>rw[Wy,if_pos rfl]
   have:(((N h).filter λu=>decide (some u≠c)).findSome? λx=>Wy N k (some h) x u)=some [u]:=xg (x:=u) (A_.mpr ⟨hu,by simpa using uc⟩) one λy hy s=>by
    obtain⟨q,s⟩:=Rb.mp s;exact uni y u (A_.mp hy).1 hu (sk s).1 t7
   rw[this];rfl
  ·rw[if_neg hv,G_] at e;obtain⟨q,e,rfl⟩:=e;obtain⟨x,hx,e⟩:=OW e;have de:=hx;rw[A_,decide_eq_true_eq] at de;have ax:=(hN h x).mp de.1;have lt:=W.mu_lt hc ax de.2;have uh:u≠h:=λz=>up (by rw[z];simp)
   have uq:u∉q:=λz=>up (h_ _ z)
   have ih:=W.ext hN k (some h) x v u q (λy z=>by cases z;exact ax) (by omega) e hu (λz=>uh (by cases z;rfl)) uq;rw[Wy,if_neg (λz=>uh z.symm)]
   have:(((N h).filter λu=>decide (some u≠c)).findSome? λx=>Wy N k (some h) x u)=some (q++[u]):=xg hx ih λy hy s=>by
    obtain⟨q,s⟩:=Rb.mp s;exact uni y x (A_.mp hy).1 de.1 (sk s).1 (sk ih).1
   rw[this];rfl
end
def St(S:Int->Int->Prop):List Int->Prop
 | []=>True
 | [_]=>True
 | a::b::r=>S a b/\St S (b::r)
theorem St.init{S:Int->Int->Prop}:∀{q:List Int}{v u:Int},St S (q++[v]++[u])->St S (q++[v])/\S v u
 | [],v,u,h=>⟨trivial,h.1⟩
 | [a],v,u,h=>⟨⟨h.1,trivial⟩,h.2.1⟩
 | a::b::q,v,u,h=>by
  have:=St.init (q:=b::q) h.2;exact⟨⟨h.1,this.1⟩,this.2⟩
theorem St.mono{S T:Int->Int->Prop}(i:∀a b,S a b->T a b):∀{q:List Int},St S q->St T q
 | [],_=>trivial
 | [_],_=>trivial
 | a::b::r,h=>⟨i _ _ h.1,St.mono i (q:=b::r) h.2⟩
section
variable{rk:Int->Nat}
theorem CS:∀{k:Nat}{c:Option Int}{h t:Int}{p:List Int},Wy N k c h t=some p->∀v∈p,v∈Wl N k c h
 | 0,_,_,_,_,e=>by cases e
 | k+1,c,h,t,p,e=>by
  rw[Wy] at e;intro v hv;by_cases ht:h=t
  ·rw[if_pos ht] at e;cases e;rw[n_.mp hv];exact t7
  ·rw[if_neg ht,G_] at e;obtain⟨q,e,rfl⟩:=e;obtain⟨u,hu,e⟩:=OW e;rw[A_,decide_eq_true_eq] at hu
   rcases r_.mp hv with rfl | hv
   ·exact t7
   ·exact sR.mpr (.inr ⟨u,hu.1,hu.2,CS e v hv⟩)
theorem se:∀{k:Nat}{c:Option Int}{h t:Int}{p:List Int},Wy N k c h t=some p->∃q,p=h::q/\∃r,p=r++[t]
 | 0,_,_,_,_,e=>by cases e
 | k+1,c,h,t,p,e=>by
  rw[Wy] at e;by_cases ht:h=t
  ·rw[if_pos ht] at e;cases e;exact⟨[],rfl,[],by rw[ht];rfl⟩
  ·rw[if_neg ht,G_] at e;obtain⟨q,e,rfl⟩:=e;obtain⟨u,hu,e⟩:=OW e;obtain⟨_,_,r,rfl⟩:=se e;exact⟨_,rfl,h::r,rfl⟩
theorem vJ(hN:∀v u,u∈N v↔Adj rs v u):∀{k:Nat}{c:Option Int}{h t:Int}{p:List Int},Wy N k c h t=some p->St (Adj rs) p
 | 0,_,_,_,_,e=>by cases e
 | k+1,c,h,t,p,e=>by
  rw[Wy] at e;by_cases ht:h=t
  ·rw[if_pos ht] at e;cases e;trivial
  ·rw[if_neg ht,G_] at e;obtain⟨q,e,rfl⟩:=e;obtain⟨u,hu,e⟩:=OW e;rw[A_,decide_eq_true_eq] at hu;obtain⟨q',rfl,_⟩:=se e;exact⟨(hN h u).mp hu.1,vJ hN e⟩
theorem Web.wy_nodup(W:Web n rs rk)(hN:∀v u,u∈N v↔Adj rs v u):∀{k:Nat}{c:Option Int}{h t:Int}{p:List Int},Wy N k c h t=some p->p.Nodup
 | 0,_,_,_,_,e=>by cases e
 | k+1,c,h,t,p,e=>by
  rw[Wy] at e;by_cases ht:h=t
  ·rw[if_pos ht] at e;cases e;exact Pc.mpr ⟨by simp,R4⟩
  ·rw[if_neg ht,G_] at e;obtain⟨q,e,rfl⟩:=e;obtain⟨u,hu,e⟩:=OW e;rw[A_,decide_eq_true_eq] at hu;exact Pc.mpr ⟨λm=>W.back hN ((hN h u).mp hu.1) (CS e h m),W.wy_nodup hN e⟩
theorem Web.wy_some(W:Web n rs rk)(hN:∀v u,u∈N v↔Adj rs v u):∀(k:Nat) (c:Option Int) (h t:Int),(∀x,c=some x->Adj rs x h)->mu rk c h < k->t∈Wl N k c h->∃p,Wy N k c h t=some p
 | 0,_,_,_,_,hm,_=>by omega
 | k+1,c,h,t,hc,hm,ht=>by
  rw[Wy];by_cases e:h=t
  ·exact⟨_,if_pos e⟩
  ·rw[if_neg e]
   rcases sR.mp ht with z | ⟨u,hu,uc,ht⟩
   ·exact absurd z.symm e
   ·have au:=(hN h u).mp hu;have lt:=W.mu_lt hc au uc;obtain⟨p,hp⟩:=W.wy_some hN k (some h) u t (λx z=>by cases z;exact au) (by omega) ht;cases e2:(((N h).filter λu=>decide (some u≠c)).findSome? λu=>Wy N k (some h) u t) with
    | some q=>exact⟨_,rfl⟩
    | none=>rw[QM.mp e2 u (A_.mpr ⟨hu,by simpa using uc⟩)] at hp;cases hp
theorem Web.uni(W:Web n rs rk)(hN:∀v u,u∈N v↔Adj rs v u)(hk:18 < k):∀(m:Nat) (q:List Int) (v:Int),q.length=m->(∃r,q++[v]=h::r)->St (Adj rs) (q++[v])->(q++[v]).Nodup->Wy N k none h v=some (q++[v]):=by
 intro m
 induction m with
 | zero =>
  intro q v hq ⟨r,e⟩ _ _;have:=O8.mp hq;subst this;cases e;obtain⟨k,rfl⟩:∃j,k=j+1:=⟨k - 1,by omega⟩;rw[Wy,if_pos rfl];rfl
 | succ m ih =>
  intro q u hq ⟨r,e⟩ st nd;obtain⟨q,v,rfl⟩:∃q' v,q=q'++[v]:=⟨_,_,(List.dropLast_concat_getLast (by intro z;rw[z] at hq;cases hq)).symm⟩;obtain⟨s1,s2⟩:=st.init;have nD:=R0.mp nd
  have i:=ih q v (by simpa using hq) (by
   cases q with
   | nil=>cases e;exact⟨[],rfl⟩
   | cons a q=>cases e;exact⟨_,rfl⟩) s1 nD.1
  exact W.ext hN k none h v u _ (λx z=>by cases z) (by simp only[mu];omega) i ((hN v u).mpr s2) (by simp) λm=>nD.2.2 u m u (n_.mpr rfl) rfl
theorem Web.uni'(W:Web n rs rk)(hN:∀v u,u∈N v↔Adj rs v u)(hk:18 < k){t:Int}{p q r:List Int}(e1:p=h::q)(e2:p=r++[t])(st:St (Adj rs) p)(nd:p.Nodup):Wy N k none h t=some p:=by
 subst e2;exact W.uni hN hk r.length r t rfl ⟨q,e1⟩ st nd
theorem Web.sub(W:Web n rs rk)(hs:∀r∈aL,r∈rs)(nd:aL.Nodup):Web n aL rk:=by
 have a:∀a b,Adj aL a b->Adj rs a b:=λa b h=>h.elim (λh=>.inl (hs _ h)) λh=>.inr (hs _ h)
 exact⟨W.n1,W.n8,λr hr=>W.lt r (hs r hr),nd,λx y h=>W.ne x y (a _ _ h),λx y h=>W.rk8 x y (a _ _ h),λv x y h1 h2=>W.one v x y (a _ _ h1) (a _ _ h2)⟩
theorem Web.only(W:Web n rs rk)(hN:∀v u,u∈N v↔Adj rs v u)(W':Web n aL rk)(kX:∀v u,u∈N' v↔Adj aL v u)(hs:∀r∈aL,r∈rs)(hk:18 < k){a b:Int}(ab:Adj rs a b)(ne:a≠b){p:List Int}(e:Wy N' k none a b=some p):Adj aL a b:=by
 have sub:∀a b,Adj aL a b->Adj rs a b:=λa b h=>h.elim (λh=>.inl (hs _ h)) λh=>.inr (hs _ h)
 obtain⟨q,e1,r,e2⟩:=se e;have h1:=W.uni' hN hk e1 e2 ((vJ kX e).mono sub) (W'.wy_nodup kX e);have h2:=W.uni' hN hk (h:=a) (t:=b) (p:=[a,b]) (q:=[b]) (r:=[a]) rfl rfl ⟨ab,trivial⟩ (by simp[ne]);rw[h1] at h2;cases h2;exact(vJ kX e).1
structure Wb0(n:Nat)(rs:List (Int×Int))(rk:Int->Nat):Prop where
 n1:1<=n
 n8:n<=8
 lt:∀r∈rs,0<=r.1/\r.1 < r.2/\r.2 < n
 nd:rs.Nodup
 ne:∀a b,Adj rs a b->rk a≠rk b
 one:∀v a b,Adj rs v a->Adj rs v b->rk a < rk v->rk b < rk v->a=b
noncomputable def lows(n:Nat)(rk:Int->Nat)(v:Int):Nat:=((Pk n).filter λu:Nat=>decide (rk u < rk v)).length
theorem ym{α:Type}{p q:α->Bool}:∀{l:List α}{x:α},(∀y,p y=true->q y=true)->x∈l->q x=true->p x=false->(l.filter p).length < (l.filter q).length
 | [],_,_,h,_,_=>by cases h
 | y::l,x,i,h,hq,hp=>by
  have le:∀l:List α,(l.filter p).length<=(l.filter q).length:=λl=>by
   induction l with
   | nil=>exact v_ _
   | cons z l ih =>
    by_cases c:p z=true
    ·rw[O6 c,O6 (i z c)];simpa using ih
    ·rw[Px c];by_cases d:q z=true
     ·rw[O6 d,OQ];omega
     ·rw[Px d];exact ih
  rcases r_.mp h with rfl | h
  ·rw[Px (by simp[hp]),O6 hq,OQ];have:=le l;omega
  ·have:=ym i h hq hp;by_cases c:p y=true
   ·rw[O6 c,O6 (i y c)];simpa using this
   ·rw[Px c];by_cases d:q y=true
    ·rw[O6 d,OQ];omega
    ·rw[Px d];exact this
theorem Wb0.web(W:Wb0 n rs rk):Web n rs (lows n rk):=by
 have eO:∀a b,Adj rs a b->∃x:Nat,x < n/\a=(x:Int):=λa b h=>by
  rcases h with h | h
  ·have:=W.lt _ h;simp only at this;exact⟨a.toNat,by omega,by omega⟩
  ·have:=W.lt _ h;simp only at this;exact⟨a.toNat,by omega,by omega⟩
 have up:∀a b,(∃x:Nat,x < n/\a=(x:Int))->rk a < rk b->lows n rk a < lows n rk b:=λa b ⟨x,hx,e⟩ l=>by
  subst e;refine ym (x:=x) (λy hy=>?_) (PF.mpr hx) (by simpa using l) (by simp);simp only[decide_eq_true_eq] at hy ⊢;omega
 have dn:∀a b,(∃x:Nat,x < n/\b=(x:Int))->lows n rk a < lows n rk b->rk a < rk b:=λa b hb l=>by
  rcases QV (rk a) (rk b) with z | z | z
  ·exact z
  ·unfold lows at l;rw[z] at l;omega
  ·have:=up b a hb z;omega
 refine⟨W.n1,W.n8,W.lt,W.nd,λa b h e=>?_,λa b h=>?_,λv a b h1 h2 l1 l2=>W.one v a b h1 h2 (dn _ _ (eO _ _ h1) l1) (dn _ _ (eO _ _ h1) l2)⟩
 ·have:=W.ne a b h
  rcases Nat.lt_or_gt_of_ne this with z | z
  ·have:=up a b (eO _ _ h) z;omega
  ·have:=up b a (eO _ _ h.symm) z;omega
 ·obtain⟨x,hx,rfl⟩:=eO a b h;have:lows n rk (x:Int) < ((Pk n).filter λ_:Nat=>true).length:=ym (x:=x) (λ_ _=>rfl) (PF.mpr hx) rfl (by simp);rw[List.filter_eq_self.mpr (λ_ _=>rfl),Rf] at this;have:=W.n8;omega
noncomputable def far(N:Int->List Int)(b v:Int):Nat:=((Wy N 20 none b v).getD []).length
theorem Web.wy_pre(W:Web n rs rk)(hN:∀v u,u∈N v↔Adj rs v u)(hk:18 < k){t u:Int}{p:List Int}(e:Wy N k none h t=some p)(hu:u∈p):∃q s,Wy N k none h u=some q/\p=q++s:=by
 obtain⟨a,b,rfl⟩:=Sk hu;obtain⟨q,e1,_⟩:=se e
 have st:∀(l m:List Int),St (Adj rs) (l++m)->St (Adj rs) l:=by
  intro l
  induction l with
  | nil=>intro _ _;trivial
  | cons x l ih =>
   intro m h;cases l with
   | nil=>trivial
   | cons y l=>exact⟨h.1,ih m h.2⟩
 have e3:a++u::b=(a++[u])++b:=by simp
 have s1:=vJ hN e;have s2:=W.wy_nodup hN e;rw[e3] at s1 s2;refine⟨a++[u],b,W.uni' hN hk (q:=(a++[u]).tail) (r:=a) ?_ rfl (st _ _ s1) (R0.mp s2).1,e3⟩;cases a with
 | nil=>cases e1;rfl
 | cons x a=>cases e1;rfl
theorem Web.wy_near(W:Web n rs rk)(hN:∀v u,u∈N v↔Adj rs v u)(hk:18 < k){v u:Int}{p:List Int}(e:Wy N k none h v=some p)(a:Adj rs v u):Wy N k none h u=some (p++[u])\/∃q,Wy N k none h u=some q/\p=q++[v]:=by
 by_cases m:u∈p
 ·obtain⟨q,s,e1,e2⟩:=W.wy_pre hN hk e m;refine .inr ⟨q,e1,?_⟩;by_cases m2:v∈q
  ·obtain⟨q',s',e3,e4⟩:=W.wy_pre hN hk e1 m2;rw[e] at e3;cases e3;have l1:s.length=0:=by have h1:=congrArg length e4;have h2:=congrArg length e2;rw[y_] at h1 h2;omega
   rw[O8.mp l1,PY] at e2;subst e2;obtain⟨_,_,r,z⟩:=se e;obtain⟨_,_,r',z'⟩:=se e1;rw[z] at z';have:=(SY z' rfl).2;cases this;exact absurd rfl (W.ne _ _ a)
  ·have:=W.ext hN k none h u v q (λx z=>by cases z) (by simp only[mu];omega) e1 ((hN u v).mpr a.symm) (by simp) m2;rw[e] at this;cases this;rfl
 ·exact .inl (W.ext hN k none h v u p (λx z=>by cases z) (by simp only[mu];omega) e ((hN v u).mpr a) (by simp) m)
theorem Web.more(W:Web n rs rk)(hN:∀v u,u∈N v↔Adj rs v u){a b:Int}(h0:0<=a)(h1:a < b)(h2:b < n)(no:Wy N 20 none b a=none)(nd:aL.Nodup)(hm:∀r,r∈aL↔r=(a,b)\/r∈rs):∃rk',Web n aL rk':=by
 obtain⟨C,hC⟩:∃C:Int->Prop,C=λv=>∃p,Wy N 20 none b v=some p:=⟨_,rfl⟩
 have cb:C b:=by rw[hC];exact⟨_,by rw[Wy,if_pos rfl]⟩
 have ca:¬C a:=by rw[hC];rintro⟨p,e⟩;rw[no] at e;cases e
 have cs:∀v u,Adj rs v u->C v->C u:=λv u h c=>by
  rw[hC] at c ⊢;obtain⟨p,e⟩:=c
  rcases W.wy_near hN (by omega) e h with z | ⟨q,z,_⟩
  ·exact⟨_,z⟩
  ·exact⟨_,z⟩
 have bI:∀v u,Adj rs v u->¬C v->¬C u:=λv u h c z=>c (cs u v h.symm z)
 have fb:far N b b=1:=by unfold far;rw[Wy,if_pos rfl];rfl
 have f1:∀v,C v->1<=far N b v:=λv c=>by
  rw[hC] at c;obtain⟨p,e⟩:=c;obtain⟨q,rfl,_⟩:=se e;unfold far;rw[e];simp
 have fn:∀v u,C v->Adj rs v u->(far N b u=far N b v+1)\/far N b v=far N b u+1:=λv u c h=>by
  rw[hC] at c;obtain⟨p,e⟩:=c
  rcases W.wy_near hN (by omega) e h with z | ⟨q,z,y⟩
  ·left;unfold far;rw[z,e];simp
  ·right;unfold far;rw[z,e,y];simp
 have fu:∀v x y,C v->Adj rs v x->Adj rs v y->far N b x < far N b v->far N b y < far N b v->x=y:=λv x y c hx hy lx ly=>by
  rw[hC] at c;obtain⟨p,e⟩:=c
  rcases W.wy_near hN (by omega) e hx with z | ⟨q,z,e1⟩
  ·unfold far at lx;rw[z,e] at lx;simp at lx;omega
  rcases W.wy_near hN (by omega) e hy with z' | ⟨q',z',e2⟩
  ·unfold far at ly;rw[z',e] at ly;simp at ly;omega
  rw[e1] at e2;have:=(SY e2 rfl).1;subst this;obtain⟨_,_,r,k1⟩:=se z;obtain⟨_,_,r',k2⟩:=se z';rw[k1] at k2;have:=(SY k2 rfl).2;cases this;rfl
 have bn:∀u,Adj rs b u->far N b b < far N b u:=λu h=>by
  rcases fn b u cb h with z | z
  ·omega
  ·have:=f1 u (cs b u h cb);omega
 have ad:∀x y,Adj aL x y↔Adj rs x y\/(x=a/\y=b)\/(x=b/\y=a):=λx y=>by
  unfold Adj;rw[hm,hm,RH,RH];constructor
  ·rintro((⟨h,h'⟩ | h) | (⟨h,h'⟩ | h))
   ·exact .inr (.inl ⟨h,h'⟩)
   ·exact .inl (.inl h)
   ·exact .inr (.inr ⟨h',h⟩)
   ·exact .inl (.inr h)
  ·rintro((h | h) | ⟨h,h'⟩ | ⟨h,h'⟩)
   ·exact .inl (.inr h)
   ·exact .inr (.inr h)
   ·exact .inl (.inl ⟨h,h'⟩)
   ·exact .inr (.inl ⟨h',h⟩)
 let rk':Int->Nat:=λv=>@ite _ (C v) (Classical.propDecidable _) (rk a+far N b v) (rk v)
 have r1:∀v,C v->rk' v=rk a+far N b v:=λv c=>if_pos c
 have r0:∀v,¬C v->rk' v=rk v:=λv c=>if_neg c
 refine⟨_,Wb0.web (rk:=rk') ⟨W.n1,W.n8,λr hr=>?_,nd,λx y h=>?_,λv x y hx hy lx ly=>?_⟩⟩
 ·rcases(hm r).mp hr with rfl | hr
  ·exact⟨h0,h1,h2⟩
  ·exact W.lt r hr
 ·rcases(ad x y).mp h with h | ⟨rfl,rfl⟩ | ⟨rfl,rfl⟩
  ·by_cases c:C x
   ·rw[r1 x c,r1 y (cs x y h c)]
    rcases fn x y c h with z | z<;>omega
   ·rw[r0 x c,r0 y (bI x y h c)];exact W.ne x y h
  ·rw[r0 _ ca,r1 _ cb,fb];omega
  ·rw[r0 _ ca,r1 _ cb,fb];omega
 ·rcases(ad v x).mp hx with hx | ⟨rfl,rfl⟩ | ⟨rfl,rfl⟩<;>rcases(ad v y).mp hy with hy | ⟨jw,rfl⟩ | ⟨jw,rfl⟩
  ·by_cases c:C v
   ·rw[r1 v c,r1 x (cs v x hx c)] at lx;rw[r1 v c,r1 y (cs v y hy c)] at ly;exact fu v x y c hx hy (by omega) (by omega)
   ·rw[r0 v c,r0 x (bI v x hx c)] at lx;rw[r0 v c,r0 y (bI v y hy c)] at ly;exact W.one v x y hx hy lx ly
  ·subst jw;rw[r0 _ ca,r1 _ cb,fb] at ly;omega
  ·subst jw;have:=bn x hx;rw[r1 v cb,r1 x (cs v x hx cb)] at lx;omega
  ·rw[r0 _ ca,r1 _ cb,fb] at lx;omega
  ·rfl
  ·rw[r0 _ ca,r1 _ cb,fb] at lx;omega
  ·have:=bn y hy;rw[r1 v cb,r1 y (cs v y hy cb)] at ly;omega
  ·subst jw;exact absurd cb ca
  ·rfl
end
noncomputable def wyR(o:Option (List Int)):R:=match o.map (·.map D.int) with
 | some l=>.own l
 | none=>.val .non
theorem Gz{p:Int->Bool}{f:Int->Option (List Int)}{u:Int}{q:List Int}(hu:l[i]?=some u)(hp:p u=true)(hf:f u=some q)(hn:∀x∈(l.take i).filter p,f x=none):(l.filter p).findSome? f=some q:=by
 obtain⟨hi,hu⟩:=p_.mp hu
 have e:l=l.take i++u::l.drop (i+1):=by
  rw[←hu,←O3 hi,Qm]
 rw[e,PQ,List.findSome?_append,QM.mpr hn,O6 hp,TY,hf];rfl
theorem JC{rk:Int->Nat}(W:Web n rs rk):∀(k:Nat) (c:Option Int) (h t:Int),k<=100->0<=h->h < n->(∀x,c=some x->Adj rs x h)->mu rk c h < k->wpF (tP k) ([webD n rs,cameD c,D.int h,D.int t].map .val) λr _=>r=wyR (Wy (nbs rs) k c h t):=by
 intro k
 induction k with
 | zero=>intro c h t _ _ _ _ hm;omega
 | succ k ih =>
  intro c h t qh h0 h1 hc hm;have e1:=uL W h0 h1;rw[tP];refine sC rfl λKE hE _=>?_
  rw[vG];rw[Wy] at hE;refine qR ?_;rintro K hK hR;by_cases ht:h=t
  ·rw[if_pos ht] at hE;subst ht;simp[dep,sx];exact hR _ _ (hE _ _ ⟨_,rfl,rfl⟩)
  ·rw[if_neg ht] at hE;simp[dep,sx,ht];refine hK _ ?_;refine qR ?_;rintro K hK iz;simp[e1];refine rO (J:=λi Y=>∃x4 x5,(∀u∈((nbs rs h).take i).filter λu=>decide (some u≠c),Wy (nbs rs) k (some h) u t=none)/\Y=[some (.val (webD n rs)),some (.val (cameD c)),some (.val (.int h)),some (.val (.int t)),x4,x5]) ⟨none,none,by simp,rfl⟩ ?_ ?_
   ·rintro i d Y hd ⟨x4,x5,no,rfl⟩ KL aH - - fy;rw[B_,G_] at hd;obtain⟨u,hu,rfl⟩:=hd;have tk:(nbs rs h).take (i+1)=(nbs rs h).take i++[u]:=by rw[Qv,hu];rfl
    have au:=(W.nb h u).mp (K_ hu);have un:=W.in_n au;refine⟨_,_,rfl,?_⟩;show wp _ [some (.val (webD n rs)),some (.val (cameD c)),some (.val (.int h)),some (.val (.int t)),some (.val (.int u)),x5] _;by_cases uc:some u=c
    ·simp[dep,t9,uc];refine aH _ ⟨_,_,λx hx=>no x ?_,rfl⟩;rw[tk,PQ] at hx;simpa[uc] using hx
    ·have lt:=W.mu_lt hc au uc;have w1:=ih (some h) u t (by omega) (by omega) (by omega) (λx z=>by cases z;exact au) (by omega);obtain⟨m1,m2⟩:=yn w1;simp[dep,t9,uc];refine qR ?_;rintro K2 bK -;cases e:Wy (nbs rs) k (some h) u t with
     | some q =>
      have e3:=m1 _ (by rw[e];rfl);have lq:=(sk e).2;simp only[xa];refine Ef rfl e3 ?_;refine⟨by simp,bK _ ?_⟩;clear bK;show wp _ [some (.val (webD n rs)),some (.val (cameD c)),some (.val (.int h)),some (.val (.int t)),some (.val (.int u)),some (.val (.lst (q.map D.int)))] _;simp[isN];refine⟨by omega,fy _ _ (iz _ _ (hE _ _ ⟨_,rfl,?_⟩))⟩;rw[Gz hu (by simpa using uc) e no];rfl
     | none =>
      have e3:=m2 (by rw[e];rfl);simp only[xa];refine Aq rfl e3 ?_;refine⟨by simp,bK _ ?_⟩;clear bK;show wp _ [some (.val (webD n rs)),some (.val (cameD c)),some (.val (.int h)),some (.val (.int t)),some (.val (.int u)),some (.val .non)] _;simp[isN];refine aH _ ⟨_,_,λx hx=>?_,rfl⟩;rw[tk,PQ] at hx
      rcases D_.mp hx with hx | hx
      ·exact no x hx
      ·rw[n_.mp (A_.mp hx).1];exact e
   ·rintro Y ⟨x4,x5,no,rfl⟩;rw[w_,PP] at no;refine hK _ ?_;refine⟨_,_,rfl,?_⟩;refine hE _ _ ⟨_,rfl,?_⟩;rw[QM.mpr no];rfl
theorem Ep{rk:Int->Nat}(W:Web n rs rk){a b:Int}(a0:0<=a)(a1:a < n)(b0:0<=b)(b1:b < n):wpF vn ([webD n rs,D.int a,D.int b].map .val) λr _=>r=wyR (Wy (nbs rs) 21 none a b):=by
 have e1:=uv (rs:=rs) a0 a1;have e2:=uv (rs:=rs) b0 b1;have w:=JC W 21 none a b (by omega) a0 a1 (λx z=>by cases z) (by simp[mu])
 change wpF (tP 21) ([webD n rs,D.non,D.int a,D.int b].map .val) _ at w
 obtain⟨m1,m2⟩:=yn w;refine sC rfl λKE hE _=>?_
 rw[zU];refine qR ?_;rintro K hK -;simp[e1];refine hK _ ?_;refine qR ?_;rintro K hK -;simp[e2];refine hK _ ?_;cases e:Wy (nbs rs) 21 none a b with
 | some q =>
  rw[e] at hE;exact EQ rfl (m1 _ (by rw[e];rfl)) (hE _ _ ⟨_,rfl,rfl⟩)
 | none =>
  rw[e] at hE;exact Lb rfl (m2 (by rw[e];rfl)) (hE _ _ ⟨_,rfl,rfl⟩)
theorem vU{rk:Int->Nat}{f:Nat}{hs:HS}(W:Web n rs rk)(hw:∀p∈hs,Wf f p.2)(h1:1<=f)(hf:f<=3)(hl:hs.length<=18){c:Int}(a:Adj rs c h):coF sf [webD n rs,hsD hs,howD sp,.int c,.int h]=some ((tl sp (nbs rs) hs 20 (some c) h).map wishD):=by
 have e1:=AE (sp:=sp) W hw h1 hf hl 20 c h a (sN W a);have e2:=DT W a;have e3:=y8 (ps:=hs) (by omega)
 have e4:cvF rY [.lst ((hs.map (·.2)).map wishD)]=some .non:=vd (n:=f) λd hd=>by
  obtain⟨w,ce,rfl⟩:=z_.mp hd;obtain⟨p,hp,rfl⟩:=z_.mp ce;exact⟨_,rfl,by rw[w_];exact(hw p hp).len⟩
 refine tG rfl λKE k1=>?_
 rw[zH];refine qR ?_;rintro K hK -
 change coF tf [hsD hs]=_ at e3
 generalize (hs.map (·.2)).map wishD=ws at e3 e4;simp[e3,e4];refine hK _ ?_;refine qR ?_;rintro K hK -;simp[e2];refine hK _ ?_;simp[e1];exact k1 _ ⟨_,rfl⟩
section
variable{rk:Int->Nat}{f:Nat}{hs:HS}
theorem wA(W:Web n rs rk):∀(k k':Nat) (c:Option Int) (h:Int),(∀x,c=some x->Adj rs x h)->mu rk c h < k->mu rk c h < k'->Wl (nbs rs) k c h=Wl (nbs rs) k' c h
 | 0,_,_,_,_,h1,_=>by omega
 | k+1,0,_,_,_,_,h2=>by omega
 | k+1,k'+1,c,h,hc,h1,h2=>by
  rw[Wl,Wl]
  congr 1
  refine CU λu hu=>?_
  rw[A_,decide_eq_true_eq] at hu;have au:=(W.nb h u).mp hu.1;have lt:=W.mu_lt hc au hu.2;exact wA W k k' (some h) u (λx z=>by cases z;exact au) (by omega) (by omega)
theorem CB(W:Web n rs rk){u t:Int}{p:List Int}(hu:u∈nbs rs h)(uc:some u≠c)(e:Wy (nbs rs) k (some h) u t=some p):Wy (nbs rs) (k+1) c h t=some (h::p):=by
 have au:=(W.nb h u).mp hu
 have ht:h≠t:=λz=>by
  have:=(sk e).1;rw[←z] at this;exact W.back W.nb au this
 rw[Wy,if_neg ht,xg (x:=u) (r:=p) (A_.mpr ⟨hu,by simpa using uc⟩) e λy hy z=>?_]
 ·rfl
 ·rw[A_] at hy;obtain⟨q,z⟩:=Rb.mp z;exact W.apart W.nb ((W.nb h y).mp hy.1) au (sk z).1 (sk e).1
theorem Ad{a b:Int}{p:List Int}{r:Int×Int}:r∈(a::b::p).zip (b::p)↔r=(a,b)\/r∈(b::p).zip p:=by
 rw[Qc,r_]
theorem wD(W:Web n rs rk):∀(k:Nat) (c:Option Int) (h:Int),(∀x,c=some x->Adj rs x h)->mu rk c h < k->∀r:Int×Int,r∈RO rs hs l k c h↔∃v p,wants hs l v=true/\Wy (nbs rs) k c h v=some p/\r∈p.zip p.tail
 | 0,_,_,_,hm,_=>by omega
 | k+1,c,h,hc,hm,r=>by
  rw[RO,OY];constructor
  ·rintro⟨u,hu,m⟩;rw[A_,OP,decide_eq_true_eq] at hu;have au:=(W.nb h u).mp hu.1;have lt:=W.mu_lt hc au hu.2.1;have aJ:∀x,some h=some x->Adj rs x u:=λx z=>by cases z;exact au
   rcases r_.mp m with rfl | m
   ·obtain⟨v,hv,z⟩:=O'.mp hu.2.2;rw[wA W 20 k (some h) u aJ (sN W au) (by omega)] at hv;obtain⟨p,e⟩:=W.wy_some W.nb k (some h) u v aJ (by omega) hv;obtain⟨q,rfl,_⟩:=se e;exact⟨v,_,z,CB W hu.1 hu.2.1 e,by rw[UK];exact Ad.mpr (.inl rfl)⟩
   ·obtain⟨v,p,z,e,m⟩:=(wD W k (some h) u aJ (by omega) r).mp m;obtain⟨q,rfl,_⟩:=se e;exact⟨v,_,z,CB W hu.1 hu.2.1 e,by rw[UK];exact Ad.mpr (.inr m)⟩
  ·rintro⟨v,p,z,e,m⟩;rw[Wy] at e;by_cases ht:h=v
   ·rw[if_pos ht] at e;cases e;simp at m
   ·rw[if_neg ht,G_] at e;obtain⟨q,e,rfl⟩:=e;obtain⟨u,hu,e⟩:=OW e;rw[A_,decide_eq_true_eq] at hu;have au:=(W.nb h u).mp hu.1;have lt:=W.mu_lt hc au hu.2;have aJ:∀x,some h=some x->Adj rs x u:=λx z=>by cases z;exact au
    obtain⟨q',rfl,_⟩:=se e;refine⟨u,A_.mpr ⟨hu.1,?_⟩,?_⟩
    ·rw[OP,decide_eq_true_eq];refine⟨hu.2,O'.mpr ⟨v,?_,z⟩⟩;rw[wA W 20 k (some h) u aJ (sN W au) (by omega)];exact(sk e).1
    ·rw[UK] at m
     rcases Ad.mp m with rfl | m
     ·exact j_
     ·exact h_ _ ((wD W k (some h) u aJ (by omega) r).mpr ⟨v,_,z,e,m⟩)
theorem EU(W:Web n rs rk){v:Int}(z:wants hs l v=true)(m:v∈Wl (nbs rs) 20 none h):v∈h::(RO rs hs l 20 none h).map (·.2):=by
 obtain⟨p,e⟩:=W.wy_some W.nb 20 none h v (λx z=>by cases z) (by simp[mu]) m;obtain⟨q,e1,r,e2⟩:=se e
 rcases Tj r with rfl | ⟨r',u,rfl⟩
 ·rw[e1] at e2;cases e2;exact j_
 ·refine h_ _ (z_.mpr ⟨(u,v),(wD W 20 none h (λx z=>by cases z) (by simp[mu]) _).mpr ⟨v,p,z,e,?_⟩,rfl⟩);rw[Tk] at e2;rw[e2];clear e1 e2 e
  have:∀s:List Int,(u,v)∈(s++[u]++[v]).zip (s++[u]++[v]).tail:=λs=>by
   induction s with
   | nil=>simp
   | cons a s ih =>
    cases s with
    | nil=>simp
    | cons b s =>
     simp only[List.cons_append,UK,Qc] at ih ⊢;exact h_ _ ih
  exact this r'
theorem F4(W:Web n rs rk):(RO rs hs l k c h).Nodup:=by
 have:=(W.nodup W.nb W.nb_nodup k c h).sublist (vE (rs:=rs) (hs:=hs) (l:=l) k c h);rw[Pc] at this;exact of_map (λp:Int×Int=>p.2) (λa b z e=>z (by rw[e])) this.2
theorem B4{N:Int->List Int}:∀(k:Nat) (c:Option Int) (h:Int) (w:List (Int×Int)),w∈tl sp N hs k c h->w∈bW N hs k c h
 | 0,_,_,_,m=>by cases m
 | k+1,c,h,w,m=>by
  rw[tl] at m;rw[wf];have:=zM m;unfold argW at this
  rcases D_.mp this with m | m
  ·exact O_ _ m
  ·obtain⟨u,hu,m⟩:=OY.mp m;exact OH _ (OY.mpr ⟨u,hu,B4 k (some h) u w m⟩)
theorem we{w:List (Int×Int)}:w∈bW N hs k c h↔∃p∈hs,p.1∈Wl N k c h/\p.2=w:=by
 unfold bW;rw[OY];constructor
 ·rintro⟨v,hv,m⟩;obtain⟨p,hp,rfl,rfl⟩:=u4 m;exact⟨p,hp,hv,rfl⟩
 ·rintro⟨p,hp,m,rfl⟩;exact⟨p.1,m,z_.mpr ⟨p,A_.mpr ⟨hp,by simp⟩,rfl⟩⟩
theorem IsRoof.more{ws vs R:WS}(aB:∀u∈ws,Wf f u){w w':List (Int×Int)}(hw:w∈ws)(ce:Wf f w')(cv:covB w w'=true)(a:IsRoof ws R)(m:∀u,u∈vs↔u∈ws\/u=w'):IsRoof vs R:=by
 have lw:=(aB w hw).len;have kY:=ce.len;refine⟨a.up,a.nd,λu=>?_⟩;rw[a.mem,m]
 have und:∀u,Wf f u->(undB vs u=true↔undB ws u=true):=λu hu=>by
  rw[tN,tN];constructor
  ·rintro⟨x,hx,ne,c⟩
   rcases(m x).mp hx with hx | rfl
   ·exact⟨x,hx,ne,c⟩
   ·refine⟨w,hw,λz=>?_,xc (by rw[lw,kY]) (by rw[kY,hu.len]) cv c⟩;subst z;exact ne (z5 (by rw[kY,lw]) c cv)
  ·rintro⟨x,hx,ne,c⟩;exact⟨x,(m x).mpr (.inl hx),ne,c⟩
 constructor
 ·rintro⟨h1,h2⟩;refine⟨.inl h1,?_⟩;rw[←TJ,und u (aB u h1),h2];decide
 ·rintro⟨h1 | rfl,h2⟩
  ·exact⟨h1,by rw[←TJ,←und u (aB u h1),h2];decide⟩
  ·by_cases e:w=u
   ·subst e;exact⟨hw,by rw[←TJ,←und _ ce,h2];decide⟩
   ·have:undB vs u=true:=tN.mpr ⟨w,(m w).mpr (.inl hw),e,cv⟩;rw[h2] at this;cases this
theorem Cj(W:Web n rs rk){df:HS}(hw:∀p∈hs,Wf f p.2)(ce:∀p∈df,Wf f p.2){c:Int}(a:Adj rs c h)(m:∀R,IsRoof (bW (nbs rs) hs 20 (some c) h) R->IsRoof (bW (nbs rs) df 20 (some c) h) R):tl false (nbs rs) df 20 (some c) h=tl false (nbs rs) hs 20 (some c) h:=by
 have r1:=v7 W hw 20 (some c) h (λx z=>by cases z;exact a) (sN W a);have r2:=v7 W ce 20 (some c) h (λx z=>by cases z;exact a) (sN W a);exact r2.alone (m _ r1)
end
theorem Mh(h:ps.Perm qs):(sortP ps).map pairD=(sortP qs).map pairD:=by
 have up:∀ps:List (Int×Int),((sortP ps).map pairD).Pairwise λa b=>leD a b=true:=λps=>by
  rw[Sw];exact SU (le:=λp q=>leD (pairD p) (pairD q)) (λa b c=>BK (pairD a) (pairD b) (pairD c)) (λa b=>CQ (pairD a) (pairD b)) ps
 have pm:∀ps:List (Int×Int),(sortP ps).Perm ps:=λps=>Rl _ _
 refine u3 _ _ ((((pm ps).trans h).trans (pm qs).symm).map _) (up ps) (up qs) λa ha b hb l1 l2=>?_
 obtain⟨x,_,rfl⟩:=z_.mp ha;obtain⟨y,_,rfl⟩:=z_.mp hb;have c:cmB (pairD x) (pairD y)=true:=by simp[pairD,cmB,cmA]
 refine uM _ _ c ?_;rw[uf _ _ c];unfold leD at l1 l2;rw[l1,l2];rfl
theorem GI{p:Int×Int}:p∈sortP ps↔p∈ps:=(Rl _ _).mem_iff
noncomputable def hAt(hs:HS)(k:Nat):Int×List (Int×Int):=hs.getD k (0,[])
theorem wb{hs:HS}(h:k < hs.length):hs[k]?=some (hAt hs k):=by
 unfold hAt;rw[i_,f_ h];rfl
noncomputable def gvK(hs:HS)(P:Int×List (Int×Int)->Bool):List D:=((Pk hs.length).filter λk=>P (hAt hs k)).map λk:Nat=>D.int k
theorem yN:∀(hs:HS) (n:Nat),numD n (hs.map holdD)=(hs.zipIdx n).map λq=>D.tup [.int q.2,holdD q.1]
 | [],n=>rfl
 | p::hs,n=>by
  rw[F_,numD,yN hs (n+1),Ss,F_]
theorem A4{hs:HS}:hs.zipIdx 0=(Pk hs.length).map λk=>(hAt hs k,k):=by
 refine UD λi=>?_
 rw[List.getElem?_zipIdx,B_];by_cases h:i < hs.length
 ·rw[wb h,TZ h];simp
 ·rw[Pv (by omega),Pv (by simpa using h)];rfl
theorem Ju{hs:HS}{P:Int×List (Int×Int)->Bool}:((hs.zipIdx 0).filter λq=>P q.1).map (λq=>D.int q.2)=gvK hs P:=by
 rw[A4,List.filter_map,Rr];rfl
section
variable{rk:Int->Nat}{f:Nat}{hs:HS}
noncomputable def gvL(hs:HS)(l:List Int)(S:List Int):List D:=gvK hs λp=>decide (p.1∈S)&&hasB p.2 l
theorem Ld{S T:List Int}(h:∀v,v∈S↔v∈T):gvL hs l S=gvL hs l T:=by
 unfold gvL
 congr 1
 funext p
 simp[h]
end
section
variable{rk:Int->Nat}{f:Nat}{hs:HS}
theorem Ei(W:Web n rs rk)(hw:∀p∈hs,Wf f p.2)(h1:1<=f)(hf:f<=3)(hl:hs.length<=18)(ll:l.length=f)(h0:0<=h)(hn:h < n):cvF t5 [webD n rs,hsD hs,howD sp,.int h,letD l]=some (.tup [.lst ((sortP (RO rs hs l 20 none h)).map pairD),.lst (gvL hs l (h::(sortP (RO rs hs l 20 none h)).map (·.2)))]):=by
 have e1:=y8 (ps:=hs) (by omega)
 have e2:cvF rY [.lst (letD l::(hs.map (·.2)).map wishD)]=some .non:=vd (n:=f) λd hd=>by
  rcases r_.mp hd with rfl | hd
  ·exact⟨_,rfl,by rw[w_];exact ll⟩
  ·obtain⟨w,ce,rfl⟩:=z_.mp hd;obtain⟨p,hp,rfl⟩:=z_.mp ce;exact⟨_,rfl,by rw[w_];exact(hw p hp).len⟩
 have e3:=uv (rs:=rs) h0 hn;have e4:=ES (sp:=sp) W hw h1 hf hl ll 20 none h h0 hn (λx z=>by cases z) (by simp[mu]);have e4:cvF (tE 20) [webD n rs,hsD hs,howD sp,.non,.int h,letD l]=some (.lst ((RO rs hs l 20 none h).map pairD)):=e4;have l8:=Ae (hs:=hs) (l:=l) (k:=20) (c:=none) W h0 hn;obtain⟨S,e5,pS,hS⟩:=Bn (ps:=RO rs hs l 20 none h) (by omega);rw[←hS];have lS:=pS.length_eq
 have hT:∀q:(Int×List (Int×Int))×Nat,q∈hs.zipIdx 0->cvF tR [wishD q.1.2,letD l]=some (.bl (hasB q.1.2 l)):=λq m=>by
  have:=List.fst_mem_of_mem_zipIdx m;exact xK (by rw[(hw _ this).len,ll]) (by rw[(hw _ this).len];omega)
 refine rS rfl λKE k1 _=>?_
 rw[zg];refine qR ?_;rintro K hK -
 change coF tf [hsD hs]=_ at e1
 have lw:((hs.map (·.2)).map wishD).length=hs.length:=by simp
 generalize (hs.map (·.2)).map wishD=ws at e1 e2 lw;simp[e1,e2];refine⟨by omega,hK _ ?_⟩;refine qR ?_;rintro K hK -;simp[e3];refine hK _ ?_;refine qR ?_;rintro K hK -;simp[e4,e5];refine hK _ ?_;refine qR ?_;rintro K hK -;simp;refine sd S pairD (λ_=>true) (λp=>.int p.2) ?_;simp;refine⟨by omega,by omega,hK _ ?_⟩;have eR:D.int h::S.map (λp=>D.int p.2)=(h::S.map (·.2)).map D.int:=by rw[F_,Rr];rfl
 rw[eR];generalize h::S.map (·.2)=Rc at k1 ⊢;refine qR ?_;rintro K hK -;simp;refine wx (hs.zipIdx 0) (λq=>.tup [.int q.2,holdD q.1]) (λq=>decide (q.1.1∈Rc)&&hasB q.1.2 l) (λq=>.int q.2) ?_;simp[hsD,yN];refine⟨by omega,λa b q m=>?_,hK _ ?_⟩
 ·have hT:=hT _ m;by_cases c:a∈Rc
  ·simp[c,hT]
  ·simp[c]
 ·rw[Ju (P:=λp=>decide (p.1∈Rc)&&hasB p.2 l)];simp;exact k1 _ ⟨_,rfl⟩
end
theorem Cf{c:M Bool}{A h:M Fl}{QS:Fl->Gm->Prop}(e:c Y=some (false,Y))(hh:wp h Y QS):wp (seqS (ifS c A (ret .nx)) h) Y QS:=
 qR λK hK hR=>⟨.nx,Y,by simp[ifS,bnd,e,ret],hK _ hh⟩
theorem Fw{gk:M D}{p:Int×Int}{Q:Fl->Gm->Prop}(e1:gv Y=some (d,Y))(e2:Y[i]?=some (some (.dic ag)))(e3:gk Y=some (pairD p,Y))(hl:ag.length < lim)(k:Q .nx (Y.set i (some (.dic (putD ag p d))))):wp (putP i gk gv) Y Q:=
 ⟨.nx,_,by simp only[putP,bnd,e1,lookK,e2,e3,wrK,putPF,pairD,if_pos hl],k⟩
theorem Lh{gb:M D}{aj:Gm}{Q:D->Gm->Prop}(e1:Y[i]?=some (some (.dic ag)))(e2:gb (Y.map hidK)=some (d,aj))(h:ag.length < 64)(hd:dep d<=100)(k:Q (.bl (deq (.lst (sortD (keysD ag))) d)) Y):wp (srtEq i gb) Y Q:=
 ⟨_,Y,by simp only[srtEq,e1,e2,if_pos (And.intro h hd)],k⟩
theorem Ey:sortD (ps.map pairD)=(sortP ps).map pairD:=by
 unfold sortD sortP;exact(Sm (s:=leD) (f:=pairD) λa _ b _=>rfl).symm
theorem JP{k:Int×Int}:(putD ag k d).map (·.1)=if k∈ag.map (·.1) then ag.map (·.1) else ag.map (·.1)++[k]:=by
 have e:(ag.any λkv=>decide (kv.1=k))=decide (k∈ag.map (·.1)):=by
  rw[Q0,O',decide_eq_true_eq,z_];constructor
  ·rintro⟨x,hx,z⟩;exact⟨x,hx,by simpa using z⟩
  ·rintro⟨x,hx,z⟩;exact⟨x,hx,by simpa using z⟩
 unfold putD;rw[e];by_cases c:k∈ag.map (·.1)
 ·rw[if_pos (by rw[decide_eq_true c]),if_pos c,Rr];refine TX λx _=>?_
  simp only[comp];split<;>rfl
 ·rw[if_neg (by rw[decide_eq_false c];decide),if_neg c,Qs];rfl
section
variable{rk:Int->Nat}{f:Nat}{hs:HS}
theorem Jn{S:List Int}(hk:k < hs.length):((gvL hs l S).any λd=>deq d (.int k))=(decide ((hAt hs k).1∈S)&&hasB (hAt hs k).2 l):=by
 rw[Q0,O'];unfold gvL gvK;constructor
 ·rintro⟨d,hd,z⟩;obtain⟨j,hj,rfl⟩:=z_.mp hd;rw[sx,decide_eq_true_eq] at z;have:j=k:=by omega
  subst this;exact(A_.mp hj).2
 ·intro z;exact⟨.int k,z_.mpr ⟨k,A_.mpr ⟨PF.mpr hk,z⟩,rfl⟩,by rw[sx];simp⟩
theorem xw{v:Int}:wants hs l v=true↔∃k,k < hs.length/\(hAt hs k).1=v/\hasB (hAt hs k).2 l=true:=by
 unfold wants;rw[O'];constructor
 ·rintro⟨p,hp,z⟩;obtain⟨k,hk,e⟩:=QK hp
  have:hAt hs k=p:=by
   have:=wb hk;rw[f_ hk,e] at this;exact(OL this).symm
  rw[OP,decide_eq_true_eq] at z;exact⟨k,hk,by rw[this];exact z.1,by rw[this];exact z.2⟩
 ·rintro⟨k,hk,e1,e2⟩;exact⟨hAt hs k,K_ (wb hk),by rw[e2];simp[e1]⟩
theorem Hx{p:List Int}:pairsD (p.map D.int) ((p.drop 1).map D.int)=(p.zip p.tail).map pairD:=by
 unfold pairsD;rw[List.zip_map,Rr,List.drop_one];rfl
theorem Ij(W:Web n rs rk)(hw:∀p∈hs,Wf f p.2)(hh:∀p∈hs,0<=p.1/\p.1 < n)(h1:1<=f)(hf:f<=3)(hl:hs.length<=8)(ll:l.length=f)(h0:0<=h)(hn:h < n):cvF uU [webD n rs,hsD hs,.int h,letD l]=some (.bl true):=by
 have e1:=Ei (sp:=false) W hw h1 hf (by omega) ll h0 hn;have e2:=Ei (sp:=true) W hw h1 hf (by omega) ll h0 hn;have fu:RO rs hs l 20 none h=RO rs hs l 21 none h:=Du W 20 21 none h (λx z=>by cases z) (by simp[mu]) (by simp[mu]);have jO:=wD (hs:=hs) (l:=l) W 21 none h (λx z=>by cases z) (by simp[mu]);have nd:=F4 (hs:=hs) (l:=l) (k:=21) (c:=none) (h:=h) W;have l8:=Ae (hs:=hs) (l:=l) (k:=21) (c:=none) W h0 hn;have sub:=vE (rs:=rs) (hs:=hs) (l:=l) 21 none h
 have jP:∀v,wants hs l v=true->v∈Wl (nbs rs) 21 none h->v∈h::(RO rs hs l 21 none h).map (·.2):=λv z m=>by
  rw[←fu];refine EU W z ?_;rw[wA W 20 21 none h (λx z=>by cases z) (by simp[mu]) (by simp[mu])];exact m
 rw[fu] at e1 e2;generalize RO rs hs l 21 none h=RR at *
 have mS:∀v,v∈h::(sortP RR).map (·.2)↔v∈h::RR.map (·.2):=λv=>by
  rw[r_,r_];simp only[z_,GI]
 rw[Ld mS] at e1 e2
 -- what the k-th hold fD
 have given:∀k,k < hs.length->((gvL hs l (h::RR.map (·.2))).any λd=>deq d (.int k))=(decide ((hAt hs k).1∈h::RR.map (·.2))&&hasB (hAt hs k).2 l):=λk hk=>Jn hk
 have qI:dep (.lst (gvL hs l (h::RR.map (·.2))))<=1:=by
  rw[dep]
  have:=tx (ds:=gvL hs l (h::RR.map (·.2))) (n:=0) λd hd=>by
   obtain⟨k,_,rfl⟩:=z_.mp hd;simp[dep]
  omega
 have qJ:dep (.lst ((sortP RR).map pairD))<=2:=by
  rw[dep]
  have:=tx (ds:=(sortP RR).map pairD) (n:=1) λd hd=>by
   obtain⟨p,_,rfl⟩:=z_.mp hd;exact CY
  omega
 generalize gvL hs l (h::RR.map (·.2))=gv at *;refine rS rfl λKE k1 _=>?_
 rw[xP];refine qR ?_;rintro K hK -
 change cvF t5 [webD n rs,hsD hs,.str "roof", .int h,letD l]=_ at e1
 change cvF t5 [webD n rs,hsD hs,.str "spare", .int h,letD l]=_ at e2
 simp[e1];refine hK _ ?_;refine qR ?_;rintro K hK -;simp[e2,sg,dep];refine⟨by simp only[dep,depA] at *;omega,hK _ ?_⟩;refine qR ?_;rintro K hK -;refine⟨_,_,rfl,hK _ ?_⟩;show wp _ [some (.val (webD n rs)),some (.val (hsD hs)),some (.val (.int h)),some (.val (letD l)),some (.val (.lst ((sortP RR).map pairD))),some (.val (.lst gv)),some (.dic []),none,none,none,none,none] _;refine qR ?_;rintro K hK hR;simp[hsD,yN];obtain⟨J,hJ⟩:∃J:Nat->Gm->Prop,∀i Y,J i Y↔∃(ag:List ((Int×Int)×D)) (x7 x8 x9 eP cy:Option R),(ag.map (·.1)).Nodup/\(∀r∈ag.map (·.1),r∈RR)/\(∀k,k < i->k < hs.length->(decide ((hAt hs k).1∈h::RR.map (·.2))&&hasB (hAt hs k).2 l)=true->∀p,Wy (nbs rs) 21 none h (hAt hs k).1=some p->∀r∈p.zip p.tail,r∈ag.map (·.1))/\Y=[some (.val (webD n rs)),some (.val (hsD hs)),some (.val (.int h)),some (.val (letD l)),some (.val (.lst ((sortP RR).map pairD))),some (.val (.lst gv)),some (.dic ag),x7,x8,x9,eP,cy]:=⟨_,λ_ _=>UG⟩;refine rO (J:=J) ((hJ _ _).mpr ⟨[],none,none,none,none,none,by simp,by simp,by omega,rfl⟩) ?_ ?_
 ·rintro i d Y hd j KL aH - - qK;obtain⟨ag,x7,x8,x9,eP,cy,kn,kr,kd,rfl⟩:=(hJ _ _).mp j;clear j;rw[B_,G_] at hd;obtain⟨⟨⟨bi,w⟩,i'⟩,hd,rfl⟩:=hd;rw[A4,B_,G_] at hd;obtain⟨i2,hi,e0⟩:=hd
  have ba:i < hs.length:=by
   have:=(p_.mp hi).1;simpa using this
  have:i2=i:=by
   rw[TZ ba] at hi;exact(OL hi).symm
  subst this;have e3:hAt hs i2=(bi,w):=by injection e0
  have e4:i'=i2:=by injection e0 with _ z;exact z.symm
  subst e4;have mem:(bi,w)∈hs:=by rw[←e3];exact K_ (wb ba)
  have ww:=hw _ mem;have wh:=hh _ mem;simp only at ww wh;have eh:=xK (w:=w) (l:=l) (by rw[ww.len,ll]) (by rw[ww.len];omega);have eg:=given i' ba;rw[e3] at eg;simp only at eg;have bt:=yn (o:=(Wy (nbs rs) 21 none h bi).map (·.map D.int)) (Ep W h0 hn wh.1 wh.2);have qL:=kd
  have nx:∀(aX:List ((Int×Int)×D)) (x7 x8 x9 eP cy:Option R),(aX.map (·.1)).Nodup->(∀r∈aX.map (·.1),r∈RR)->(∀r∈ag.map (·.1),r∈aX.map (·.1))->((decide (bi∈h::RR.map (·.2))&&hasB w l)=true->∀p,Wy (nbs rs) 21 none h bi=some p->∀r∈p.zip p.tail,r∈aX.map (·.1))->KL .nx [some (.val (webD n rs)),some (.val (hsD hs)),some (.val (.int h)),some (.val (letD l)),some (.val (.lst ((sortP RR).map pairD))),some (.val (.lst gv)),some (.dic aX),x7,x8,x9,eP,cy]:=λaX x7 x8 x9 eP cy a1 a2 a3 a4=>aH _ ((hJ _ _).mpr ⟨aX,x7,x8,x9,eP,cy,a1,a2,λk hk bp c p e r hr=>by
   by_cases z:k=i'
   ·subst z;rw[e3] at c e;exact a4 c p e r hr
   ·exact a3 r (kd k (by omega) bp c p e r hr),rfl⟩)
  clear aH kd hJ hK hR given;refine⟨_,_,rfl,?_⟩;show wp _ [some (.val (webD n rs)),some (.val (hsD hs)),some (.val (.int h)),some (.val (letD l)),some (.val (.lst ((sortP RR).map pairD))),some (.val (.lst gv)),some (.dic ag),some (.val (.int i')),some (.val (.int bi)),some (.val (wishD w)),eP,cy] _
  have cw:(decide (bi∈h::RR.map (·.2))&&hasB w l)=true->∃p,Wy (nbs rs) 21 none h bi=some p:=λc=>by
   rw[OP,decide_eq_true_eq] at c;refine W.wy_some W.nb 21 none h bi (λx z=>by cases z) (by simp[mu]) (sub.subset c.1)
  have hc:∀p,Wy (nbs rs) 21 none h bi=some p->(decide (bi∈h::RR.map (·.2))&&hasB w l)=hasB w l:=λp e=>by
   cases b:hasB w l with
   | false=>rw[Ts]
   | true =>
    rw[Ua,decide_eq_true_eq];exact jP bi (xw.mpr ⟨i',ba,by rw[e3],by rw[e3];exact b⟩) (sk e).1
  have ei:inF false (.int i') (.lst gv)=some (.bl (decide (bi∈h::RR.map (·.2))&&hasB w l)):=by
   unfold inF;simp only[seqI,dep,eg];rfl
  generalize (decide (bi∈h::RR.map (·.2))&&hasB w l)=cond at *;obtain⟨hb,c8⟩:∃hb,hb=hasB w l:=⟨_,rfl⟩;rw[←c8] at eh hc;refine qR ?_;rintro K2 bK -;cases wy:Wy (nbs rs) 21 none h bi with
  | none =>
   have cf:cond=false:=by
    cases cond with
    | false=>rfl
    | true=>obtain⟨p,z⟩:=cw rfl;rw[wy] at z;cases z
   subst cf;rw[wy] at bt;have b2:=bt.2 rfl;rw[xa];refine Aq rfl b2 ?_;simp;refine bK _ ?_;clear bK;refine Cf (by cases hb<;>simp[orT,andT,tst,op2,bnd,fn1,consA,nilA,nm,lft,ret,eh,ei,eqF,isNF,isN,asB,dep,deq]) ?_;refine v4.mpr ⟨false,_,by simp[tst,op2,bnd,nm,lft,ei,asB];rfl,?_⟩;dsimp only;rw[if_neg (by decide)];exact⟨_,_,rfl,nx ag _ _ _ _ _ kn kr (λr hr=>hr) (λz=>by cases z)⟩
  | some p =>
   rw[wy] at bt;have b2:=bt.1 _ rfl;have ch:=hc p wy;have pO:cond=hasB w l:=by rw[ch,c8]
   rw[xa];refine Ef rfl b2 ?_;simp;refine bK _ ?_;clear bK;refine Cf (by rw[ch] at ei;cases hb<;>simp[orT,andT,tst,op2,bnd,fn1,consA,nilA,nm,lft,ret,eh,ei,eqF,isNF,isN,asB,dep,deq]) ?_;refine v4.mpr ⟨cond,_,by simp[tst,op2,bnd,nm,lft,ei,asB];rfl,?_⟩;dsimp only;cases cond with
   | false =>
    rw[if_neg (by decide)];exact⟨_,_,rfl,nx ag _ _ _ _ _ kn kr (λr hr=>hr) (λz=>by cases z)⟩
   | true =>
    rw[if_pos rfl]
    have ez:zipI [.lst (p.map D.int),.lst (cutD (p.map D.int) (some 1) none)]=some ((p.zip p.tail).map pairD):=by
     show some (pairsD (p.map D.int) (cutD (p.map D.int) (some ((1:Nat):Int)) none))=_;rw[CM,←Vm,Hx]
    have pr:∀r∈p.zip p.tail,r∈RR:=λr hr=>(jO r).mpr ⟨bi,p,xw.mpr ⟨i',ba,by rw[e3],by rw[e3];exact pO.symm⟩,wy,hr⟩
    refine EB.mpr ⟨(p.zip p.tail).map pairD,_,by simp[fn1,consA,nilA,bnd,nm,sl3,prt,ret,lft,asI,ez];rfl,?_⟩;obtain⟨J2,jx⟩:∃J2:Nat->Gm->Prop,∀i Y,J2 i Y↔∃(aX:List ((Int×Int)×D)) (cy:Option R),(aX.map (·.1)).Nodup/\(∀r∈aX.map (·.1),r∈RR)/\(∀r∈ag.map (·.1),r∈aX.map (·.1))/\(∀r∈(p.zip p.tail).take i,r∈aX.map (·.1))/\Y=[some (.val (webD n rs)),some (.val (hsD hs)),some (.val (.int h)),some (.val (letD l)),some (.val (.lst ((sortP RR).map pairD))),some (.val (.lst gv)),some (.dic aX),some (.val (.int i')),some (.val (.int bi)),some (.val (wishD w)),some (.val (.lst (p.map D.int))),cy]:=⟨_,λ_ _=>UG⟩;refine rO (J:=J2) ((jx _ _).mpr ⟨ag,cy,kn,kr,λr hr=>hr,by simp,rfl⟩) ?_ ?_
    ·rintro j d Y hd jj nE eQ - - -;obtain⟨aX,cy,a1,a2,a3,a4,rfl⟩:=(jx _ _).mp jj;rw[B_,G_] at hd;obtain⟨r,hr,rfl⟩:=hd;have tk:(p.zip p.tail).take (j+1)=(p.zip p.tail).take j++[r]:=by rw[Qv,hr];rfl
     have rR:=pr r (K_ hr);have len:(aX.map (·.1)).length<=RR.length:=uz _ _ a1 a2;rw[w_] at len;refine⟨_,_,rfl,?_⟩;refine Fw (p:=r) rfl rfl rfl (by simp[lim];omega) (eQ _ ((jx _ _).mpr ⟨_,_,?_,?_,?_,?_,rfl⟩))
     all_goals rw[JP]
     ·split
      ·exact a1
      ·rename_i c;rw[R0];exact⟨a1,by simp,λx hx y hy e=>by rw[n_.mp hy] at e;exact c (e▸hx)⟩
     ·split
      ·exact a2
      ·intro x hx
       rcases D_.mp hx with hx | hx
       ·exact a2 x hx
       ·rw[n_.mp hx];exact rR
     ·split
      ·exact a3
      ·exact λx hx=>O_ _ (a3 x hx)
     ·rw[tk];split
      ·rename_i c;intro x hx
       rcases D_.mp hx with hx | hx
       ·exact a4 x hx
       ·rw[n_.mp hx];exact c
      ·intro x hx
       rcases D_.mp hx with hx | hx
       ·exact O_ _ (a4 x hx)
       ·exact OH _ hx
    ·rintro Y jj;obtain⟨aX,cy,a1,a2,a3,a4,rfl⟩:=(jx _ _).mp jj;rw[w_,PP] at a4
     exact nx aX _ _ _ _ _ a1 a2 a3 λ_ p' e r hr=>by
      rw[wy] at e;cases e;exact a4 r hr
 ·rintro Y j;obtain⟨ag,x7,x8,x9,eP,cy,kn,kr,kd,rfl⟩:=(hJ _ _).mp j;refine hK _ ?_;have len:(ag.map (·.1)).length<=RR.length:=uz _ _ kn kr
  have pm:RR.Perm (ag.map (·.1)):=wR _ _ nd (λr hr=>by
   obtain⟨v,p,z,e,m⟩:=(jO r).mp hr;obtain⟨k,hk,rfl,hb⟩:=xw.mp z;have cm:=jP _ z (sk e).1
   exact kd k (by simpa using hk) hk (by rw[hb];simpa using cm) p e r m) len
  rw[w_] at len;have ek:keysD ag=(ag.map (·.1)).map pairD:=by unfold keysD;rw[Rr];rfl
  have fin:deq (.lst (sortD (keysD ag))) (.lst ((sortP RR).map pairD))=true:=by
   rw[ek,Ey,←Mh pm,sg]
  simp only[Gx];refine Lh rfl rfl (by omega) (d:=.lst ((sortP RR).map pairD)) (by omega) ?_;rw[fin];exact k1 _ ⟨_,rfl⟩
end
theorem Hi{L:List Int}(h:L≠[]):∃v∈L,atI (L.map D.int) (-1)=some (.int v):=by
 rcases Tj L with rfl | ⟨M,u,rfl⟩
 ·exact absurd rfl h
 ·rw[Tk];exact⟨u,by simp,by rw[Qs];exact L2.E4 _ _⟩
section
variable{rk:Int->Nat}{f:Nat}{hs:HS}
theorem Gs(W:Web n rs rk)(hw:∀p∈hs,Wf f p.2)(h1:1<=f)(hf:f<=3)(hl:hs.length<=8){c:Int}(a:Adj rs c h):cvF wv [webD n rs,hsD hs,.int c,.int h]=some (.bl true):=by
 have hc:∀x,some c=some x->Adj rs x h:=λx z=>by cases z;exact a
 have e1:=GC W a;have mL:∀v,v∈sortI (Wl (nbs rs) 20 (some c) h)↔v∈Wl (nbs rs) 20 (some c) h:=λv=>(ve _).mem_iff
 have cj:sortI (Wl (nbs rs) 20 (some c) h)≠[]:=λz=>by
  have:=(mL h).mpr t7;rw[z] at this;cases this
 have lL:(sortI (Wl (nbs rs) 20 (some c) h)).length<=8:=by
  rw[(ve _).length_eq];have:=W.in_n a;exact E_ (W.wl_len 20 (some c) h this.2.2.1 this.2.2.2) W.n8
 obtain⟨v,hv,ev⟩:=Hi cj;obtain⟨ws,aB⟩:∃ws:WS,ws=(hs.filter λp=>decide (p.1∈sortI (Wl (nbs rs) 20 (some c) h))).map (·.2):=⟨_,rfl⟩;have wl:ws.length<=hs.length:=by rw[aB,w_];exact Qo _ _
 have wm:∀w,w∈ws↔w∈bW (nbs rs) hs 20 (some c) h:=λw=>by
  rw[aB,we,z_];constructor
  ·rintro⟨p,hp,rfl⟩;rw[A_,decide_eq_true_eq,mL] at hp;exact⟨p,hp.1,hp.2,rfl⟩
  ·rintro⟨p,hp,m,rfl⟩;exact⟨p,A_.mpr ⟨hp,by rw[decide_eq_true_eq,mL];exact m⟩,rfl⟩
 have iE:∀w∈ws,Wf f w:=λw m=>zQ hw w ((wm w).mp m)
 have e2:=vU (sp:=false) W hw h1 hf (by omega) a;have e3:=vU (sp:=true) W hw h1 hf (by omega) a;have rT:=v7 W hw 20 (some c) h hc (sN W a);have rW:IsRoof ws (tl false (nbs rs) hs 20 (some c) h):=rT.congr wm;have e4:=zt iE h1 hf (by omega) rW;have kf:=(vf (sp:=true) (N:=nbs rs) hw 20 (some c) h).1;have kl:(tl true (nbs rs) hs 20 (some c) h).length<=hs.length:=E_ (u5 20 (some c) h) (vI (W.nodup W.nb W.nb_nodup _ _ _));have ks:∀w∈tl true (nbs rs) hs 20 (some c) h,w∈ws:=λw m=>(wm w).mpr (B4 20 (some c) h w m)
 have e5:cvF tL [.lst ((tl true (nbs rs) hs 20 (some c) h).map wishD)]=some (.lst ((tl true (nbs rs) hs 20 (some c) h).map wishD)):=by
  have A:=r8 (argW true (nbs rs) hs (tl true (nbs rs) hs 19) (some c) h);have ek:tl true (nbs rs) hs 20 (some c) h=spareL (roofL (argW true (nbs rs) hs (tl true (nbs rs) hs 19) (some c) h)):=rfl;rw[ek] at kf kl ⊢;have:=GJ kf h1 hf (by omega) (A.part (uH _ _)) (v_ _);rw[G8] at this;exact this
 have cv:∀w∈ws,∃x,cvF t8 [.lst ((tl true (nbs rs) hs 20 (some c) h).map wishD),wishD w]=some (.tup [.str "in", x]):=λw m=>by
  obtain⟨x,e⟩:=DS kf (by omega) hf (iE w m)
  have:inB1 (tl true (nbs rs) hs 20 (some c) h) w=true:=wn.mpr λl hl=>by
   obtain⟨ll,hb⟩:=v8.mp hl;rw[(iE w m).len] at ll;refine(yX W hw ll 20 (some c) h hc (sN W a)).mpr ?_;obtain⟨p,hp,pm,rfl⟩:=we.mp ((wm w).mp m);exact⟨p.1,pm,O'.mpr ⟨p,hp,by rw[hb];simp⟩⟩
  rw[if_pos this] at e;exact⟨x,e⟩
 -- the holds turned about,one twice
 have iy:∀p∈hs.reverse++hs.take 1,Wf f p.2:=λp hp=>hw p (by
  rcases D_.mp hp with z | z
  ·exact List.mem_reverse.mp z
  ·exact Ps z)
 have m2:∀p,p∈hs.reverse++hs.take 1↔p∈hs:=λp=>by
  rw[D_,List.mem_reverse];exact⟨λz=>z.elim id λz=>Ps z,.inl⟩
 have l2:(hs.reverse++hs.take 1).length<=18:=by
  rw[y_,TV,RI];omega
 have e6:=vU (sp:=false) W iy h1 hf l2 a;rw[Cj W hw iy a λR r=>r.congr λw=>by simp only[we,m2]] at e6
 have e7:∀p0 ak,(p0::ak)∈ws->∃h3:(hs++[(v,(p0.1,p0.1)::ak)]).length<=18,coF sf [webD n rs,hsD (hs++[(v,(p0.1,p0.1)::ak)]),howD false,.int c,.int h]=some ((tl false (nbs rs) hs 20 (some c) h).map wishD):=λp0 ak m=>by
  have o:=iE _ m;have jy:=o.all p0 j_
  have o':Wf f ((p0.1,p0.1)::ak):=by
   refine⟨by have:=o.len;simpa using this,λq hq=>?_⟩
   rcases r_.mp hq with rfl | hq
   ·exact⟨jy.lo,TK _,S8 jy.le jy.hi⟩
   ·exact o.all q (h_ _ hq)
  have nF:∀p∈hs++[(v,(p0.1,p0.1)::ak)],Wf f p.2:=λp hp=>by
   rcases D_.mp hp with z | z
   ·exact hw p z
   ·rw[n_.mp z];exact o'
  have l3:(hs++[(v,(p0.1,p0.1)::ak)]).length<=18:=by
   rw[y_,Qx];omega
  refine⟨l3,?_⟩;have e:=vU (sp:=false) W nF h1 hf l3 a;rw[Cj W hw nF a λR r=>r.more (f:=f) (w:=p0::ak) (w':=(p0.1,p0.1)::ak) (λw m=>zQ hw w m) ((wm _).mp m) o' (uF.mpr ⟨⟨TK _,jy.le⟩,zD _⟩) λw=>?_] at e
  ·exact e
  ·simp only[we,D_,n_];constructor
   ·rintro⟨p,hp | rfl,pm,rfl⟩
    ·exact .inl ⟨p,hp,pm,rfl⟩
    ·exact .inr rfl
   ·rintro(⟨p,hp,pm,rfl⟩ | rfl)
    ·exact⟨p,.inl hp,pm,rfl⟩
    ·exact⟨_,.inr rfl,(mL v).mp hv,rfl⟩
 have d1:=zV (ws:=tl false (nbs rs) hs 20 (some c) h);have d2:=zV (ws:=tl true (nbs rs) hs 20 (some c) h);have nC:(tl false (nbs rs) hs 20 (some c) h).length<=hs.length:=E_ (u5 20 (some c) h) (vI (W.nodup W.nb W.nb_nodup _ _ _))
 change coF sf [webD n rs,hsD hs,.str "roof", .int c,.int h]=_ at e2
 change coF sf [webD n rs,hsD hs,.str "spare", .int c,.int h]=_ at e3
 change coF sf [webD n rs,hsD (hs.reverse++hs.take 1),.str "roof", .int c,.int h]=_ at e6
 clear rT rW kf wm mL cj iy m2;generalize tl false (nbs rs) hs 20 (some c) h=T at *;generalize tl true (nbs rs) hs 20 (some c) h=Kp at *;generalize sortI (Wl (nbs rs) 20 (some c) h)=L at *;refine rS rfl λKE k1 _=>?_
 rw[yJ];refine qR ?_;rintro K hK -;simp[e1];refine hK _ ?_;refine qR ?_;rintro K hK -;simp;refine wx hs holdD (λp=>decide (p.1∈L)) (λp=>wishD p.2) ?_;simp[hsD,holdD];refine⟨by omega,?_⟩;have e8:map (λp:Int×List (Int×Int)=>wishD p.2) (hs.filter λp=>decide (p.1∈L))=ws.map wishD:=by rw[aB,Rr];rfl
 rw[e8];refine⟨λx _ _=>by have:=GX (l:=L) (x:=x);rw[List.any_map] at this;exact this,hK _ ?_⟩;refine qR ?_;rintro K hK -
 change wp _ [some (.val (webD n rs)),some (.val (hsD hs)),some (.val (.int c)),some (.val (.int h)),some (.val (.lst (L.map D.int))),some (.val (.lst (ws.map wishD))),none,none,none,none] _
 simp[e2];refine hK _ ?_;refine qR ?_;rintro K hK -;simp[e3];refine hK _ ?_;refine qR ?_;rintro K hK -;simp[e4,sg];refine⟨by omega,?_⟩;refine sd Kp wishD (λ_=>false) (λ_=>.int 1) ?_;simp;refine⟨by omega,λw m=>⟨by have:=vx (w:=w);omega,w,ks w m,by rw[vb];simp⟩,?_⟩;simp[e5,sg];refine⟨by omega,hK _ ?_⟩;refine qR ?_;rintro K hK -;simp;refine sd ws wishD (λ_=>false) (λ_=>.int 1) ?_;simp;refine⟨by omega,λw m=>?_,?_⟩
 ·obtain⟨x,e⟩:=cv w m;simp[e,AB,deq,dep];decide
 ·refine hK _ ?_;refine qR ?_;rintro K hK -;have ct:cutD (hs.map holdD) none (some 1)=(hs.take 1).map holdD:=by rw[UE];exact Bu (n:=1)
  have rv:(hs.map holdD).reverse++(hs.take 1).map holdD=(hs.reverse++hs.take 1).map holdD:=by rw[Qs,List.map_reverse]
  have pP:coF sf [webD n rs,.lst ((hs.map holdD).reverse++(hs.map holdD).take 1),.str "roof", .int c,.int h]=some (T.map wishD):=by
   rw[←UE,rv];exact e6
  simp[hsD,ct,pP,sg];refine⟨by omega,by omega,hK _ ?_⟩;refine qR ?_;rintro K hK hR;cases ws with
  | nil =>
   simp[sg,dep];refine⟨by simp[depA],hR _ _ (k1 _ ⟨_,rfl⟩)⟩
  | cons w ws =>
   have wo:=iE w j_;cases w with
   | nil =>
    have:=wo.len;simp at this;omega
   | cons p0 ak =>
    obtain⟨h3,e7⟩:=e7 p0 ak j_;have wr:=wo.len;simp only[OQ] at wr;have dq:deq (.lst ((wishD (p0::ak))::ws.map wishD)) (.lst [])=false:=by simp[deq,deqA]
    simp[dq,dep];refine⟨.inr (by simp[depA]),hK _ ?_⟩;refine qR ?_;rintro K hK -;simp[wishD];refine hK _ ?_;refine qR ?_;rintro K hK -;have sl:slF (.tup (pairD p0::ak.map pairD)) (some 1) none=some (.tup (ak.map pairD)):=xO (n:=1) (by simp) (by omega);simp[ev,sl];refine⟨by omega,hK _ ?_⟩
    have pQ:coF sf [webD n rs,.lst (hs.map holdD++[.tup [.int v,.tup (.tup [.int p0.1,.int p0.1]::ak.map pairD)]]),.str "roof", .int c,.int h]=some (T.map wishD):=by
     have:hs.map holdD++[.tup [.int v,.tup (.tup [.int p0.1,.int p0.1]::ak.map pairD)]]=(hs++[(v,(p0.1,p0.1)::ak)]).map holdD:=by rw[Qs];rfl
     rw[this];exact e7
    simp[pQ,sg];exact⟨by omega,by omega,k1 _ ⟨_,rfl⟩⟩
end
theorem Ht{c:List D}{f:Nat}{Q:R->List D->Prop}(n1:1<=n)(n8:n<=8)(hc:PotOk c)(h0:1<=f)(hf:f<=3)(k:∀(hs:HS) c',(∀p∈hs,Wf f p.2)->(∀p∈hs,0<=p.1/\p.1 < n)->hs.length<=8->PotOk c'->Q (.own (hs.map holdD)) c'):wpB xf c [webD n rs,.int f,.int 6] Q:=by
 refine uE rfl λKE hE _=>?_
 rw[yP];refine qR ?_;rintro K hK -;simp[isMut,R.mut];refine Jt hc h0 hf (by omega) (by omega) λws c aB iM hc=>?_
 simp;refine hK _ ?_;simp;obtain⟨J,hJ⟩:∃J:Nat->List D->Gm->Prop,∀i ah Y,J i ah Y↔∃(c:List D) (hs:HS),PotOk c/\ah=hs.map holdD/\(∀p∈hs,0<=p.1/\p.1 < n)/\hs.map (·.2)=ws.take i/\Y=[some (.bor c),some (.val (webD n rs)),some (.val (.int f)),some (.val (.int 6)),some (.val (.lst (ws.map wishD)))]:=⟨_,λ_ _ _=>UG⟩;refine v6 J ?_;simp;refine⟨by omega,(hJ _ _ _).mpr ⟨c,[],hc,rfl,by simp,rfl,rfl⟩,?_,?_⟩
 ·intro i d ah aj w hw e j;subst e;obtain⟨c4,hs,hc,rfl,hr,hi,rfl⟩:=(hJ _ _ _).mp j;simp[isMut,R.mut];refine rM hc (by omega) (by omega) λx c5 jv kU hc=>?_
  simp;refine⟨_,_,⟨rfl,rfl⟩,(hJ _ _ _).mpr ⟨c5,hs++[(x,w)],hc,by simp[holdD],λp hp=>?_,?_,rfl⟩⟩
  ·rcases D_.mp hp with hp | hp
   ·exact hr p hp
   ·rw[n_.mp hp];exact⟨jv,kU⟩
  ·rw[Qs,hi,Qv,hw];rfl
 ·intro ah aj j;obtain⟨c4,hs,hc,rfl,hr,hi,rfl⟩:=(hJ _ _ _).mp j;rw[PP] at hi;have ln:hs.length=ws.length:=by rw[←hi,w_]
  exact hE _ _ _ ⟨_,rfl⟩ (k hs c4 (λp hp=>aB _ (by rw[←hi];exact z_.mpr ⟨p,hp,rfl⟩)) hr (by omega) hc)
theorem law_true(ns:List Int)(gI:ns.length<=63):∃rs,tY [.val (.lst (ns.map D.int))]=some (.val (.bl true),rs):=by
 have key:wpF tY [.val (.lst (ns.map D.int))] λr _=>r=.val (.bl true):=by
  refine sC rfl λKE hE _=>?_
  rw[zY];refine qR ?_;rintro K hK -;obtain⟨c,hc,hp⟩:=FD ns;simp[hc];refine hK _ ?_;refine qR ?_;rintro K hK hR;simp;refine rO (J:=λi Y=>∃c x2 x3 x4 x5 x6 x7 x8,PotOk c/\Y=[some (.val (.lst (ns.map .int))),some (.own c),x2,x3,x4,x5,x6,x7,x8]) ⟨c,_,_,_,_,_,_,_,hp,rfl⟩ ?_ ?_
  ·rintro i d Y - ⟨c,x2,x3,x4,x5,x6,x7,x8,hc,rfl⟩ KL aH - - -;clear hK hR hE hp;refine⟨_,_,rfl,?_⟩;show wp _ [some (.val (.lst (ns.map .int))),some (.own c),some (.val d),x3,x4,x5,x6,x7,x8] _;refine qR ?_;rintro K hK -;simp[isMut,R.mut];refine rM hc (by omega) (by omega) λf0 c qM qN hc=>?_
   obtain⟨f,hf⟩:∃f:Nat,1+f0=f:=⟨(1+f0).toNat,by omega⟩;simp[hf];refine hK _ ?_;refine qR ?_;rintro K hK -;simp[isMut,R.mut];refine Iu hc (by omega) (by omega) λn rs rk c W hc=>?_
   simp;refine hK _ ?_;refine qR ?_;rintro K hK -;simp[isMut,R.mut];refine Ht W.n1 W.n8 hc (by omega) (by omega) λhs c hw hh hl hc=>?_
   simp;refine hK _ ?_
   change wp _ [some (.val (.lst (ns.map .int))),some (.own c),some (.val d),some (.val (.int f)),some (.val (webD n rs)),some (.val (hsD hs)),x6,x7,x8] _
   have n8:=W.n8;refine qR ?_;rintro K hK -;simp;refine⟨by omega,?_⟩;refine rO (J:=λi Y=>∃x6 x7,Y=[some (.val (.lst (ns.map .int))),some (.own c),some (.val d),some (.val (.int f)),some (.val (webD n rs)),some (.val (hsD hs)),x6,x7,x8]) ⟨_,_,rfl⟩ ?_ ?_
   ·rintro i d2 Y hd ⟨x6,x7,rfl⟩ nE eQ - - -;obtain⟨rfl,pR⟩:=uo hd;obtain⟨h,kZ⟩:∃h:Int,0+(i:Int)=h:=⟨_,rfl⟩;rw[kZ];have e1:=uL W (h:=h) (by omega) (by omega);refine⟨_,_,rfl,?_⟩;show wp _ [some (.val (.lst (ns.map .int))),some (.own c),some (.val d),some (.val (.int f)),some (.val (webD n rs)),some (.val (hsD hs)),some (.val (.int h)),x7,x8] _;simp[e1];refine rO (J:=λi Y=>∃x7,Y=[some (.val (.lst (ns.map .int))),some (.own c),some (.val d),some (.val (.int f)),some (.val (webD n rs)),some (.val (hsD hs)),some (.val (.int h)),x7,x8]) ⟨_,rfl⟩ ?_ ?_
    ·rintro i d3 Y nG ⟨x7,rfl⟩ qO nH - - -;rw[B_,G_] at nG;obtain⟨u,hu,rfl⟩:=nG;have e2:=Gs W hw (by omega) (by omega) hl ((W.nb h u).mp (K_ hu));refine⟨_,_,rfl,?_⟩;show wp _ [some (.val (.lst (ns.map .int))),some (.own c),some (.val d),some (.val (.int f)),some (.val (webD n rs)),some (.val (hsD hs)),some (.val (.int h)),some (.val (.int u)),x8] _;simp[e2];exact nH _ ⟨_,rfl⟩
    ·rintro Y ⟨x7,rfl⟩;exact eQ _ ⟨_,_,rfl⟩
   ·rintro Y ⟨x6,x7,rfl⟩;refine hK _ ?_
    have tail:∀(l:List Int) (c:List D) (x6 x7:Option R),PotOk c->l.length=f->wp (forS (fn1 rngI1 (consA (op2 ixF (nm 4) (ret (.int 0))) nilA)) (tgN 6) (ifS (notT (tst (fn1 (cvF uU) (consA (nm 4) (consA (nm 5) (consA (nm 6) (consA (nm 8) nilA))))))) (retS (ret (.bl false))) (ret .nx))) [some (.val (.lst (ns.map .int))),some (.own c),some (.val d),some (.val (.int f)),some (.val (webD n rs)),some (.val (hsD hs)),x6,x7,some (.val (letD l))] KL:=λl c x6 x7 hc ll=>by
     simp;refine⟨by omega,?_⟩;refine rO (J:=λi Y=>∃x6,Y=[some (.val (.lst (ns.map .int))),some (.own c),some (.val d),some (.val (.int f)),some (.val (webD n rs)),some (.val (hsD hs)),x6,x7,some (.val (letD l))]) ⟨_,rfl⟩ ?_ ?_
     ·rintro i d2 Y hd ⟨x6,rfl⟩ nE eQ - - -;obtain⟨rfl,pR⟩:=uo hd;obtain⟨h,kZ⟩:∃h:Int,0+(i:Int)=h:=⟨_,rfl⟩;rw[kZ];have e2:=Ij W hw hh (by omega) (by omega) hl ll (h:=h) (by omega) (by omega);refine⟨_,_,rfl,?_⟩;show wp _ [some (.val (.lst (ns.map .int))),some (.own c),some (.val d),some (.val (.int f)),some (.val (webD n rs)),some (.val (hsD hs)),some (.val (.int h)),x7,some (.val (letD l))] _;simp[e2];exact eQ _ ⟨_,rfl⟩
     ·rintro Y ⟨x6,rfl⟩;exact aH _ ⟨_,_,_,_,_,_,_,_,hc,rfl⟩
    refine qR ?_;rintro K hK -;simp;obtain⟨J,hJ⟩:∃J:Nat->List D->Gm->Prop,∀i ah Y,J i ah Y↔∃(c:List D) (l:List Int),PotOk c/\ah=l.map D.int/\l.length=i/\Y=[some (.val (.lst (ns.map .int))),some (.own c),some (.val d),some (.val (.int f)),some (.val (webD n rs)),some (.val (hsD hs)),x6,x7,x8]:=⟨_,λ_ _ _=>UG⟩;refine v6 J ?_;simp;refine⟨by omega,by omega,(hJ _ _ _).mpr ⟨c,[],hc,rfl,rfl,rfl⟩,?_,?_⟩
    ·intro i d ah aj hd j;obtain⟨c4,l,hc,rfl,hi,rfl⟩:=(hJ _ _ _).mp j;obtain⟨rfl,bX⟩:=uo hd;obtain⟨kk,kW⟩:∃kk:Int,0+(i:Int)=kk:=⟨_,rfl⟩;rw[kW];simp[isMut,R.mut];refine rM hc (by omega) (by omega) λx c5 jv kU hc=>?_
     simp;exact⟨_,_,⟨rfl,rfl⟩,(hJ _ _ _).mpr ⟨c5,l++[x],hc,by simp,by simp[hi],rfl⟩⟩
    ·intro ah aj j;obtain⟨c4,l0,hc,rfl,hi,rfl⟩:=(hJ _ _ _).mp j;clear hJ j;simp;refine hK _ ?_
     change wp _ [some (.val (.lst (ns.map .int))),some (.own c4),some (.val d),some (.val (.int f)),some (.val (webD n rs)),some (.val (hsD hs)),x6,x7,some (.val (letD l0))] _
     refine qR ?_;rintro K hK -;have dh:=Eo (hs:=hs);cases hs with
     | nil =>
      simp[hsD,sg,dep];refine⟨by simp[depA],hK _ ?_⟩;exact tail l0 c4 x6 x7 hc hi
     | cons p0 hs =>
      have dq:deq (hsD (p0::hs)) (.lst [])=false:=by simp[hsD,deq,deqA]
      have w0:=(hw p0 j_).len;simp[dq];obtain⟨J,hJ⟩:∃J:Nat->List D->Gm->Prop,∀i ah Y,J i ah Y↔∃(c:List D) (l:List Int),PotOk c/\ah=l.map D.int/\l.length=i/\Y=[some (.val (.lst (ns.map .int))),some (.own c),some (.val d),some (.val (.int f)),some (.val (webD n rs)),some (.val (hsD (p0::hs))),x6,x7,some (.val (letD l0))]:=⟨_,λ_ _ _=>UG⟩;refine v6 J ?_
      have ix:ixF (hsD (p0::hs)) (.int 0)=some (holdD p0):=by
       show atI _ 0=_;rw[F_];exact Ge
      simp[ix,wishD];refine⟨by omega,(hJ _ _ _).mpr ⟨c4,[],hc,rfl,rfl,rfl⟩,?_,?_⟩
      ·intro i d3 ah aj x y hx e j;subst e;obtain⟨c4,l,hc,rfl,hi,rfl⟩:=(hJ _ _ _).mp j;simp[isMut,R.mut];refine rM hc (by omega) (by omega) λz c5 pM pN hc=>?_
       have hz:z=0\/z=1:=by omega
       rcases hz with rfl | rfl
       ·simp[pairD];exact⟨_,_,⟨rfl,rfl⟩,(hJ _ _ _).mpr ⟨c5,l++[x],hc,by simp,by simp[hi],rfl⟩⟩
       ·simp[pairD];exact⟨_,_,⟨rfl,rfl⟩,(hJ _ _ _).mpr ⟨c5,l++[y],hc,by simp,by simp[hi],rfl⟩⟩
      ·intro ah aj j;obtain⟨c4,l,hc,rfl,hi,rfl⟩:=(hJ _ _ _).mp j;simp;refine hK _ ?_;exact tail l c4 x6 x7 hc (by rw[hi,w0])
  ·rintro Y ⟨c,x2,x3,x4,x5,x6,x7,x8,hc,rfl⟩;refine hK _ ?_;exact⟨_,_,rfl,hE _ _ ⟨_,rfl,rfl⟩⟩
 obtain⟨r,aL,e,rfl⟩:=key;exact⟨aL,e⟩
end Own
namespace PySem.W.Fast
theorem tw3069398351803177994:True:=⟨⟩
theorem tw16086999655796231775:True:=⟨⟩
theorem tw14467213360644109800:True:=⟨⟩
theorem tw8493657808587562724:True:=⟨⟩
theorem tw1480110406124748319:True:=⟨⟩
theorem tw18190894356919684308:True:=⟨⟩
theorem tw7104786340331625596:True:=⟨⟩
theorem tw11329287488043758918:True:=⟨⟩
theorem tw17034082673422760889:True:=⟨⟩
theorem tw16045634042027822586:True:=⟨⟩
theorem tw3578411591367411327:True:=⟨⟩
theorem tw14284146011508777889:True:=⟨⟩
theorem tw4331602590950232265:True:=⟨⟩
theorem tw2443145043170192127:True:=⟨⟩
theorem tw5321771526727332228:True:=⟨⟩
theorem tw1036796554764613127:True:=⟨⟩
theorem tw11514229961994399105:True:=⟨⟩
theorem tw11706175540581243651:True:=⟨⟩
theorem tw7972656286973514148:True:=⟨⟩
theorem tw15019897200491754944:True:=⟨⟩
theorem tw1017531432532152532:True:=⟨⟩
theorem tw1403362046734619508:True:=⟨⟩
theorem tw2559386860087124719:True:=⟨⟩
theorem tw12649360593539794762:True:=⟨⟩
theorem tw10569358206334207561:True:=⟨⟩
theorem tw17076730627471884040:True:=⟨⟩
theorem tw8842103688534095076:True:=⟨⟩
theorem tw2881114755479075221:True:=⟨⟩
theorem tw16132679742258676525:True:=⟨⟩
theorem tw17729969232459225422:True:=⟨⟩
theorem tw5622250950341276110:True:=⟨⟩
theorem tw4716821656613759732:True:=⟨⟩
theorem tw4531381044090740688:True:=⟨⟩
theorem tw1304563384603768246:True:=⟨⟩
theorem tw2393109866937592779:True:=⟨⟩
theorem tw11327441698531811118:True:=⟨⟩
theorem tw2456609910023524744:True:=⟨⟩
theorem tw8223144796528851373:True:=⟨⟩
theorem tw12293977737686245343:True:=⟨⟩
theorem tw5161525548770358797:True:=⟨⟩
theorem tw9924222735847657814:True:=⟨⟩
theorem tw779651015346501843:True:=⟨⟩
theorem tw9044810358025015572:True:=⟨⟩
theorem tw1752452447603159341:True:=⟨⟩
theorem tw5447495670484890652:True:=⟨⟩
theorem tw11243147366144547471:True:=⟨⟩
theorem tw3606859650586588664:True:=⟨⟩
theorem tw7926767103536278267:True:=⟨⟩
theorem tw17952453130995669275:True:=⟨⟩
theorem tw7474627824804127905:True:=⟨⟩
theorem tw17240327345155628350:True:=⟨⟩
theorem tw9968558099474279323:True:=⟨⟩
theorem tw5466117625920137769:True:=⟨⟩
theorem tw5734663686864981816:True:=⟨⟩
theorem tw4712881042311255910:True:=⟨⟩
theorem tw4110744359975774093:True:=⟨⟩
theorem tw8389595919617707176:True:=⟨⟩
theorem tw967634147922234546:True:=⟨⟩
theorem tw10242788627200461541:True:=⟨⟩
theorem tw14491960070530077826:True:=⟨⟩
theorem tw7582946361322933691:True:=⟨⟩
theorem tw5105806043671039791:True:=⟨⟩
theorem tw17720080851449432310:True:=⟨⟩
theorem tw10520781230922193418:True:=⟨⟩
theorem tw13238303135913907763:True:=⟨⟩
theorem tw7724366023914866252:True:=⟨⟩
theorem tw4565101245774680510:True:=⟨⟩
theorem tw3260630221491335531:True:=⟨⟩
theorem tw7217042681496300830:True:=⟨⟩
theorem tw10786394326614392713:True:=⟨⟩
theorem tw14552476286320910207:True:=⟨⟩
theorem tw15379600507595710407:True:=⟨⟩
theorem tw4940770814142042007:True:=⟨⟩
theorem tw10396456092505977817:True:=⟨⟩
theorem tw14881082260397546793:True:=⟨⟩
theorem tw17882472676674933006:True:=⟨⟩
theorem tw13112840054527772795:True:=⟨⟩
theorem tw5010473546784457450:True:=⟨⟩
theorem tw12628140522611245263:True:=⟨⟩
theorem tw1716836963590395981:True:=⟨⟩
theorem tw15965329329672987254:True:=⟨⟩
theorem tw2607190472960434621:True:=⟨⟩
theorem tw7421679069700228957:True:=⟨⟩
theorem tw10723991426896255033:True:=⟨⟩
theorem tw8473387619609889576:True:=⟨⟩
theorem tw9920090736132874068:True:=⟨⟩
theorem tw9878498557959053640:True:=⟨⟩
theorem tw2133504682838599920:True:=⟨⟩
theorem tw11241869679153700143:True:=⟨⟩
theorem tw9595372030170407563:True:=⟨⟩
theorem tw14821373077468778563:True:=⟨⟩
theorem tw7723829469897743405:True:=⟨⟩
theorem tw6390340019239306976:True:=⟨⟩
theorem tw5433221605984270308:True:=⟨⟩
theorem tw7639026738506502200:True:=⟨⟩
theorem tw7617668886536101974:True:=⟨⟩
theorem tw5977411632124631032:True:=⟨⟩
theorem tw205945072525017138:True:=⟨⟩
theorem tw4284846754915723942:True:=⟨⟩
theorem tw6766509170460235243:True:=⟨⟩
theorem tw11845620246078302251:True:=⟨⟩
theorem tw14637674253651250342:True:=⟨⟩
theorem tw15129267506142018431:True:=⟨⟩
theorem tw14399619756581962551:True:=⟨⟩
theorem tw2112505310787388294:True:=⟨⟩
theorem tw15639731262163018037:True:=⟨⟩
theorem tw15015776399090161007:True:=⟨⟩
theorem tw14092536906894498617:True:=⟨⟩
theorem tw11211948578739203435:True:=⟨⟩
theorem tw14106235527011666752:True:=⟨⟩
theorem tw13673067194628486423:True:=⟨⟩
theorem tw13307555113645103863:True:=⟨⟩
theorem tw10231212476080256069:True:=⟨⟩
theorem tw10731186211310641894:True:=⟨⟩
theorem tw15081754173424281416:True:=⟨⟩
theorem tw12303239274077131686:True:=⟨⟩
theorem tw12120536696442066358:True:=⟨⟩
theorem tw8219403551138070868:True:=⟨⟩
theorem tw16581373510321736247:True:=⟨⟩
theorem tw9361351800003854185:True:=⟨⟩
theorem tw7119431038933114974:True:=⟨⟩
theorem tw8439188671630574967:True:=⟨⟩
theorem tw17254745697623351931:True:=⟨⟩
theorem tw17482864373355122016:True:=⟨⟩
theorem tw11220071716766261229:True:=⟨⟩
theorem tw14284343587331924318:True:=⟨⟩
theorem tw12563892114899450080:True:=⟨⟩
theorem tw2826755546063368316:True:=⟨⟩
theorem tw5828214689668335218:True:=⟨⟩
theorem tw11009039179197501362:True:=⟨⟩
theorem tw7381688417695259511:True:=⟨⟩
theorem tw9972955824917228968:True:=⟨⟩
theorem tw9441558802567629942:True:=⟨⟩
theorem tw16051867255765412380:True:=⟨⟩
theorem tw11348070036662581778:True:=⟨⟩
theorem tw3748559715888706641:True:=⟨⟩
theorem tw11129563897989984685:True:=⟨⟩
theorem tw7809398168895359845:True:=⟨⟩
theorem tw11459530229277623204:True:=⟨⟩
theorem tw3512453743298353796:True:=⟨⟩
theorem tw9303309661403873846:True:=⟨⟩
theorem tw5718921181500066616:True:=⟨⟩
theorem tw10120805570766447267:True:=⟨⟩
theorem tw15876999961067379571:True:=⟨⟩
theorem tw13814049650016668871:True:=⟨⟩
theorem tw8332819036429410415:True:=⟨⟩
theorem tw6575666944958990960:True:=⟨⟩
theorem tw13820537221933284713:True:=⟨⟩
theorem tw16187676029650488247:True:=⟨⟩
theorem tw18046804542696039860:True:=⟨⟩
theorem tw1055396063903613814:True:=⟨⟩
theorem tw727036704406094282:True:=⟨⟩
theorem tw3802104785636344617:True:=⟨⟩
theorem tw5248580496968300495:True:=⟨⟩
theorem tw10523579095231558871:True:=⟨⟩
theorem tw13786417902618041015:True:=⟨⟩
theorem tw848601058748566466:True:=⟨⟩
theorem tw15683200344589464312:True:=⟨⟩
theorem tw13893764202325302270:True:=⟨⟩
theorem tw9797170202055980980:True:=⟨⟩
theorem tw10568860402179788231:True:=⟨⟩
theorem tw13017193663565096114:True:=⟨⟩
theorem tw5097244429964682089:True:=⟨⟩
theorem tw7066579178455128008:True:=⟨⟩
theorem tw5947561630873025501:True:=⟨⟩
theorem tw11348949079469807328:True:=⟨⟩
theorem tw11059340817113764819:True:=⟨⟩
theorem tw13258054163619192318:True:=⟨⟩
theorem tw1390389174012459241:True:=⟨⟩
theorem tw16997815941105970369:True:=⟨⟩
theorem tw12010072807585910353:True:=⟨⟩
theorem tw3329562167909005785:True:=⟨⟩
theorem tw12209922010479235246:True:=⟨⟩
theorem tw5874551444348585550:True:=⟨⟩
theorem tw14473244867443898586:True:=⟨⟩
theorem tw11860164591250932920:True:=⟨⟩
theorem tw13425319378265071434:True:=⟨⟩
theorem tw8750075907750962366:True:=⟨⟩
theorem tw756415398896154717:True:=⟨⟩
theorem tw2577457642984195636:True:=⟨⟩
theorem tw5669766037398998757:True:=⟨⟩
theorem tw1284132093186818139:True:=⟨⟩
theorem tw18379794754336624747:True:=⟨⟩
theorem tw1896128950455845016:True:=⟨⟩
theorem tw283454236953795299:True:=⟨⟩
theorem tw9068857920288799738:True:=⟨⟩
theorem tw4336305422330778900:True:=⟨⟩
theorem tw14355336093982964282:True:=⟨⟩
theorem tw8650319981191712003:True:=⟨⟩
theorem tw2804474489552329658:True:=⟨⟩
theorem tw8253574783060485407:True:=⟨⟩
theorem tw437487054234628650:True:=⟨⟩
theorem tw740296248436575971:True:=⟨⟩
theorem tw10815967477807984367:True:=⟨⟩
theorem tw8459704993130845507:True:=⟨⟩
theorem tw2295335175402401774:True:=⟨⟩
theorem tw12990516580331453442:True:=⟨⟩
theorem tw16561285604705006024:True:=⟨⟩
theorem tw11291501113766906985:True:=⟨⟩
theorem tw15958377966529338933:True:=⟨⟩
theorem tw10547240324783318347:True:=⟨⟩
theorem tw16289224480435311194:True:=⟨⟩
theorem tw7837663831447193432:True:=⟨⟩
theorem tw7557731112008995679:True:=⟨⟩
theorem tw13957909525804782989:True:=⟨⟩
theorem tw17113623572606784423:True:=⟨⟩
theorem tw3254937936740156630:True:=⟨⟩
theorem tw16688149154503872072:True:=⟨⟩
theorem tw15061598528959084155:True:=⟨⟩
theorem tw6806211906732230998:True:=⟨⟩
theorem tw14982153689901796735:True:=⟨⟩
theorem tw11236096190381543409:True:=⟨⟩
theorem tw4685812256058734146:True:=⟨⟩
theorem tw8973166346209019295:True:=⟨⟩
theorem tw14709679521451310168:True:=⟨⟩
theorem tw9045085206406234050:True:=⟨⟩
theorem tw10901570163698648573:True:=⟨⟩
theorem tw13803376212193144749:True:=⟨⟩
theorem tw9950777654892867746:True:=⟨⟩
theorem tw16254642614227081596:True:=⟨⟩
theorem tw9278116897329705746:True:=⟨⟩
theorem tw1332464387896486952:True:=⟨⟩
theorem tw6252900145476111467:True:=⟨⟩
theorem tw836098216767703045:True:=⟨⟩
theorem tw2721766378829952441:True:=⟨⟩
theorem tw17886393014688440689:True:=⟨⟩
theorem tw4735314342038211773:True:=⟨⟩
theorem tw11289717221799237249:True:=⟨⟩
theorem tw14487009981888753878:True:=⟨⟩
theorem tw6816117370477516982:True:=⟨⟩
theorem tw13151283045007743604:True:=⟨⟩
theorem tw14503001057689663611:True:=⟨⟩
theorem tw5579662815148901493:True:=⟨⟩
theorem tw1148748814067139147:True:=⟨⟩
theorem tw6270002891012422703:True:=⟨⟩
theorem tw73515613849756729:True:=⟨⟩
theorem tw7748022234076913306:True:=⟨⟩
theorem tw10547956220179219369:True:=⟨⟩
theorem tw5945678638943676204:True:=⟨⟩
theorem tw2705717324223218434:True:=⟨⟩
theorem tw1279617976292553846:True:=⟨⟩
theorem tw1684376335971394752:True:=⟨⟩
theorem tw2487027036819829202:True:=⟨⟩
theorem tw18002646588797273951:True:=⟨⟩
theorem tw17999857000695433200:True:=⟨⟩
theorem tw6957137628879724054:True:=⟨⟩
theorem tw7552102798537015971:True:=⟨⟩
theorem tw7440072180801751041:True:=⟨⟩
theorem tw15296596010550943230:True:=⟨⟩
theorem tw14401005435176684004:True:=⟨⟩
theorem tw3505965495113822088:True:=⟨⟩
theorem tw2245206300338767923:True:=⟨⟩
theorem tw5791439995007425635:True:=⟨⟩
theorem tw6075312708739504668:True:=⟨⟩
theorem tw13442817884700668433:True:=⟨⟩
theorem tw17134489820622841986:True:=⟨⟩
theorem tw9550063868761080709:True:=⟨⟩
theorem tw18309541102446242054:True:=⟨⟩
theorem tw2499313901711239877:True:=⟨⟩
theorem tw10414430620497298140:True:=⟨⟩
theorem tw14658281656346089342:True:=⟨⟩
theorem tw464445686670849353:True:=⟨⟩
theorem tw13764683856624327412:True:=⟨⟩
theorem tw13700625110283959202:True:=⟨⟩
theorem tw5772681142712629539:True:=⟨⟩
theorem tw689977365059420686:True:=⟨⟩
end PySem.W.Fast
open PySem PySem.W PyProof.Rows
set_option maxRecDepth 100000 in
set_option maxHeartbeats 0 in
theorem PySem.Challenge.cw_roofpost_k32_whole_tables_both_ways_holds : PySem.Challenge.rw_roofpost_k32_whole_tables_both_ways.Holds := by
 w_on;(refine holds_law wSaid λqi=>?_);k_head;(case hw=>w_witness2)
 k_fill
 refine Own.walk (l:=PySem.Challenge.rw_roofpost_k32_whole_tables_both_ways) Own.law_true rfl rfl (λw h qQ=>PySem.W.kIn_of qQ) ?F
 case F =>
  intro w mg fa h KX G gC;refine' Own.all_mk gC (Own.dn KX G ?_ ?_ ?_ ?_) (Own.dn KX G ?_ ?_ ?_ ?_) (Own.dn KX G ?_ ?_ ?_ ?_) (Own.dn KX G ?_ ?_ ?_ ?_) (Own.dn KX G ?_ ?_ ?_ ?_) (Own.dn KX G ?_ ?_ ?_ ?_) (Own.dn KX G ?_ ?_ ?_ ?_) (Own.dn KX G ?_ ?_ ?_ ?_) (Own.dn KX G ?_ ?_ ?_ ?_) (Own.dn KX G ?_ ?_ ?_ ?_) (Own.dn KX G ?_ ?_ ?_ ?_) (Own.dn KX G ?_ ?_ ?_ ?_) (Own.dn KX G ?_ ?_ ?_ ?_) (Own.dn KX G ?_ ?_ ?_ ?_) (Own.dn KX G ?_ ?_ ?_ ?_) (Own.dn KX G ?_ ?_ ?_ ?_) (Own.dn KX G ?_ ?_ ?_ ?_) (Own.dn KX G ?_ ?_ ?_ ?_) (Own.dn KX G ?_ ?_ ?_ ?_) (Own.dn KX G ?_ ?_ ?_ ?_) (Own.dn KX G ?_ ?_ ?_ ?_) (Own.dn KX G ?_ ?_ ?_ ?_) (Own.dn KX G ?_ ?_ ?_ ?_) (Own.dn KX G ?_ ?_ ?_ ?_) (Own.dn KX G ?_ ?_ ?_ ?_) (Own.dn KX G ?_ ?_ ?_ ?_) (Own.dn KX G ?_ ?_ ?_ ?_) (Own.dn KX G ?_ ?_ ?_ ?_) (Own.dn KX G ?_ ?_ ?_ ?_) (Own.dn KX G ?_ ?_ ?_ ?_) (Own.dn KX G ?_ ?_ ?_ ?_) (Own.dn KX G ?_ ?_ ?_ ?_) (Own.dn KX G ?_ ?_ ?_ ?_) (Own.dn KX G ?_ ?_ ?_ ?_) (Own.dn KX G ?_ ?_ ?_ ?_) (Own.dn KX G ?_ ?_ ?_ ?_) (P0 KX G ?_) (P0 KX G ?_) (P0 KX G ?_) (P0 KX G ?_) (P0 KX G ?_) (P0 KX G ?_) (P0 KX G ?_) (P0 KX G ?_) (P0 KX G ?_) (P0 KX G ?_) (P0 KX G ?_) (P0 KX G ?_)
  any_goals k_is
