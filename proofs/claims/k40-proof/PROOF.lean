import PyProof.Rows.All
import Wide.All
import OpenK.AllK
import Wide.FinOn
import Lean
import PyProof.EqAt
import PyProof.EqKinds
import PyProof.TupleCall
import PyProof.NeKinds
import PyProof.IsiSeqPairs
import PyProof.IsiNone
import KE.KSortTup
import KE.KRevSl
import KE.KDictList
import PyProof.Rows.DictUnroll
import PyProof.DictItems
import KE.KPairComp
import PySem.Challenge.RW_roofpost_k40_one_road
set_option Elab.async false
set_option linter.all false
open Array (ext toList)
open Array.Perm (trans)
open List (length map_id ofFn)
open List.Pairwise (map of_map)
open List.Perm (swap)
open List.Sublist (refl)
open Option (getD_none map_some)
open PUnit (unit)
open PySem.Builtin.Frozenset (newClass updateFrom)
open PySem.Builtin.List (listSameRef listTouch)
open PySem.Builtin.Range (rangeSize)
open PySem.Builtin.Slice (sliceApplied)
open PySem.Builtin.SmallTypes (stopIteration)
open PySem.Builtin.Tuple (tupleHashOf tupleItemsOf tupleTooMany)
open PySem.Code (isFrame)
open PySem.Data (seq)
open PySem.IsiPair (bool_bool bool_int bool_list bool_str int_bool int_list int_str int_tuple str_bool str_int str_list str_str str_tuple)
open PySem.Obj (putSet)
open PySem.Paired (snoc)
open PySem.PassesOwn (never)
open PySem.SeqAt (ne_of_list_tuple)
open PySem.Value (type)
open PySem.W (codeIn fnOf handedIn isFn lookIn makesIn mg_of nsIn plainOver takerIn)
open PySem.W renaming Frag→FAa
theorem wQ0:PySem.Challenge.rw_roofpost_k40_one_road.wellSaid=true:=by decide +kernel
local macro_rules|`(tactic|omega)=>`(tactic|first|with_reducible decide|with_reducible assumption|lia|omega (config:={}))
set_option hygiene false
local macro_rules|`(⋯)=>`(by omega)
local macro_rules|`(‹m›)=>`(by walk_at "m")|`(‹p›)=>`(by walk_at "p")
local macro_rules|`(command|universe tw $xs*)=>do
 let f:=fun x=>Lean.mkIdent (.mkSimple s!"tw{(`PySem.Challenge.cw_roofpost_k40_one_road_holds++x).hash}")
 let ns:=xs.map (f ·.getId)++(Array.range 675).map fun i=>f (.mkSimple s!"o_{i}")
 `(structure PySem.W.Fast:Prop where(tw17466870936227022898 tw12245407836652709804 $ns*:True))
universe tw heap_1 heap_7 heap_670 view_1 env_2 sts_10 sts_32 sts_47 sts_62 sts_77 sts_92 sts_107 sts_156 sts_229 sts_302 sts_304 sts_530 sts_608 tree_8 tree_31 tree_46 tree_61 tree_76 tree_91 tree_106 tree_155 tree_228 tree_301 tree_302 tree_449 tree_526 tree_607 tree_669
local macro_rules | `(tactic| walk_at "m")=>`(tactic| first | with_reducible assumption | with_reducible exact oF | with_reducible exact t_t | with_reducible exact t_a (by assumption) | with_reducible exact t_hs | with_reducible exact v_n | ((with_reducible refine oC ?_);walk_at "m") | exact oF | ((with_reducible refine t_R ?_);walk_at "m") | ((with_reducible refine v_R ?_);walk_at "m"))
local macro_rules | `(tactic| walk_at "p")=>`(tactic| first | exact .hd | exact .tl .hd | exact .tl (.tl .hd) | exact .tl (.tl (.tl .hd)) | exact .tl (.tl (.tl (.tl .hd))) | exact .tl (.tl (.tl (.tl (.tl .hd)))) | exact .tl (.tl (.tl (.tl (.tl (.tl .hd))))) | exact .tl (.tl (.tl (.tl (.tl (.tl (.tl .hd)))))) | exact .tl (.tl (.tl (.tl (.tl (.tl (.tl (.tl .hd))))))) | exact .tl (.tl (.tl (.tl (.tl (.tl (.tl (.tl (.tl .hd)))))))) | exact .tl (.tl (.tl (.tl (.tl (.tl (.tl (.tl (.tl (.tl .hd))))))))) | exact .tl (.tl (.tl (.tl (.tl (.tl (.tl (.tl (.tl (.tl (.tl .hd)))))))))) | with_reducible assumption)
local macro_rules | `(tactic| walk_at "s")=>`(tactic| first | exact oJ (by walk_at "m") | exact o5 rfl)
local macro_rules | `(tactic| walk_at "l")=>`(tactic| first | with_reducible exact Le.refl _ | (with_reducible refine Le.hd ?_;walk_at "l") | (with_reducible refine Le.tl ?_;walk_at "l"))
local macro_rules | `(tactic| walk_at "k")=>`(tactic| refine qu (by walk_at "m") (by walk_at "m") (by assumption) (by first | decide | omega) (λ_=>by walk_at "p") ?_)
local macro_rules | `(tactic| walk_at "a")=>`(tactic| repeat walk_at "w")
local macro_rules | `(tactic| walk_at "d")=>`(tactic| ((first | with_reducible refine uc ?_ | with_reducible refine ue ?_ | with_reducible refine vb ?_ | with_reducible refine JQ ?_);repeat walk_at "w"))
local macro_rules | `(tactic| exists $t:term)=>`(tactic| (refine $t;repeat walk_at "w"))
local macro_rules | `(tactic| walk_at "w")=>`(tactic| first
 | ((with_reducible show wM (EV.nm _) _ _ _);refine w_nm rfl ?_)
 | (with_reducible first | refine w_o2 ?_ | refine rG ?_ | refine w_cs ?_ | refine qg ?_ | refine w_fn ?_ | refine s_sq ?_ | refine s_to ?_ | refine BW ?_ | refine BP ?_ | refine AC ?_ | refine DS ?_ | refine ra ?_ | refine qc ?_ | refine Fa ?_ | refine GZ ?_ | refine Ld ?_ | refine Eo ?_ | refine GT ?_ | refine w_ge ?_ | refine w_lt ?_ | refine w_le ?_ | refine w_gt ?_ | refine FC ?_ | refine Jd ?_ | refine He ?_ | refine rX ?_ | refine Fy λ_=>?_ | refine Dv ?_ | refine J2 ?_ | refine uR ?_ | refine ite_tt ?_ | refine ite_ff ?_ | refine C2 ?_ | refine ite_nf ?_ | refine HS ?_ | refine w_ts ?_ | refine kb_i ?_ | refine w_an ?_ | refine w_or ?_ | refine w_no ?_ | refine Eu ?_ | refine GV ?_ | refine C4 ?_ | refine w_noE ?_ | refine HL (by first | decide | omega) ?_ | refine u6 (by first | decide | omega) ?_ | refine Hq (by first | decide | omega) ?_ | refine Lf (by first | decide | omega) ?_ | refine K8 ?_ | refine J3 ?_ | refine Mf ?_ | refine CH ?_ | refine oU ?_ | refine qy ?_ | refine xD ?_ | refine turn_bk ?_ | refine Kx ?_ | refine yt ?_ | refine KG ?_ | refine w_neS ?_ | refine DE ?_ | refine E1 ?_)
 | ((with_reducible show wM (meE _ _ _) _ _ _);refine w_me ?_)
 | ((with_reducible show wM (EV.fld _ _) _ _ _);refine sh ?_)
 | ((with_reducible show EV.wU none _ _);refine pc ?_)
 | ((with_reducible show wF (lenE [_]) _ _);refine uz (by walk_at "s") ?_)
 | ((with_reducible show wF (tupleE [_]) _ _);refine Ea (by walk_at "s") ?_)
 | ((with_reducible show wM (mbE _ noM _ _) _ _ _);refine EC ?_)
 | ((with_reducible show wF (ixE (E.d (D.tup _)) (E.d (D.int _))) _ _);refine pB rfl rfl ?_)
 | ((with_reducible show wF (ixE (E.ref _) (E.d (D.int _))) _ _);refine oT (by walk_at "m") rfl ?_)
 | ((with_reducible show wF (EV.stF setE (E.ref _) (E.d (D.int _)) _) _ _);refine ud (by walk_at "m") rfl (by walk_at "p") ?_)
 | ((with_reducible show kt _ _ _ _ _);refine rp (by walk_at "p") ?_)
 | ((with_reducible show kmb _ _ _ _ _ _);refine⟨_,_,rfl,by walk_at "m", ?_⟩)
 | ((with_reducible show kme _ _ _ _ _ _);refine⟨_,_,_,rfl,by walk_at "m", ?_⟩)
 | ((with_reducible show kfd _ _ _ _);refine⟨_,_,_,_,rfl,by walk_at "m", rfl,?_⟩)
 | ((with_reducible show _<=lim/\_);refine⟨NI rfl,?_⟩)
 | ((with_reducible show ∀_:Nat,_);intro _)
 | with_reducible refine⟨_,rfl,?_⟩
 | with_reducible refine⟨_,_,rfl,rfl,?_⟩
 | with_reducible refine⟨_,_,_,rfl,rfl,rfl,?_⟩)
local macro_rules
 |`(tactic|tm_at"b")=>`(tactic|(obtain⟨φ,I,ν,S,e,S',r,n,e1,k⟩:=q))
 |`(tactic|tm_at"c")=>`(tactic|(walk_at "a"))
 |`(tactic|tm_at"e")=>`(tactic|(intro X hP hw hK hc i aa s B H E I hf st hg))
 |`(tactic|tm_at"f")=>`(tactic|(obtain⟨φ,I,ν,S,src,S',r,n,e1,k⟩:=q;obtain⟨es,S1,e2,e3⟩:=oG e1;refine⟨φ,I,ν,S,es,S1,r,n,e2,λvs H1 af I1 r1 u1 h1=>?_⟩))
 |`(tactic|tm_at"g")=>`(tactic|(intro aa s B H x y v u Q I rx ry h))
 |`(tactic|tm_at"h")=>`(tactic|(obtain⟨p,xs,rfl,h1,h2⟩:=pz hb;cases rv;obtain⟨ab,_,t,_⟩:=I.list (rdL h1);have t:=t.isList))
local macro_rules
 |`(tactic|tm_at"i")=>`(tactic|(obtain⟨f0,f1,f2,f3,f4,f5⟩:=hf it (by simp)))
 |`(tactic|tm_at"j")=>`(tactic|(tm_at"b";obtain⟨d1,S1,e2,e3⟩:=oG e1))
 |`(tactic|tm_at"n")=>`(tactic|(refine map _ (S:=(·≠·)) (R:=λx y=>x≠y/\k x=h/\k y=h/\x∈L/\y∈L) (λx y ⟨ne,e1,e2,m1,m2⟩ e=>ne (one x m1 y m2 e (e1.trans e2.symm))) ?_;refine Qm (R:=(·≠·)) (λ{x y} hx hy ne=>?_) (nd.filter λl=>k l == h);obtain⟨m1,e1⟩:=z_.mp hx;obtain⟨m2,e2⟩:=z_.mp hy;exact⟨ne,by simpa using e1,by simpa using e2,m1,m2⟩))
set_option maxRecDepth 100000
open PySem renaming wpAny_bind→a_,Value→b_,wpAny_pure→d_,Shared→e_,Addr→h_,model→t_,wpAny→u_,Expr→y_,sizeLine→B_,starEach→D_,Program→E_,wpAny_newObj_type→K_,Around→Mn,World→Mo,Heap→Mr,wpAny_call_entry→MI,NameKind→MK,codeAny_builtin→MN,mainGlobals→MR,sizeLine_eq→MS,wpAny_callSpecial?_slot→MU,wpAny_holding→MV,eval→MW,compareOp→MX,plainId_quiet→MZ,wpAny_mono→M6,assignEach→M7,Scope→M_,wpAny_truthy_bool→Nc,wpAny_setState_of→Ng,attributeBase→Nh,cLine→Ni,SetTable→Nl,Stmt→Nr,wpAny_Call_Name_kw→Nt,wpAny_seqItems→NA,sysModules→ND,Builtin→NE,binaryOp→NG,wpAny_of_eq→NH,foldedSetIterable→NJ,wpAny_updateSeq→NL,cellsFrom→NN,wpAny_isInstance→NO,wpAny_passesOwn→NU,bootBuiltins→NW,wpAny_pyIter_list→NX,wpAny_field→NZ,backTo→N4,swapsWith→N6,wpAny_setField→N9,wpAny_typeNameOfWhole_keyiter→Od,codeAny_mono→Oe,holding→OA,codeAny→OB,wpAny_typeOf→OC,argBest→OD,wpAny_attempt→OM,wpAny_specialOf→OQ,wpAny_setField_rec→OX,keywordEach→O2,sliceBounds→O3,wpAny_Call_method0_late→O4,ofAClassStatement→Pc,IsPair→Pe,tupleKind→Pp,wpAny_rule→Pr,swapsWithSole→Ps,wpAny_letGo→Py,wpAny_execs_nil→PP,letOwnedTupleGo→PQ,wpAny_setEntries_of→P3,DictEntry→P8,pyNext→Qc,rawInt→Qd,call_meets→Qg,firstArgMember→Qh,isSubtype_stop→Qj,wpAny_runValue→Qo,wpAny_binaryOp_repeat_ref→Qw,standAt→Qz,searchCouldBeSeen→QD,wpAny_pyIter_slot→QF,swappedStores→QM,behindInMarks→QN,wpAny_comprehension_free→QW,backToKw→QY,noFill_tuple_add→QZ,pickOrder→Q6,wpAny_askSetting→Q7,builtinsNs→Rf,assign→Rg,getItem→Rk,typeIs_int→Rm,builtinLookup_eq_fast→Rw,wpAny_isOneOf_keyiter→Rx,pyIter→Ry,FuncData→RB,subscripted→RE,wpAny_tryCatch→RF,hashByValue→RI,wpAny_fieldsOf→RJ,codeAny_extend_loopS→RK,newFunctionEnv→RL,wpAny_updateSeq_pair→RM,wpAny_pyIter_keyiter→RN,PassesOwn→RR,getMethod→RS,callerA→RU,valueAt→RV,wpAny_standAt→R9,seq_tuple_add→R_,wpAny_handled→Sd,entryOfKey→Sh,wpAny_load→Si,wpAny_pyIter_tuple→Sj,IsPart→Sk,tupleKind_room_in1→Sm,wpAny_assign_Name→Sw,Operator→Sx,BindsTo→Sz,concat_meets→SA,slot_list_getitem→SB,Keyword→SC,wpAny_pyIter_enum→SD,wpAny_storeSet_of→SN,wpAny_dictEntries→SQ,isTrue→SY,lastMarks→SZ,seqIndex?→S7,typeOf→S8,updateSeq→Tc,again→Tf,seqIndex_of→Tk,atKey→Tp,wpAny_throw→Tq,IsZip→Tr,collect→Tu,wpAny_Name→Tw,Result→TB,wpAny_call→TD,bindL→TH,bindC→TJ,PlainAttrs→TL,setItem→T5,Code→T6,newList→Ue,Meets→Uf
open List renaming length_map→c_,length_append→g_,getElem?_eq_getElem→i_,getElem?_eq_some_iff→j_,mem_singleton→m_,mem_cons_of_mem→n_,map_append→o_,mem_cons_self→p_,size_toArray→v_,map_map→w_,mem_cons→x_,mem_filter→z_,getD_eq_getElem?_getD→C_,mem_map→F_,length_cons→G_,all_eq_true→H_,map_cons→I_,mem_append→L_,replicate→Mm,length_singleton→Ms,mem_append_right→Mv,length_replicate→Mw,getElem?_map→Mx,length_filter_le→MB,length_range→MD,map_congr_left→ME,append_assoc→MF,mem_range→MG,nodup_cons→MH,range→MO,getElem?_append_right→MT,append_nil→MY,length_take→M8,getElem?_append_left→M9,length_drop→Nd,getElem_mem→Nf,filter_append→Nn,filter_eq_self→No,mem_append_left→Np,length_eq_zero_iff→Nu,getElem?_eq_none→Nv,all_cons→Nw,perm_append_comm→Ny,mem_of_getElem?→NC,contains_iff_mem→NQ,getElem?_zip_eq_some→NS,lookup→NY,lookup_cons→N0,getElem?_replicate→N7,nodup_nil→N8,any_eq_true→Oc,range_succ_eq_map→Oh,drop_eq_nil_of_le→Oi,take_of_length_le→Oj,filter_eq_nil_iff→Ol,zip_cons_cons→On,take_append_drop→Oq,getElem?_set_self→Os,filter_sublist→Oy,mem_flatMap→Oz,nodup_append→OH,drop_eq_getElem_cons→OI,mem_of_find?_eq_some→OJ,any_cons→OL,getElem?_set_ne→OP,length_set→OT,find?_cons→OU,forIn_cons→OV,length_zip→OW,filter_cons_of_pos→O5,filter_cons_of_neg→O6,length_pos_iff→Pb,mem_map_of_mem→Pf,eraseIdxIfInBounds_toArray→Pg,mem_iff_getElem?→Pn,not_mem_nil→Px,ext_getElem→Pz,getElem_toArray→PD,mem_of_mem_take→PF,perm_middle→PH,map_drop→PJ,map_take→PK,mem_of_mem_drop→PL,map→PN,mem_zipIdx_iff_getElem?→P0,getElem?_range→P4,perm_append_comm_assoc→P7,filterMap_cons→Qa,mem_filterMap→Qe,getElem?_take→Qp,map_replicate→Qt,length_zipIdx→Qu,pairwise_iff_getElem→Qv,getElem?_eq_none_iff→Qx,getElem_map→QA,nodup_range→QC,foldl_append→QE,getElem?_inj→QH,filter_cons→QI,append_cons→QJ,pairwise_cons→QR,length_erase_of_mem→QT,getElem?_drop→QV,cons_append→Q8,flatMap_nil→Q_,mem_reverse→Ra,any_eq_false→Rh,of_mem_zip→Ri,filter_map→Rq,flatMap_cons→Rr,mem_of_mem_erase→Rv,map_nil→RT,all_map→RW,replicate_succ→R4,map_eq_nil_iff→R5,flatMap_append→R6,Pairwise→Sc,foldl_cons→So,append_of_mem→Sq,findIdx?_cons→Sr,mem_replicate→Ss,any_append→Su,find?_eq_none→Sv,any_map→SE,pairwise_map→SK,ext_getElem?→SR,getElem_ofFn→SS,all_eq_false→SU,filter_congr→SW,Perm→Td,zip_map→Tv,Nodup→TV,nil_append→TX,filter_nil→TY
open PySem.Heap renaming get?_push_of_some→f_,get?_push_size→r_,lt_size→Mq,get?_update_other→Mz,get?_update_self→ML,size_push→Na
open Bool renaming and_eq_true→k_,false_ne_true→q_,eq_iff_iff→Nq,and_eq_false_iff→Ph,not_true→QU,not_eq_true'→Rn,false_and→Rz
open Array renaming getElem?_eq_getElem→l_,getElem?_eq_some_iff→MJ,length_toList→MP,getElem_mem→NK,getElem?_eq_none→NM,getD_eq_getD_getElem?→NR,perm_iff_toList_perm→Ot,mem_iff_getElem?→OG,mem_of_getElem?→Pi,mem_toList_iff→Pw,getElem_of_mem→PC,getElem?_toList→PU,size_extract→P6,getElem?_extract→Ro,forIn_toList→Rp,getElem_toList→RG,getElem?_push→RY,getD→Ug
open Nat renaming le_refl→s_,le_trans→A_,lt_of_lt_of_le→J_,zero_le→Mu,ne_of_lt→My,lt_succ_self→Nb,lt_succ_of_lt→Nz,le_of_ble_eq_true→NI,lt_irrefl→NT,not_lt_zero→Ov,lt_of_le_of_lt→OY,le_of_lt→O7,ne_of_gt→O8,le_add_right→Pa,le_succ_of_le→Pt,lt_trichotomy→Pu,le_succ→P5,succ_le_succ→Q1,le_of_not_lt→Q2,min_eq_left→RO,pow_le_pow_right→RQ,add_le_add_left→R7,sub_self→SH,succ_pos→SI,le_of_lt_succ→SJ,le_of_eq→TC,zero_add→TQ,lt_or_ge→TR,not_lt→Ua,mod_lt→Uc,not_le→Ud
open Option.some renaming inj→Mt
open PyProof.Rows renaming callWith_type1→MA,slot_tuple_getitem→N5,callWith_builtin1→Pq,seqObj→Qk,AllBare→Qy,envOfC→Rj,subscriptTail_builtinR→Rl,IsTup→R8,tupleItemsOf_→Sa,subscriptTail→Sb,listUpdate_at→Sf,listItems_at→SG,IntsAre→Tt,boot_range→Tz,Subscript_→TK,Call_→T3
open Int renaming toNat_natCast→MC,eq_ofNat_of_zero_le→NB,le_refl→PM,emod_lt_of_pos→Qs,emod_nonneg→Rt,emod_eq_of_lt→SX
open Ne renaming symm→MQ
open True renaming intro→M5
open PySem.AutoSeq1 renaming wpAny_loadPart'→Nj
open Prod.mk renaming injEq→Nm
open PySem.SetTable renaming insertAt→Nx,runEnd→Op,below→PB,bits→RX,turns→TW,leap→Ub
open PySem.Around renaming under_plainId→NF
open Sum renaming inl→NV,inr→OO
open PySem.F renaming plain_list_iadd→N3,slot_dict_keyiterator_next→Om,plain_min_loop→OE,called_set→Pd,entry_proto_collect→Pj,plain_proto_collect→Pl,slot_zip_next→PY,plainAttrs_list→PZ,slot_tuple_iterator_next→Qi,entry_list_iadd→QG,args_tuple_add_2→Q0,entry_tuple_add→Rs,slot_enumerate_next→Ru,slot_tuple_add→RC,plain_extend_loop→RZ,slot_tuple_hash→SL,args_zip_next_1→SO
open PySem.Obj renaming data_mapFields→N_,isFreed_of_fields→Oo,mapSeq→OK,cls_mapFields→O_,mapFields→Sg
open PyProof.Rows.F renaming plain_set_update_loop→Oa,entry_set_update_loop→Q5
open PySem.Builtin.Tuple renaming tupleExact→Of
open PySem.Calls renaming callWith_builtin→Og,spliced_cons→OR,spliced_nil→O9,Name_function_global→Qb
open List.Perm renaming append_left→Ow
open PySem.Builtin.List renaming listExtendWith→Ox,listLengthHint→Qn,listTooLong→Tl
open Function renaming comp→ON
open PySem.W renaming emptyDict→OZ,findIn→PR,keepIn→QQ,instObj→Rb,plainGet→Sy,kas_rev→SF,hasDictIn→S6,plainGet_of→Tg,callWith_K0→Ti,callWith_K→TF,given→TN,Looks→TU,OpenLaw→T7,WShape→T9
open PySem.SetTable.layClean renaming free→Pv
open Classical renaming byContradiction→PV
open List.cons renaming injEq→PX
open PySem.SeqAt renaming EqAt→P_,RcNeAt→S_,EqAt→TZ
open PySem.Str renaming ofString→Qf
open PySem.SetTable.probe renaming go→Ql
open List.Pairwise renaming imp_of_mem→Qm
open PySem.MeetsSeq renaming plain_remove_loop→Qq,entry_remove_loop→Qr
open PySem.Challenge renaming rw_roofpost_k40_one_road→QK
open PySem.Data renaming cell→QX,fields→RA
open PySem.Builtin.Slice renaming slicePlaces→RD,sliceAdjust→Tj
open ForInStep renaming done→RH,yield→TM
open Option renaming isSome_some→Sl
open PySem.Walks renaming list→Sn
open Iff renaming rfl→SV,trans→Te
open False renaming elim→Ts
open PySem.Builtin.SmallTypes renaming nextOf→T_
set_option bootstrap.genMatcherCode false
noncomputable section
variable{u cd oc vl vu:PySem.Value}{g':Array PySem.GenState}{t' j n x1 ep few np nc nb gf en:Nat}{d':PySem.Drawn}{ch fp φ af ao al ex:List PySem.Addr}{eC aa:List (PySem.Addr×PySem.Obj)}{s' am s2:PySem.Shared}{pos p' py c7 aj ax:PySem.Pos}{es:Array (Int×PySem.Value)}{tg iter aF:PySem.Expr}{body:List PySem.Stmt}{vs ab its' eN:List PySem.Value}{hi:Option Int}{tk i7 neg lk:Bool}{op aV:PySem.CmpOp}{mA:PySem.Str->Option PySem.Value}{ns hs:List Int}{kw:List (PySem.Str×PySem.Value)}{env:PySem.Env}{fd:PySem.FuncData}{ps bE N':List PySem.Str}{qual:PySem.Str}{scope:PySem.Scope}{params:PySem.Arguments}{an od:Option PySem.Addr}{cj:Array (Option PySem.Value)}{ae cells ac:Array PySem.Value}{args aO fQ aI aE:List PySem.Expr}{ks:List Nat}{h':PySem.Heap}{fa globals l1 l2:PySem.Addr}{bt:Nat->Nat->Bool}{eqf dt:Nat->Bool}{gs:List PySem.Comprehension}{low most:Int}{ai:List (Int×Int)}
namespace L2
open PySem PySem.Spec PyProof.Rows
abbrev Key:=Sum Int Str
noncomputable def keyIs:Key->b_->Bool
 | .inl k,v=>b_.isInt k v
 | .inr x,v=>b_.isStrOf x v
noncomputable def keyH(w:Mo):Key->Int
 | .inl k=>hashInt k
 | .inr x=>hashStr w x
theorem pY:∀{k:Key}{v:b_},keyIs k v=true->(∃i t,k=NV i/\v=b_.int i t)\/(∃x t,k=OO x/\v=b_.str x t)
 | .inl i,v,h=>by
  obtain⟨t,e⟩:=b_.isInt_shape (k:=i) (v:=v) h;exact .inl ⟨i,t,rfl,e⟩
 | .inr x,v,h=>by
  obtain⟨t,e⟩:=b_.isStrOf_shape (x:=x) (v:=v) h;exact .inr ⟨x,t,rfl,e⟩
def JN(i:Int)(t:Tok):keyIs (.inl i) (.int i t)=true:=by simp[keyIs,b_.isInt]
def Kj(x:Str)(t:Tok):keyIs (.inr x) (.str x t)=true:=by simp[keyIs,b_.isStrOf]
def Jm(a b:Int):decide ((NV a:Key)=NV b)=(a == b):=by
 by_cases e:a=b
 ·subst e;simp
 ·have h:¬(NV a:Key)=NV b:=λq=>e (NV.inj q)
  rw[decide_eq_false h];exact(beq_eq_false_iff_ne.mpr e).symm
def Cr(a b:Str):decide ((OO a:Key)=OO b)=decide (a=b):=by
 by_cases e:a=b
 ·subst e;simp
 ·have h:¬(OO a:Key)=OO b:=λq=>e (OO.inj q)
  rw[decide_eq_false h,decide_eq_false e]
def EY(a:Int)(b:Str):decide ((NV a:Key)=OO b)=false:=decide_eq_false (λq=>nomatch q)
def J8(a:Str)(b:Int):decide ((OO a:Key)=NV b)=false:=decide_eq_false (λq=>nomatch q)
def mixKind(prog:E_)(w:Mo):PySem.KeyKind prog w Key where
 is:=keyIs
 hash:=keyH w
 inj:=λv a b ha hb=>by
  rcases pY ha with⟨i,t,rfl,rfl⟩ | ⟨x,t,rfl,rfl⟩
  ·rcases pY hb with⟨j,u,rfl,e⟩ | ⟨y,u,rfl,e⟩
   ·injection e with e1 _;rw[e1]
   ·exact nomatch e
  ·rcases pY hb with⟨j,u,rfl,e⟩ | ⟨y,u,rfl,e⟩
   ·exact nomatch e
   ·injection e with e1 _;rw[e1]
 byValue:=λk v h=>by
  rcases pY h with⟨i,t,rfl,rfl⟩ | ⟨x,t,rfl,rfl⟩<;>rfl
 pyHash:=λhv h=>by
  rcases pY hv with⟨i,t,rfl,rfl⟩ | ⟨x,t,rfl,rfl⟩
  ·exact wpAny_pyHash_int h
  ·exact wpAny_pyHash_str h
 eqBool:=λhu hv h=>by
  rcases pY hu with⟨i,t,rfl,rfl⟩ | ⟨x,t,rfl,rfl⟩
  ·rcases pY hv with⟨j,u,rfl,rfl⟩ | ⟨y,u,rfl,rfl⟩
   ·rw[Jm] at h;exact wpAny_eqBool_int h
   ·rw[EY] at h;exact P_.int_str i t y u _ _ _ _ h
  ·rcases pY hv with⟨j,u,rfl,rfl⟩ | ⟨y,u,rfl,rfl⟩
   ·rw[J8] at h;exact P_.str_int x t j u _ _ _ _ h
   ·rw[Cr] at h;exact wpAny_eqBool_str h
 «strs»:=λk x t v h=>by
  rcases pY h with⟨i,u,rfl,e⟩ | ⟨y,u,rfl,e⟩
  ·exact nomatch e
  ·injection e with e1 _
   subst e1;cases v<;>rfl
def Ch(prog:E_)(w:Mo)(i:Int)(t:Tok):(mixKind prog w).is (.inl i) (.int i t)=true:=JN i t
def Cp(prog:E_)(w:Mo)(x:Str)(t:Tok):(mixKind prog w).is (.inr x) (.str x t)=true:=Kj x t
inductive V where
 | non | bl (b:Bool) | int (i:Int) | str (x:Str) | ref (a:h_) | ty (n:String)
 deriving DecidableEq
def RelV:V->b_->Prop
 | .non,u=>u=b_.none
 | .bl b,u=>u=b_.bool b
 | .int i,u=>∃t,u=b_.int i t
 | .str x,u=>∃t,u=b_.str x t
 | .ref a,u=>u=b_.ref a
 | .ty n,u=>u=type n
abbrev Vals:List V->List b_->Prop:=Paired RelV
theorem Vals.length{xs:List V}{us:List b_}(r:Vals xs us):xs.length=us.length:=Paired.length r
theorem Vals.get:∀{xs:List V}{us:List b_}{i:Nat}{x:V},Vals xs us->xs[i]?=some x->∃u,us[i]?=some u/\RelV x u
 | _,_,_,_,.nil,e=>by simp at e
 | _,_,0,_,.cons r _,e=>by simp at e;subst e;exact⟨_,rfl,r⟩
 | _,_,i+1,x,.cons _ t,e=>by
  obtain⟨u,h1,h2⟩:=Vals.get (i:=i) (x:=x) t (by simpa using e);exact⟨u,by simpa using h1,h2⟩
theorem Vals.set{x:V}{u:b_}(r:RelV x u):∀{xs:List V}{us:List b_} (i:Nat),Vals xs us->Vals (xs.set i x) (us.set i u)
 | _,_,_,.nil=>.nil
 | _,_,0,.cons _ t=>.cons r t
 | _,_,i+1,.cons q t=>.cons q (Vals.set r i t)
theorem Vals.append:∀{xs ys:List V}{us ws:List b_},Vals xs us->Vals ys ws->Vals (xs++ys) (us++ws)
 | _,_,_,_,.nil,s=>s
 | _,_,_,_,.cons r t,s=>.cons r (Vals.append t s)
theorem Vals.take:∀{xs:List V}{us:List b_} (n:Nat),Vals xs us->Vals (xs.take n) (us.take n)
 | _,_,0,_=>.nil
 | _,_,_+1,.nil=>.nil
 | _,_,n+1,.cons r t=>.cons r (Vals.take n t)
theorem Vals.drop:∀{xs:List V}{us:List b_} (n:Nat),Vals xs us->Vals (xs.drop n) (us.drop n)
 | _,_,0,r=>r
 | _,_,_+1,.nil=>.nil
 | _,_,n+1,.cons _ t=>Vals.drop n t
def RelO:Option V->Option b_->Prop
 | some v,some u=>RelV v u
 | none,none=>True
 | _,_=>False
def KV{κ:Type}:List (κ×V)->List (κ×b_)->Prop:=Paired λ(p:κ×V) (q:κ×b_)=>p.1=q.1/\RelV p.2 q.2
noncomputable def kV:Key->V
 | .inl i=>.int i
 | .inr x=>.str x
inductive HO where
 | lst (xs:List V)
 | tup (xs:List V)
 | dK (kvs:List (Key×V)) | dT (kvs:List (List Key×V))
 | set (S:Int->Bool) (n:Nat)
 | ins (C dx:h_) (fs:List (Str×V))
 | own (x:h_)
 | frz (o:Obj) (u:HO)
 | tbl (ps:Array b_)
abbrev Hp:=h_->Option HO
noncomputable def upd(H:Hp)(a:h_)(o:HO):Hp:=λb=>if b=a then some o else H b
def oK{H:Hp}{a:h_}{o:HO}:upd H a o a=some o:=by unfold upd;rw[if_pos rfl]
def oI{H:Hp}{a b:h_}{o:HO}(h:b≠a):upd H a o b=H b:=by unfold upd;rw[if_neg h]
def Ec{H:Hp}{a b:h_}{o u:HO}(h:H a=some o)(h':H b=some u)(d:o≠u):a≠b:=by
 intro e;subst e;rw[h] at h';exact d (Mt h')
def qI{H:Hp}{a b:h_}{o:HO}(h:H a=some o)(h':H b=none):a≠b:=by
 intro e;subst e;rw[h] at h';cases h'
section
variable (P:E_)(w:Mo)
def ObjOk(H:Hp)(h:Mr)(a:h_):HO->Prop
 | .lst xs=>xs.length<=B_/\∃(ab:List b_) (n:Nat),Vals xs ab/\h.get? a=some { cls:=.type "list", data:=.seq ab.toArray n }
 | .tup xs=>xs.length<=B_/\∃ab:List b_,Vals xs ab/\R8 h a ab.toArray
 | .dK kvs=>kvs.length<=B_/\(a == ND)=false/\∃vs,KV kvs vs/\h.DictOf (mixKind P w) a vs
 | .dT kvs=>kvs.length<=B_/\(a == ND)=false/\∃xs:List (List Key×h_×b_),
   Paired (λ(p:List Key×V) (q:List Key×h_×b_)=>p.1=q.1/\H q.2.1=some (.tup (p.1.map kV))/\RelV p.2 q.2.2) kvs xs ∧
   ∃o es ep,h.get? a=some o/\o.ExactDict/\o.data=.dict es ep/\es.toList=xs.map (Sh (Pp (mixKind P w)))/\(xs.map (·.1)).Nodup
 | .set S n=>h.SetOf (intKind P w) a S n
 | .ins C dx fs=>H dx=some (.own a)/\fs.length<=1000/\dx≠a/\h.get? a=some (Rb C dx) ∧
   ∃mA,h.Ns1 dx mA/\(∀f,RelO (fs.lookup f) (mA f))/\PySem.Within mA (fs.map (·.1))
 | .own _=>∃o,h.get? a=some o
 | .frz o u=>h.get? a=some o/\ObjOk H h a u
 | .tbl ps=>h.get? a=some { cls:=.none,data:=.fields ps }
def HOk(H:Hp)(h:Mr):Prop:=∀a o,H a=some o->ObjOk P w H h a o
end
section
variable{P:E_}{w:Mo}{H H':Hp}{h:Mr}{a:h_}{o:HO}
theorem ObjOk.lt(x:ObjOk P w H h a o):a < h.objs.size:=by
 cases o with
 | lst xs=>obtain⟨_,_,_,_,e⟩:=x;exact Mq e
 | tup xs=>obtain⟨_,_,_,p⟩:=x;exact p.lt
 | dK kvs=>obtain⟨_,_,_,_,o,_,_,e,_⟩:=x;exact Mq e
 | dT kvs=>obtain⟨_,_,_,_,o,_,_,e,_⟩:=x;exact Mq e
 | set S n=>obtain⟨o,_,_,_,e,_⟩:=x;exact Mq e
 | ins C dx fs=>obtain⟨_,_,_,e,_⟩:=x;exact Mq e
 | own y=>obtain⟨_,e⟩:=x;exact Mq e
 | frz ob u=>obtain⟨e,_⟩:=x;exact Mq e
 | tbl ps=>exact Mq (show h.get? a=some _ from x)
theorem Paired.mapP{α β:Type}{F G:α->β->Prop}:∀{gx:List α}{gy:List β},Paired F gx gy->(∀a b,F a b->G a b)->Paired G gx gy
 | _,_,.nil,_=>.nil
 | _,_,.cons r t,f=>.cons (f _ _ r) (Paired.mapP t f)
def ObjOk.stay(x:ObjOk P w H h a o)(k:∀b u,(b=a\/H b=some (.own a))->h.get? b=some u->h'.get? b=some u)(ho:∀b,H b=some (.own a)->H' b=some (.own a))(ht:∀b xs,H b=some (.tup xs)->H' b=some (.tup xs)):ObjOk P w H' h' a o:=by
 induction o with
 | lst xs=>obtain⟨z,ab,n,r,e⟩:=x;exact⟨z,ab,n,r,k _ _ (.inl rfl) e⟩
 | tup xs=>obtain⟨z,ab,r,ob,e,c⟩:=x;exact⟨z,ab,r,ob,k _ _ (.inl rfl) e,c⟩
 | dK kvs=>obtain⟨z,y,vs,r,ob,es,ep,e,c⟩:=x;exact⟨z,y,vs,r,ob,es,ep,k _ _ (.inl rfl) e,c⟩
 | dT kvs =>
  obtain⟨z,y,xs,r,ob,es,ep,e,c⟩:=x;exact⟨z,y,xs,Paired.mapP r λp q z=>⟨z.1,ht _ _ z.2.1,z.2.2⟩,ob,es,ep,k _ _ (.inl rfl) e,c⟩
 | set S n=>obtain⟨ob,es,ep,t,e,c⟩:=x;exact⟨ob,es,ep,t,k _ _ (.inl rfl) e,c⟩
 | ins C dx fs =>
  obtain⟨d,z,ne,e,mA,⟨od,es,ep,e2,c⟩,r⟩:=x;exact⟨ho _ d,z,ne,k _ _ (.inl rfl) e,mA,⟨od,es,ep,k _ _ (.inr d) e2,c⟩,r⟩
 | own y=>obtain⟨ob,e⟩:=x;exact⟨ob,k _ _ (.inl rfl) e⟩
 | frz ob u ih=>obtain⟨e,q⟩:=x;exact⟨k _ _ (.inl rfl) e,ih q⟩
 | tbl ps =>
  have e:h.get? a=some { cls:=.none,data:=.fields ps }:=x;show h'.get? a=some { cls:=.none,data:=.fields ps };exact k a _ (.inl rfl) e
theorem HOk.lt(x:HOk P w H h)(e:H a=some o):a < h.objs.size:=(x a o e).lt
def HOk.fresh(x:HOk P w H h)(e:h.objs.size<=a):H a=none:=by
 cases q:H a with
 | none=>rfl
 | some u=>exact absurd (J_ (x.lt q) e) (NT _)
def HOk.kept(x:HOk P w H h)(k:∀b u,h.get? b=some u->h'.get? b=some u):HOk P w H h':=λa o e =>
 (x a o e).stay (λb u _ q=>k b u q) (λ_ q=>q) λ_ _ q=>q
def HOk.laid(x:HOk P w H h)(k:∀b u,h.get? b=some u->h'.get? b=some u)(hp:h.objs.size<=a)(new:ObjOk P w (upd H a o) h' a o):HOk P w (upd H a o) h':=λb u e=>by
 have hn:=x.fresh hp;by_cases hb:b=a
 ·subst hb;rw[oK] at e;cases e;exact new
 ·rw[oI hb] at e;exact(x b u e).stay (λc v _ q=>k c v q) (λc q=>by rw[oI (qI q hn)];exact q) λc xs q=>by rw[oI (qI q hn)];exact q
end
def Rd(H:Hp)(a:h_)(u:HO):Prop:=H a=some u\/∃o,H a=some (.frz o u)
def Rd.ok{P:E_}{w:Mo}{H:Hp}{h:Mr}{a:h_}{u:HO}(r:Rd H a u)(x:HOk P w H h):ObjOk P w H h a u:=by
 rcases r with r | ⟨o,r⟩
 ·exact x a u r
 ·obtain⟨_,q⟩:=x a _ r;exact q
def Mut:Option HO->Prop
 | some (.lst _)=>True
 | some (.dK _)=>True
 | some (.dT _)=>True
 | some (.set _ _)=>True
 | some (.ins _ _ _)=>True
 | _=>False
section
variable{P:E_}{w:Mo}{H:Hp}{h:Mr}{x e:h_}{o':HO}
def HOk.write(ok:HOk P w H h)(mu:Mut (H x))(he:e=x\/H e=some (.own x))(k:∀b u,b≠e->h.get? b=some u->h'.get? b=some u)(dX:∃u,h'.get? e=some u)(new:ObjOk P w (upd H x o') h' x o'):HOk P w (upd H x o') h':=λb u q=>by
 have gz:∀c y,H c=some (.own y)->c≠x:=λc y r z=>by subst z;rw[r] at mu;exact mu
 have iW:∀c xs,H c=some (.tup xs)->c≠x:=λc xs r z=>by subst z;rw[r] at mu;exact mu
 by_cases hb:b=x
 ·subst hb;rw[oK] at q;cases q;exact new
 ·rw[oI hb] at q;by_cases hbe:b=e
  ·have q':H b=some (.own x):=by
    rcases he with z | z
    ·exact absurd (hbe.trans z) hb
    ·rw[hbe];exact z
   rw[q] at q';cases q';obtain⟨v,hv⟩:=dX;exact⟨v,by rw[hbe];exact hv⟩
  ·refine(ok b u q).stay (λc v hc r=>k c v ?_ r) (λc r=>by rw[oI (gz c b r)];exact r) λc xs r=>by rw[oI (iW c xs r)];exact r
   rcases hc with rfl | hc
   ·exact hbe
   ·rintro rfl
    rcases he with z | z
    ·exact gz c b hc z
    ·rw[hc] at z;cases z;exact hb rfl
end
structure Un(fs ex:List h_)(H H':Hp)(h h':Mr):Prop where
 keep:∀b o,h.get? b=some o->H b=none->b∉fs->b∉ex->h'.get? b=some o
 slot:∀b o,h.get? b=some o->H b=none->b∈fs->b∉ex->∃sl,h'.get? b=some { o with slots:=sl }
 free:∀b o,h.get? b=some o->H b=none->b∉ex->H' b=none
 there:∀b o,h.get? b=some o->b∉ex->∃o',h'.get? b=some o'
 tups:∀b xs,H b=some (.tup xs)->H' b=some (.tup xs)
 frzs:∀b o u,H b=some (.frz o u)->H' b=some (.frz o u)
 tbls:∀b ps,H b=some (.tbl ps)->∃more,H' b=some (.tbl (ps++more))
section
variable{fs:List h_}{H H1:Hp}{h h1:Mr}{a x e:h_}{o:HO}
def Un.any(u:Un fs ex H H1 h h1){b:h_}{ob:Obj}(q:h.get? b=some ob)(n:H b=none)(hx:b∉ex):∃sl,h1.get? b=some { ob with slots:=sl }:=by
 by_cases hb:b∈fs
 ·exact u.slot b ob q n hb hx
 ·exact⟨ob.slots,u.keep b ob q n hb hx⟩
def Un.kept(k:∀b u,h.get? b=some u->h'.get? b=some u):Un fs ex H H h h':=
 ⟨λb ob q _ _ _=>k b ob q,λb ob q _ _ _=>⟨ob.slots,k b ob q⟩,λ_ _ _ n _=>n,λb ob q _=>⟨ob,k b ob q⟩,λ_ _ q=>q,λ_ _ _ q=>q,λ_ ps q=>⟨#[],by rw[q];simp⟩⟩
def Un.refl:Un fs ex H H h h:=Un.kept λ_ _ q=>q
def Un.laid(k:∀b u,h.get? b=some u->h'.get? b=some u)(hp:h.objs.size<=a)(hn:H a=none):Un fs ex H (upd H a o) h h' where
 keep:=λb u q _ _ _=>k b u q
 slot:=λb u q _ _ _=>⟨u.slots,k b u q⟩
 free:=λb u q n _=>by rw[oI (My (J_ (Mq q) hp))];exact n
 there:=λb u q _=>⟨u,k b u q⟩
 tups:=λb xs q=>by rw[oI (qI q hn)];exact q
 frzs:=λb u xs q=>by rw[oI (qI q hn)];exact q
 tbls:=λb ps q=>⟨#[],by rw[oI (qI q hn),q];simp⟩
def Un.write(mu:Mut (H x))(he:e=x\/H e=some (.own x))(k:∀b u,b≠e->h.get? b=some u->h'.get? b=some u)(dX:∃u,h'.get? e=some u):Un fs ex H (upd H x o) h h':=by
 have hx:∀b,H b=none->b≠x:=λb n z=>by subst z;rw[n] at mu;exact mu
 have hb:∀b,H b=none->b≠e:=λb n z=>by
  subst z
  rcases he with r | r
  ·exact hx b n r
  ·rw[n] at r;cases r
 have hm:∀b u,H b=some u->¬Mut (some u)->b≠x:=λb u q nm z=>by subst z;rw[q] at mu;exact nm mu
 refine⟨λb u q n _ _=>k b u (hb b n) q,λb u q n _ _=>⟨u.slots,k b u (hb b n) q⟩,λb u q n _=>by rw[oI (hx b n)];exact n,λb u q _=>?_,
  λb xs q=>by rw[oI (hm b _ q λz=>z)];exact q,λb u xs q=>by rw[oI (hm b _ q λz=>z)];exact q,λb ps q=>⟨#[],by rw[oI (hm b _ q λz=>z),q];simp⟩⟩
 by_cases hbe:b=e
 ·subst hbe;exact dX
 ·exact⟨u,k b u hbe q⟩
end
noncomputable def trk(h:Mr)(H:Hp):List h_:=(MO h.objs.size).filter λa=>(H a).isSome
def hidT(h:Mr)(H:Hp):Mr:=PySem.W.hideAll h (trk h H)
def Du(h:Mr)(H:Hp):(hidT h H).objs.size=h.objs.size:=PySem.W.hideAll_size _ _
def Kw{h:Mr}{H:Hp}{b:h_}{o:Obj}(e:h.get? b=some o)(n:H b=none):(hidT h H).get? b=some o:=
 PySem.W.hideAll_get _ e λhm=>by
  have q:(H b).isSome=true:=(z_.mp hm).2;rw[n] at q;simp at q
def J5{h:Mr}{H:Hp}{b:h_}{o:Obj}(e:(hidT h H).get? b=some o):h.get? b=some o/\H b=none:=by
 have e':h.get? b=some o:=PySem.W.of_hideAll (trk h H) e;refine⟨e',?_⟩;cases q:H b with
 | none=>rfl
 | some x =>
  have hm:b∈trk h H:=z_.mpr ⟨MG.mpr (Mq e'),by simp[q]⟩;have z:(hidT h H).get? b=none:=PySem.W.hideAll_none (trk h H) hm;rw[z] at e;cases e
structure Mod(K:FAa)(mg:Str->Option b_)(base:Mr):Prop where
 kin:K.In base
 glob:base.Ns MR mg
 blt:∃mb,base.Ns Rf mb/\∀x:Str,x ≠ "__name__"->mb x=NW x
 nolimit:base.NoLimit
structure Cx where
 prog:E_
 w:Mo
 K:FAa
 mg:Str->Option b_
 base:Mr
 A:Mn
 N:List Str
 s₀:e_
 H₀:Hp
 env:Env
 outer:List Env
 stack:List Env
 ex:List h_
 fn:Str->Bool
 calm:Bool
 pn:List (h_×Obj)
 xe:b_->e_->Prop
noncomputable def frs(l:List Env):List h_:=l.filterMap (·.frame)
abbrev Cx.fs(X:Cx):List h_:=frs X.outer
def Vis(sc:M_)(x:Str):Prop:=sc.names.lookup x=some .local\/sc.names.lookup x=some .cell\/sc.names.lookup x=some .free
def Loc(sc:M_)(x:Str):Prop:=sc.names.lookup x=some .local\/sc.names.lookup x=some .cell
def Look(env:Env)(h:Mr)(m:Str->Option b_)(x:Str)(u:b_):Prop:=
 (env.kindOf x=some .local/\m x=some u)\/((env.kindOf x=some .cell\/env.kindOf x=some .free)/\∃c,env.cells.lookup x=some c/\h.IsCell c (some u))
structure Cx.Ok(X:Cx):Prop where
 mod:Mod X.K X.mg X.base
 kind:X.env.scope.kind=.function
 glob:X.env.globals=MR
 blt:X.env.builtins=Rf
 above:X.s₀.heap.objs.size<=X.env.locals
 inj:∀x y c,X.env.cells.lookup x=some c->X.env.cells.lookup y=some c->x=y
 has:∀x,(X.env.kindOf x=some .cell\/X.env.kindOf x=some .free)->∃c,X.env.cells.lookup x=some c
 cab:∀x c,X.fn x=true->X.env.cells.lookup x=some c->X.s₀.heap.objs.size<=c
 hd:X.calm=true->X.A.handled=none
 frames:X.A.frames=some X.stack
 stk:X.stack=X.outer\/(X.stack=X.env::X.outer/\X.env.frame=some X.env.locals)
 exf:∀b∈X.ex,b≠X.env.locals/\∀x c,X.env.cells.lookup x=some c->c≠b
 bs:∀b o,X.base.get? b=some o->X.s₀.heap.get? b=some o/\X.H₀ b=none
 bsz:X.base.objs.size<=X.s₀.heap.objs.size
 noex:∀b o,X.base.get? b=some o->b∉X.ex
 exfs:∀b∈X.ex,b∉X.fs
 funs:X.s₀.heap.FunFrames X.base X.outer
 frf:∀b∈X.fs,X.H₀ b=none
structure Inv(X:Cx)(aa:List (h_×Obj))(B:List (Option V))(H:Hp)(s:e_):Prop where
 ok:X.Ok
 os:s.os=X.s₀.os
 bare:Qy s.gens
 base:Un X.fs X.ex X.H₀ H X.s₀.heap s.heap
 loc:∃m,s.heap.Ns X.env.locals m/\∀(i:Nat) (x:Str) (v:V),X.N[i]?=some x->B[i]?=some (some v)->Vis X.env.scope x->∃u,RelV v u/\Look X.env s.heap m x u
 cell:∀x c,X.env.cells.lookup x=some c->∃v,s.heap.IsCell c v
 free:H X.env.locals=none
 freeC:∀x c,X.env.cells.lookup x=some c->H c=none
 pin:∀p∈X.pn++aa,s.heap.get? p.1=some p.2/\H p.1=none/\p.1≠X.env.locals/\p.1∉X.fs/\∀v,p.2.data≠.cell v
 hok:HOk X.prog X.w H s.heap
 len:B.length=X.N.length
section
variable{X:Cx}{B:List (Option V)}{H H':Hp}{s:e_}
def Cx.Ok.nofr(ok:X.Ok){b:h_}{o:Obj}(e:X.base.get? b=some o):b∉X.fs:=λhb=>by
 have:=(ok.funs.mem hb).1;rw[e] at this;cases this
theorem Inv.bs(I:Inv X aa B H s):∀b o,X.base.get? b=some o->s.heap.get? b=some o/\H b=none:=λb o e =>
 ⟨I.base.keep b o (I.ok.bs b o e).1 (I.ok.bs b o e).2 (I.ok.nofr e) (I.ok.noex b o e),I.base.free b o (I.ok.bs b o e).1 (I.ok.bs b o e).2 (I.ok.noex b o e)⟩
def Inv.bk(I:Inv X aa B H s):∀b o,X.base.get? b=some o->s.heap.get? b=some o:=λb o e=>(I.bs b o e).1
theorem Inv.mod(I:Inv X aa B H s):Mod X.K X.mg X.base:=I.ok.mod
def Inv.kIn(I:Inv X aa B H s):X.K.In s.heap:=I.ok.mod.kin.keeps I.bk
theorem Inv.lt(I:Inv X aa B H s):X.env.locals < s.heap.objs.size:=let ⟨_,hn,_⟩:=I.loc;hn.lt
def Inv.sz(I:Inv X aa B H s):X.s₀.heap.objs.size<=s.heap.objs.size:=A_ I.ok.above (O7 I.lt)
def Inv.nofs(I:Inv X aa B H s){a:h_}(h:s.heap.objs.size<=a):a∉X.fs:=λhb=>by
 obtain⟨_,o,ho,_⟩:=I.ok.funs.mem hb;exact absurd (J_ (Mq ho) (A_ I.sz h)) (NT _)
def Inv.cne(I:Inv X aa B H s):∀x c,X.env.cells.lookup x=some c->c≠X.env.locals:=λx c e z=>by
 obtain⟨v,o,ho,hd⟩:=I.cell x c e;obtain⟨m,⟨o',es,ep,bo,bp,_⟩,_⟩:=I.loc;rw[z,bo] at ho;cases ho;rw[bp] at hd;cases hd
theorem Inv.funs(I:Inv X aa B H s):s.heap.FunFrames X.base X.outer:=by
 have all:∀(l:List Env),(∀b∈frs l,b∈X.fs)->X.s₀.heap.FunFrames X.base l->s.heap.FunFrames X.base l:=by
  intro l
  induction l with
  | nil=>intro _ _;trivial
  | cons env r ih =>
   intro hs hl;obtain⟨hk,⟨L,o,hf,hn,ho,hd⟩,hr⟩:=hl;have hL:L∈X.fs:=hs L (by unfold frs;rw[Qa,hf];exact p_);obtain⟨sl,e⟩:=I.base.slot L o ho (I.ok.frf L hL) hL λz=>I.ok.exfs L z hL
   exact⟨hk,⟨L,_,hf,hn,e,hd⟩,ih (λb hb=>hs b (by unfold frs;rw[Qa,hf];exact n_ _ hb)) hr⟩
 exact all X.outer (λ_ hb=>hb) I.ok.funs
theorem Inv.stack(I:Inv X aa B H s):s.heap.FunFrames X.base X.stack:=by
 rcases I.ok.stk with e | ⟨e,hf⟩
 ·rw[e];exact I.funs
 ·rw[e];obtain⟨m,hn,_⟩:=I.loc;refine .cons (by rw[I.ok.kind];decide) hf hn ?_ I.funs;exact Mr.get?_none_of_le (A_ I.ok.bsz I.ok.above)
def Inv.stkSub(I:Inv X aa B H s):∀b∈frs X.stack,b∈X.env.locals::X.fs:=λb hb=>by
 rcases I.ok.stk with e | ⟨e,hf⟩
 ·rw[e] at hb;exact n_ _ hb
 ·rw[e] at hb;unfold frs at hb;rw[Qa,hf] at hb;exact hb
def Inv.stkFree(I:Inv X aa B H s):∀b∈frs X.stack,H b=none:=λb hb=>by
 rcases x_.mp (I.stkSub b hb) with e | hb
 ·rw[e];exact I.free
 ·obtain⟨_,o,ho,_⟩:=I.ok.funs.mem hb;exact I.base.free b o ho (I.ok.frf b hb) λz=>I.ok.exfs b z hb
def Inv.step(I:Inv X aa B H s)(aN:∀b∈ch,(b∈X.ex\/X.s₀.heap.objs.size<=b)/\b≠X.env.locals/\(∀x c,X.env.cells.lookup x=some c->c≠b)/\∀p∈X.pn++aa,p.1≠b)(keep:∀b o,b≠X.env.locals->b∉X.fs->b∉ch->s.heap.get? b=some o->H b=none->h'.get? b=some o)(slot:∀b o,b≠X.env.locals->b∈X.fs->b∉ch->s.heap.get? b=some o->H b=none->∃sl,h'.get? b=some { o with slots:=sl })(free:∀b o,b∉ch->s.heap.get? b=some o->H b=none->H' b=none)(there:∀b o,b∉ch->s.heap.get? b=some o->∃o',h'.get? b=some o')(tups:∀b xs,H b=some (.tup xs)->H' b=some (.tup xs))(frzs:∀b o u,H b=some (.frz o u)->H' b=some (.frz o u))(tbls:∀b ps,H b=some (.tbl ps)->∃more,H' b=some (.tbl (ps++more)))(ns:∀m,s.heap.Ns X.env.locals m->h'.Ns X.env.locals m)(hok:HOk X.prog X.w H' h')(hg:Qy g'):
  Inv X aa B H' { s with heap:=h',gens:=g',drawn:=d',toks:=t' }:=by
 have ce:∀b o,X.s₀.heap.get? b=some o->b≠X.env.locals:=λb o e=>My (J_ (Mq e) I.ok.above)
 have dY:∀b o,X.s₀.heap.get? b=some o->b∉X.ex->b∉ch:=λb o e hx hb=>by
  rcases(aN b hb).1 with z | z
  ·exact hx z
  ·exact absurd (J_ (Mq e) z) (NT _)
 have eA:∀x c,X.env.cells.lookup x=some c->∀v,s.heap.IsCell c v->h'.IsCell c v:=λx c e v ⟨o,ho,hd⟩=>by
  have bK:c∉ch:=λz=>(aN c z).2.2.1 x c e rfl
  by_cases hc:c∈X.fs
  ·obtain⟨sl,q⟩:=slot c o (I.cne x c e) hc bK ho (I.freeC x c e);exact⟨_,q,hd⟩
  ·exact⟨o,keep c o (I.cne x c e) hc bK ho (I.freeC x c e),hd⟩
 refine⟨I.ok,I.os,hg,⟨λb o e n hb hx=>?_,λb o e n hb hx=>?_,λb o e n hx=>?_,λb o e hx=>?_,λb xs e=>tups b xs (I.base.tups b xs e),λb o xs e=>frzs b o xs (I.base.frzs b o xs e),λb ps e=>?_⟩,?_,λx c e=>?_,?_,λx c e=>?_,λp hp=>?_,hok,I.len⟩
 ·exact keep b o (ce b o e) hb (dY b o e hx) (I.base.keep b o e n hb hx) (I.base.free b o e n hx)
 ·obtain⟨sl,e1⟩:=I.base.slot b o e n hb hx;obtain⟨kA,e2⟩:=slot b _ (ce b o e) hb (dY b o e hx) e1 (I.base.free b o e n hx);exact⟨kA,e2⟩
 ·obtain⟨o',e1⟩:=I.base.there b o e hx;exact free b o' (dY b o e hx) e1 (I.base.free b o e n hx)
 ·obtain⟨o',e1⟩:=I.base.there b o e hx;exact there b o' (dY b o e hx) e1
 ·obtain⟨m1,e1⟩:=I.base.tbls b ps e;obtain⟨m2,e2⟩:=tbls b _ e1;exact⟨m1++m2,by rw[e2,Array.append_assoc]⟩
 ·obtain⟨m,hn,hl⟩:=I.loc;refine⟨m,ns m hn,λi x v e1 e2 e3=>?_⟩;obtain⟨u,r,l⟩:=hl i x v e1 e2 e3;refine⟨u,r,?_⟩
  rcases l with l | ⟨k,c,e,z⟩
  ·exact .inl l
  ·exact .inr ⟨k,c,e,eA x c e _ z⟩
 ·obtain⟨v,z⟩:=I.cell x c e;exact⟨v,eA x c e v z⟩
 ·obtain⟨m,⟨o,_,_,ho,_⟩,_⟩:=I.loc;exact free _ o (λz=>(aN _ z).2.1 rfl) ho I.free
 ·obtain⟨v,o,ho,hd⟩:=I.cell x c e;exact free c o (λz=>(aN c z).2.2.1 x c e rfl) ho (I.freeC x c e)
 ·obtain⟨e,n,ne,nf,d⟩:=I.pin p hp;have bK:p.1∉ch:=λz=>(aN p.1 z).2.2.2 p hp rfl
  exact⟨keep p.1 p.2 ne nf bK e n,free p.1 p.2 bK e n,ne,nf,d⟩
def Inv.un(I:Inv X aa B H s)(u:Un X.fs [] H H' s.heap h')(hok:HOk X.prog X.w H' h'):Inv X aa B H' { s with heap:=h',toks:=t' }:=by
 obtain⟨m,⟨o,es,ep,ho,r⟩,_⟩:=id I.loc;obtain⟨sl,hL⟩:=u.any ho I.free (by simp)
 exact I.step (g':=s.gens) (d':=s.drawn) (ch:=[]) (λ_ z=>nomatch z) (λb o _ hb _ e n=>u.keep b o e n hb (by simp)) (λb o _ hb _ e n=>u.slot b o e n hb (by simp)) (λb o _ e n=>u.free b o e n (by simp)) (λb o _ e=>u.there b o e (by simp)) u.tups u.frzs u.tbls (λm' hm=>by
  obtain⟨o',es',eB,bo,r'⟩:=hm;rw[ho] at bo;cases bo
  exact⟨_,es',eB,hL,r'⟩) hok I.bare
def Inv.call(I:Inv X aa B H s)(u:Un (frs X.stack) ch H H' s.heap h')(hok:HOk X.prog X.w H' h')(hg:Qy g')(aN:∀b∈ch,(b∈X.ex\/X.s₀.heap.objs.size<=b)/\b≠X.env.locals/\(∀x c,X.env.cells.lookup x=some c->c≠b)/\∀p∈X.pn++aa,p.1≠b):
  Inv X aa B H' { s with heap:=h',gens:=g',drawn:=d',toks:=t' }:=by
 obtain⟨m,⟨o,es,ep,ho,r⟩,_⟩:=id I.loc;obtain⟨sl,hL⟩:=u.any ho I.free λz=>(aN _ z).2.1 rfl
 exact I.step (ch:=ch) aN (λb o hL hb hc e n=>u.keep b o e n (λz=>(x_.mp (I.stkSub b z)).elim hL hb) hc) (λb o _ _ hc e n=>u.any e n hc) (λb o hc e n=>u.free b o e n hc) (λb o hc e=>u.there b o e hc) u.tups u.frzs u.tbls (λm' hm=>by
  obtain⟨o',es',eB,bo,r'⟩:=hm;rw[ho] at bo;cases bo
  exact⟨_,es',eB,hL,r'⟩) hok hg
def Inv.turned{it:h_}(I:Inv X aa B H s)(k:∀b o,b≠it->s.heap.get? b=some o->h'.get? b=some o)(hn:H it=none)(hL:it≠X.env.locals)(h1:it∈X.ex\/X.s₀.heap.objs.size<=it)(h2:∀x c,X.env.cells.lookup x=some c->c≠it)(h3:∀p∈X.pn++aa,p.1≠it):Inv X aa B H { s with heap:=h',toks:=t' }:=by
 have iX:∀b u,H b=some u->b≠it:=λb u e z=>by rw[z,hn] at e;cases e
 refine I.step (g':=s.gens) (d':=s.drawn) (ch:=[it]) (λb hb=>?_) (λb o _ _ hc e _=>k b o (λz=>hc (by simp[z])) e) (λb o _ _ hc e _=>⟨o.slots,k b o (λz=>hc (by simp[z])) e⟩) (λ_ _ _ _ n=>n)
  (λb o hc e=>⟨o,k b o (λz=>hc (by simp[z])) e⟩) (λ_ _ e=>e) (λ_ _ _ e=>e) (λb ps e=>⟨#[],by rw[e];simp⟩) (λm hm=>?_) (λb u e=>?_) I.bare
 ·have e:b=it:=by simpa using hb
  subst e;exact⟨h1,hL,h2,h3⟩
 ·obtain⟨o,es,ep,ho,r⟩:=hm;exact⟨o,es,ep,k _ o (MQ hL) ho,r⟩
 ·refine(I.hok b u e).stay (λc v hc q=>k c v ?_ q) (λ_ q=>q) λ_ _ q=>q
  rcases hc with z | z
  ·rw[z];exact iX b u e
  ·exact iX c _ z
def Inv.tok(I:Inv X aa B H s)(t:Nat):Inv X aa B H { s with toks:=t }:=I.un (h':=s.heap) (t':=t) Un.refl I.hok
theorem Inv.kept(I:Inv X aa B H s)(k:∀b u,s.heap.get? b=some u->h'.get? b=some u):Inv X aa B H { s with heap:=h',toks:=t' }:=I.un (Un.kept k) (I.hok.kept k)
theorem Inv.laid{a:h_}{o:HO}(I:Inv X aa B H s)(k:∀b u,s.heap.get? b=some u->h'.get? b=some u)(hp:s.heap.objs.size<=a)(new:ObjOk X.prog X.w (upd H a o) h' a o):
  Inv X aa B (upd H a o) { s with heap:=h',toks:=t' }:=I.un (Un.laid k hp (I.hok.fresh hp)) (I.hok.laid k hp new)
theorem Inv.write{x e:h_}{o:HO}(I:Inv X aa B H s)(mu:Mut (H x))(he:e=x\/H e=some (.own x))(k:∀b u,b≠e->s.heap.get? b=some u->h'.get? b=some u)(dX:∃u,h'.get? e=some u)(new:ObjOk X.prog X.w (upd H x o) h' x o):Inv X aa B (upd H x o) { s with heap:=h',toks:=t' }:=I.un (Un.write mu he k dX) (I.hok.write mu he k dX new)
def Inv.pins_of(I:Inv X aa B H s)(h:∀p∈eC,s.heap.get? p.1=some p.2/\H p.1=none/\p.1≠X.env.locals/\p.1∉X.fs/\∀v,p.2.data≠.cell v):Inv X eC B H s:=
 ⟨I.ok,I.os,I.bare,I.base,I.loc,I.cell,I.free,I.freeC,λp hp=>(L_.mp hp).elim (λz=>I.pin p (Np _ z)) (h p),I.hok,I.len⟩
def Ar{N:List Str}(hN:N.Nodup){i:Nat}{x:Str}(a:N[i]?=some x)(b:N[j]?=some x):i=j:=by
 obtain⟨h1,e1⟩:=j_.mp a;obtain⟨h2,e2⟩:=j_.mp b;exact(List.getElem_inj hN).mp (e1.trans e2.symm)
def y4{M:Model}{A:Mn}{E:b_->e_->Prop}{i:Nat}{x:Str}{v:V}{Q:Unit->e_->Prop}(I:Inv X aa B H s)(hN:X.N.Nodup)(hi:X.N[i]?=some x)(hx:Loc X.env.scope x)(r:RelV v u)(h:∀s',Inv X aa (B.set i (some v)) H s'->(∃a,Mr.SameBut a s.heap s'.heap/\(a=X.env.locals\/X.env.cells.lookup x=some a))->Q () s')(hf:X.fn x=true\/X.env.scope.names.lookup x=some .local:=by first | exact .inl rfl | exact .inr rfl | assumption):u_ M A (storeName X.env x u) Q E s:=by
 obtain⟨m,hn,hl⟩:=id I.loc;have iY:(X.env.scope.kind == .class||(X.env.scope.kind == .module&&X.env.locals != X.env.globals))=false:=by rw[I.ok.kind];rfl
 have gA:i < B.length:=by rw[I.len];exact(j_.mp hi).1
 have cne:=I.cne
 have bL:∀{a:h_}{h':Mr},(∃o,s.heap.get? a=some o/\H a=none)->Mr.SameBut a s.heap h'->HOk X.prog X.w H h':=λ{a h'} ha hs b ob e=>by
  obtain⟨_,_,eD⟩:=ha;refine(I.hok b ob e).stay (λc w' hc q=>(hs.2 c ?_).trans q) (λ_ q=>q) λ_ _ q=>q
  rintro rfl
  rcases hc with rfl | hc
  ·rw[eD] at e;cases e
  ·rw[eD] at hc;cases hc
 rcases hx with hk | hk
 ·refine wpAny_storeName_local hk hn (λh' db hs=>?_) iY;obtain⟨oL,_,_,kB,_⟩:=id hn;refine h _ ⟨I.ok,I.os,I.bare,⟨λb o e n hb hx=>?_,λb o e n hb hx=>?_,I.base.free,λb o e hx=>?_,I.base.tups,I.base.frzs,I.base.tbls⟩,⟨_,db,λj y v' e1 e2 e3=>?_⟩,λy c e=>?_,I.free,I.freeC,λp hp=>?_,bL ⟨oL,kB,I.free⟩ hs,by simpa using I.len⟩ ⟨_,hs,.inl rfl⟩
  ·exact(hs.2 b (My (J_ (Mq e) I.ok.above))).trans (I.base.keep b o e n hb hx)
  ·obtain⟨sl,e1⟩:=I.base.slot b o e n hb hx;exact⟨sl,(hs.2 b (My (J_ (Mq e) I.ok.above))).trans e1⟩
  ·obtain⟨o',e1⟩:=I.base.there b o e hx;exact⟨o',(hs.2 b (My (J_ (Mq e) I.ok.above))).trans e1⟩
  ·by_cases hj:j=i
   ·subst hj;rw[hi] at e1;cases e1;rw[Os gA] at e2;cases e2;exact⟨u,r,.inl ⟨hk,by simp⟩⟩
   ·rw[OP (MQ hj)] at e2;obtain⟨u',r',q⟩:=hl j y v' e1 e2 e3;refine⟨u',r',?_⟩
    rcases q with⟨k,e⟩ | ⟨k,c,e,z⟩
    ·refine .inl ⟨k,?_⟩;have:y≠x:=λe=>hj (Ar hN e1 (e▸hi))
     simp[this,e]
    ·exact .inr ⟨k,c,e,z.sameBut hs (cne y c e)⟩
  ·obtain⟨w',z⟩:=I.cell y c e;exact⟨w',z.sameBut hs (cne y c e)⟩
  ·obtain⟨e,n,ne,nf,d⟩:=I.pin p hp;exact⟨(hs.2 p.1 ne).trans e,n,ne,nf,d⟩
 ·have gP:X.fn x=true:=by
   rcases hf with z | z
   ·exact z
   ·rw[z] at hk;cases hk
  obtain⟨c,hc⟩:=I.ok.has x (.inl hk);obtain⟨w',z⟩:=I.cell x c hc;refine wpAny_storeName_cell I.ok.kind hk hc z (λh' aZ hs=>?_);obtain⟨oc,iZ,i5⟩:=id z;refine h { s with heap:=h' } ⟨I.ok,I.os,I.bare,⟨λb o e n hb hx=>?_,λb o e n hb hx=>?_,I.base.free,λb o e hx=>?_,I.base.tups,I.base.frzs,I.base.tbls⟩,⟨m,hn.sameBut hs (MQ (cne x c hc)),λj y v' e1 e2 e3=>?_⟩,λy c' e=>?_,I.free,I.freeC,λp hp=>?_,bL ⟨oc,iZ,I.freeC x c hc⟩ hs,by simpa using I.len⟩ ⟨c,hs,.inr hc⟩
  ·exact(hs.2 b (My (J_ (Mq e) (I.ok.cab x c gP hc)))).trans (I.base.keep b o e n hb hx)
  ·obtain⟨sl,e1⟩:=I.base.slot b o e n hb hx;exact⟨sl,(hs.2 b (My (J_ (Mq e) (I.ok.cab x c gP hc)))).trans e1⟩
  ·obtain⟨o',e1⟩:=I.base.there b o e hx;exact⟨o',(hs.2 b (My (J_ (Mq e) (I.ok.cab x c gP hc)))).trans e1⟩
  ·by_cases hj:j=i
   ·subst hj;rw[hi] at e1;cases e1;rw[Os gA] at e2;cases e2;exact⟨u,r,.inr ⟨.inl hk,c,hc,aZ⟩⟩
   ·rw[OP (MQ hj)] at e2;obtain⟨u',r',q⟩:=hl j y v' e1 e2 e3;refine⟨u',r',?_⟩
    rcases q with q | ⟨k,c',e,z'⟩
    ·exact .inl q
    ·refine .inr ⟨k,c',e,z'.sameBut hs ?_⟩;rintro rfl;exact hj (Ar hN e1 (I.ok.inj _ _ _ e hc▸hi))
  ·by_cases hcc:c'=c
   ·subst hcc;exact⟨_,aZ⟩
   ·obtain⟨w2,z2⟩:=I.cell y c' e;exact⟨w2,z2.sameBut hs hcc⟩
  ·obtain⟨e,n,ne,nf,d⟩:=I.pin p hp;refine⟨(hs.2 p.1 ?_).trans e,n,ne,nf,d⟩;intro q;rw[q,iZ] at e;have q':oc=p.2:=Mt e;exact d w' (by rw[←q'];exact i5)
def GK{M:Model}{A:Mn}{E:b_->e_->Prop}{i:Nat}{x:Str}{v:V}{Q:Unit->e_->Prop}(I:Inv X aa B H s)(hN:X.N.Nodup)(hi:X.N[i]?=some x)(hx:Loc X.env.scope x)(r:RelV v u)(h:∀s',Inv X aa (B.set i (some v)) H s'->Q () s')(hf:X.fn x=true\/X.env.scope.names.lookup x=some .local:=by first | exact .inl rfl | exact .inr rfl | assumption):u_ M A (storeName X.env x u) Q E s:=
 y4 I hN hi hx r (λs' I' _=>h s' I') hf
def Inv.call'(I:Inv X aa B H s)(ho:s'.os=s.os)(u:Un (frs X.stack) ch H H' s.heap s'.heap)(hok:HOk X.prog X.w H' s'.heap)(hg:Qy s'.gens)(aN:∀b∈ch,(b∈X.ex\/X.s₀.heap.objs.size<=b)/\b≠X.env.locals/\(∀x c,X.env.cells.lookup x=some c->c≠b)/\∀p∈X.pn++aa,p.1≠b):Inv X aa B H' s':=by
 obtain⟨h',g',d',t',o'⟩:=s';have e:o'=s.os:=ho;subst e;exact I.call (g':=g') (t':=t') (d':=d') u hok hg aN
end
abbrev XK:=b_->Option h_->Hp->Prop
abbrev St:=List (Option V)
abbrev VK:=V->Hp->Prop
abbrev TE:=St->Hp->VK->Prop
abbrev TT:=St->Hp->(Bool->Hp->Prop)->Prop
abbrev TA:=St->Hp->(List V->Hp->Prop)->Prop
structure Ends where
 nx:St->Hp->Prop
 rt:VK
 bk:St->Hp->Prop:=λ_ _=>False
 ct:St->Hp->Prop:=λ_ _=>False
abbrev TS:=Ends->St->Hp->Prop
inductive EP(X:Cx)(aa:List (h_×Obj))(B:St)(Q:VK)(u:b_)(s':e_):Prop | mk (v:V) (H':Hp):Inv X aa B H' s'->RelV v u->Q v H'->EP X aa B Q u s'
inductive TP(X:Cx)(aa:List (h_×Obj))(B:St)(Q:Bool->Hp->Prop)(b:Bool)(s':e_):Prop | mk (H':Hp):Inv X aa B H' s'->Q b H'->TP X aa B Q b s'
inductive AP(X:Cx)(aa:List (h_×Obj))(B:St)(Q:List V->Hp->Prop)(us:List b_)(s':e_):Prop | mk (vs:List V) (H':Hp):Inv X aa B H' s'->Vals vs us->Q vs H'->AP X aa B Q us s'
inductive NP(X:Cx)(aa:List (h_×Obj))(P:St->Hp->Prop)(s':e_):Prop | mk (ak:St) (H':Hp):Inv X aa ak H' s'->P ak H'->NP X aa P s'
inductive RP(X:Cx)(aa:List (h_×Obj))(P:VK)(u:b_)(s':e_):Prop | mk (v:V) (ak:St) (H':Hp):Inv X aa ak H' s'->RelV v u->P v H'->RP X aa P u s'
def SP(X:Cx)(aa:List (h_×Obj))(D:Ends)(f:Flow)(s':e_):Prop:=
 match f with
 | .next=>NP X aa (D.nx) s'
 | .brk=>NP X aa (D.bk) s'
 | .cont=>NP X aa (D.ct) s'
 | .ret u=>RP X aa D.rt u s'
def PE(X:Cx)(e:y_)(t:TE):Prop:=
 ∀(aa:List (h_×Obj)) (s:e_) (B:St) (H:Hp) (Q:VK),Inv X aa B H s->t B H Q->u_ (t_ X.prog X.w) X.A (MW e X.env) (EP X aa B Q) X.xe s
def PT(X:Cx)(e:y_)(t:TT):Prop:=
 ∀(aa:List (h_×Obj)) (s:e_) (B:St) (H:Hp) (Q:Bool->Hp->Prop),Inv X aa B H s->t B H Q->u_ (t_ X.prog X.w) X.A (SY e X.env (MW e X.env)) (TP X aa B Q) X.xe s
def PW(X:Cx)(e:y_)(t:TT):Prop:=
 ∀(aG:Sem b_) (aa:List (h_×Obj)) (s:e_) (B:St) (H:Hp) (Q:Bool->Hp->Prop),Inv X aa B H s->t B H Q->u_ (t_ X.prog X.w) X.A (SY e X.env aG) (TP X aa B Q) X.xe s
def PW.pt{X:Cx}{e:y_}{t:TT}(h:PW X e t):PT X e t:=h _
def PA(X:Cx)(es:List y_)(t:TA):Prop:=
 ∀(pos:Pos) (aa:List (h_×Obj)) (s:e_) (B:St) (H:Hp) (Q:List V->Hp->Prop),Inv X aa B H s->t B H Q->u_ (t_ X.prog X.w) X.A (spliced (N4 pos (D_ es X.env))) (AP X aa B Q) X.xe s
def PS(X:Cx)(st:Nr)(t:TS):Prop:=
 ∀(aa:List (h_×Obj)) (s:e_) (B:St) (H:Hp) (D:Ends),Inv X aa B H s->t D B H->u_ (t_ X.prog X.w) X.A (exec st X.env) (SP X aa D) X.xe s
def PSs(X:Cx)(st:List Nr)(t:TS):Prop:=
 ∀(aa:List (h_×Obj)) (s:e_) (B:St) (H:Hp) (D:Ends),Inv X aa B H s->t D B H->u_ (t_ X.prog X.w) X.A (execs st X.env) (SP X aa D) X.xe s
def thn{α:Type}{t:Sem α}{Q Q':α->e_->Prop}{M:Model}{A:Mn}{E:b_->e_->Prop}{s:e_}(h:u_ M A t Q E s)(hQ:∀a s,Q a s->Q' a s):u_ M A t Q' E s:=M6 h hQ λ_ _ x=>x
section
variable {X:Cx}
noncomputable def tVar(i:Nat):TE:=λB H Q=>∃v,B[i]?=some (some v)/\Q v H
noncomputable def tC(v:V):TE:=λ_ H Q=>Q v H
def IB{i:Nat}{x:Str}(hN:X.N[i]?=some x)(hv:Vis X.env.scope x)(hd:(x == ("__debug__":Str))=false:=by decide)(cg:(x == ("__classdict__":Str))=false:=by decide):PE X (.Name x pos) (tVar i):=by
 intro aa s B H Q I h;obtain⟨v,e,h⟩:=h;obtain⟨m,hn,hl⟩:=I.loc;obtain⟨u,r,l⟩:=hl i x v hN e hv;have fin:EP X aa B Q u s:=⟨v,H,I,r,h⟩
 rcases l with⟨hk,hm⟩ | ⟨hk,c,hc,eE⟩
 ·exact Tw (wpAny_loadName_local I.ok.kind hk hn hm fin) hd
 ·rcases hk with hk | hk
  ·exact Tw (wpAny_loadName_cell I.ok.kind hk hc eE fin) hd
  ·exact Tw (wpAny_loadName_free I.ok.kind hk hc eE fin cg) hd
def KP{i j pos}:PE X (.Constant (.int i) j pos) (tC (.int i)):=λ_ _ _ H _ I h=>wpAny_Constant_int ⟨.int i,H,I.tok _,⟨_,rfl⟩,h⟩
def KW{b j pos}:PE X (.Constant (.bool b) j pos) (tC (.bl b)):=λ_ _ _ H _ I h=>Constant_bool ⟨.bl b,H,I,rfl,h⟩
def GJ{j pos}:PE X (.Constant .none j pos) (tC .non):=λ_ _ _ H _ I h=>Constant_none ⟨.non,H,I,rfl,h⟩
def Kk{x j pos}:PE X (.Constant (.str x) j pos) (tC (.str x)):=λ_ _ _ H _ I h=>Calls.Constant_str ⟨.str x,H,I.tok _,⟨_,rfl⟩,h⟩
def Gl(X:Cx)(x:Str):Prop:=X.env.kindOf x=some .globalImplicit
def uQ{E:b_->e_->Prop}{s:e_}{B:St}{H:Hp}{x:Str}{Q:b_->e_->Prop}(I:Inv X aa B H s)(hg:Gl X x)(hm:X.mg x=some u)(h:Q u s)(hd:(x == ("__debug__":Str))=false:=by decide):u_ (t_ X.prog X.w) X.A (MW (.Name x pos) X.env) Q E s:=
 Qb I.ok.kind hg (Calls.loadGlobal_global (by rw[I.ok.glob];exact I.mod.glob.keeps I.bk) hm h) hd
def pM{E:b_->e_->Prop}{s:e_}{B:St}{H:Hp}{x:Str}{Q:b_->e_->Prop}(I:Inv X aa B H s)(hg:Gl X x)(hm:X.mg x=none)(hv:NW x=some u)(h:Q u s)(hn:x ≠ "__name__":=by decide)(hd:(x == ("__debug__":Str))=false:=by decide):u_ (t_ X.prog X.w) X.A (MW (.Name x pos) X.env) Q E s:=by
 obtain⟨mb,h1,h2⟩:=I.mod.blt;exact Qb I.ok.kind hg (Calls.loadGlobal_builtin (by rw[I.ok.glob];exact I.mod.glob.keeps I.bk) hm (by rw[I.ok.blt];exact h1.keeps I.bk) ((h2 x hn).trans hv) h) hd
def Md{x:Str}{v:V}(hg:Gl X x)(hm:X.mg x=none)(hv:NW x=some u)(r:RelV v u)(hn:x ≠ "__name__":=by decide)(hd:(x == ("__debug__":Str))=false:=by decide):PE X (.Name x pos) (tC v):=
 λ_ _ _ H _ I h=>pM I hg hm hv ⟨v,H,I,r,h⟩ hn hd
variable{a b:y_}{ta tb:TE}
noncomputable def tB(t:TE):TT:=λB H Q=>t B H λx H1=>∃c,x=.bl c/\Q c H1
def Hu{e:y_}{t:TE}(h:PE X e t)(he:∀aG,SY e X.env aG=(do let v ←aG;Qz e.pos;OA [v] (truthy v)):=by intro _;rfl):PT X e (tB t):=by
 intro aa s B H Q I hw;refine isTrue_plain (thn (h aa s B H _ I hw) λv s1 ⟨x,H1,I1,r1,q1⟩=>?_) (he _);obtain⟨d,rfl,q⟩:=q1;cases r1;exact Nc ⟨H1,I1,q⟩
variable {tA pE:TT}{ad:List y_}
noncomputable def tAnd(t u:TT):TT:=λB H Q=>t B H λc H1=>if c=true then u B H1 Q else Q false H1
noncomputable def tOr(t u:TT):TT:=λB H Q=>t B H λc H1=>if c=true then Q true H1 else u B H1 Q
noncomputable def tNot(t:TT):TT:=λB H Q=>t B H λc H1=>Q (!c) H1
def Kz(ha:PT X a tA):PW X (.BoolOp .And [a] pos) tA:=by
 intro wh aa s B H Q I h;refine isTrue_and (thn (ha aa s B H Q I h) λc s1 e=>?_);cases c with
 | true=>exact isTrue_and_nil e
 | false=>exact e
def DI(ha:PT X a tA):PW X (.BoolOp .Or [a] pos) tA:=by
 intro wh aa s B H Q I h;refine isTrue_or (thn (ha aa s B H Q I h) λc s1 e=>?_);cases c with
 | false=>exact isTrue_or_nil e
 | true=>exact e
def HJ(ha:PT X a tA)(hb:PW X (.BoolOp .And (b::ad) pos) pE):PW X (.BoolOp .And (a::b::ad) pos) (tAnd tA pE):=by
 intro wh aa s B H Q I h;refine isTrue_and (thn (ha aa s B H _ I h) λc s1 ⟨H1,I1,q1⟩=>?_);cases c with
 | true=>exact hb wh aa s1 B H1 Q I1 q1
 | false=>exact⟨H1,I1,q1⟩
def Li(ha:PT X a tA)(hb:PW X (.BoolOp .Or (b::ad) pos) pE):PW X (.BoolOp .Or (a::b::ad) pos) (tOr tA pE):=by
 intro wh aa s B H Q I h;refine isTrue_or (thn (ha aa s B H _ I h) λc s1 ⟨H1,I1,q1⟩=>?_);cases c with
 | true=>exact⟨H1,I1,q1⟩
 | false=>exact hb wh aa s1 B H1 Q I1 q1
def DK(ha:PT X a tA):PT X (.UnaryOp .Not a pos) (tNot tA):=by
 intro aa s B H Q I h;exact isTrue_not (thn (ha aa s B H (λc H1=>Q (!c) H1) I h) λ_ _ ⟨H1,I1,q⟩=>⟨H1,I1,q⟩)
noncomputable def tAndV(ta tb:TE):TE:=λB H Q=>ta B H λx H1=>∃c,x=.bl c/\if c=true then tb B H1 Q else Q (.bl false) H1
def LO{op}{t:TE}(h:PE X a t):PE X (.BoolOp op [a] pos) t:=λaa s B H Q I hw=>BoolOp_one (h aa s B H Q I hw)
def DN(ha:PE X a ta)(hb:PE X (.BoolOp .And (b::ad) pos) tb):PE X (.BoolOp .And (a::b::ad) pos) (tAndV ta tb):=by
 intro aa s B H Q I h;refine BoolOp_and (thn (ha aa s B H _ I h) λv s1 ⟨x,H1,I1,r1,q1⟩=>?_);obtain⟨c,rfl,q1⟩:=q1;cases r1;refine Nc ?_;cases c with
 | true=>exact hb aa s1 B H1 Q I1 q1
 | false=>exact⟨.bl false,H1,I1,rfl,q1⟩
noncomputable def tIf(t:TT)(ta tb:TE):TE:=λB H Q=>t B H λc H1=>if c=true then ta B H1 Q else tb B H1 Q
def LY{c:y_}(hc:PT X c tA)(ha:PE X a ta)(hb:PE X b tb):PE X (.IfExp c a b pos) (tIf tA ta tb):=by
 intro aa s B H Q I h;refine wpAny_IfExp (thn (hc aa s B H _ I h) λd s1 ⟨H1,I1,q1⟩=>?_);cases d with
 | true=>exact ha aa s1 B H1 Q I1 q1
 | false=>exact hb aa s1 B H1 Q I1 q1
end
def SqL(K:FAa)(H:Hp)(a:h_)(xs:List V):Prop:=
 Rd H a (.lst xs) ∨
  ∃(o:Obj) (ab:Array b_) (n:Nat),K.lookup a=some o/\o.cls=.type "list"/\o.dict=none/\o.data=.seq ab n/\ab.size<=B_/\Vals xs ab.toList
def SqT(K:FAa)(H:Hp)(a:h_)(xs:List V):Prop:=
 Rd H a (.tup xs) ∨
  ∃(o:Obj) (ab:Array b_) (n:Nat),K.lookup a=some o/\o.cls=.type "tuple"/\o.data=.seq ab n/\ab.size<=B_/\Vals xs ab.toList
noncomputable def absV:b_->Option V
 | .none=>some .non
 | .bool b=>some (.bl b)
 | .int i _=>some (.int i)
 | .str x _=>some (.str x)
 | .ref a=>some (.ref a)
 | .type n=>some (.ty n)
 | _=>none
def RelV.abs{x:V}(r:RelV x u):absV u=some x:=by
 cases x with
 | non=>cases r;rfl
 | bl _=>cases r;rfl
 | int _=>obtain⟨t,rfl⟩:=r;rfl
 | str _=>obtain⟨t,rfl⟩:=r;rfl
 | ref _=>cases r;rfl
 | ty _=>cases r;rfl
def RelV.inj{x y:V}(r:RelV x u)(q:RelV y u):x=y:=Mt (r.abs.symm.trans q.abs)
theorem Vals.inj:∀{xs ys:List V}{us:List b_},Vals xs us->Vals ys us->xs=ys
 | _,_,_,.nil,.nil=>rfl
 | _,_,_,.cons r t,.cons r' t'=>by rw[r.inj r',Vals.inj t t']
section
variable{X:Cx}{B:St}{H:Hp}{s:e_}{a:h_}{xs ys:List V}
def SqT.of{K:FAa}(h:H a=some (.tup xs)):SqT K H a xs:=.inl (.inl h)
def Inv.list(I:Inv X aa B H s)(h:SqL X.K H a xs):∃ab:List b_,Vals xs ab/\PlainL s.heap a ab.toArray/\xs.length<=B_:=by
 rcases h with h | ⟨o,ab,n,hk,hc,hd,hs,hz,r⟩
 ·obtain⟨z,ab,n,r,e⟩:=h.ok I.hok;exact⟨ab,r,⟨_,n,e,rfl,rfl,rfl⟩,z⟩
 ·refine⟨ab.toList,r,⟨o,n,I.kIn a o hk,hc,hd,by simpa using hs⟩,?_⟩;have e:=r.length;simp only[MP] at e;omega
def Inv.tuple(I:Inv X aa B H s)(h:SqT X.K H a xs):∃ab:List b_,Vals xs ab/\R8 s.heap a ab.toArray/\xs.length<=B_:=by
 rcases h with h | ⟨o,ab,n,hk,hc,hs,hz,r⟩
 ·obtain⟨z,ab,r,p⟩:=h.ok I.hok;exact⟨ab,r,p,z⟩
 ·refine⟨ab.toList,r,⟨o,I.kIn a o hk,hc,n,by simpa using hs⟩,?_⟩;have e:=r.length;simp only[MP] at e;omega
def Inv.list_inj(I:Inv X aa B H s)(h:SqL X.K H a xs)(h':SqL X.K H a ys):xs=ys:=by
 obtain⟨ab,r,⟨o,n,e,_,_,d⟩,_⟩:=I.list h;obtain⟨its',r',⟨o',n',e',_,_,d'⟩,_⟩:=I.list h';rw[e] at e';cases e';rw[d] at d';injection d' with d1 _
 have:ab=its':=by simpa using congrArg toList d1
 subst this;exact r.inj r'
def Inv.tuple_inj(I:Inv X aa B H s)(h:SqT X.K H a xs)(h':SqT X.K H a ys):xs=ys:=by
 obtain⟨ab,r,⟨o,e,_,n,d⟩,_⟩:=I.tuple h;obtain⟨its',r',⟨o',e',_,n',d'⟩,_⟩:=I.tuple h';rw[e] at e';cases e';rw[d] at d';injection d' with d1 _
 have:ab=its':=by simpa using congrArg toList d1
 subst this;exact r.inj r'
end
noncomputable abbrev Cx.wish(X:Cx)(E:b_->e_->Prop):Cx:={ X with xe:=E }
abbrev Cx.nox(X:Cx):Cx:=X.wish λ_ _=>False
theorem Cx.Ok.wish{X:Cx}(ok:X.Ok)(E:b_->e_->Prop):(X.wish E).Ok:=
 ⟨ok.mod,ok.kind,ok.glob,ok.blt,ok.above,ok.inj,ok.has,ok.cab,ok.hd,ok.frames,ok.stk,ok.exf,ok.bs,ok.bsz,ok.noex,ok.exfs,ok.funs,ok.frf⟩
def Cx.Ok.unwish{X:Cx}{E:b_->e_->Prop}(ok:(X.wish E).Ok):X.Ok:=
 ⟨ok.mod,ok.kind,ok.glob,ok.blt,ok.above,ok.inj,ok.has,ok.cab,ok.hd,ok.frames,ok.stk,ok.exf,ok.bs,ok.bsz,ok.noex,ok.exfs,ok.funs,ok.frf⟩
section
variable{X:Cx}{B:St}{H:Hp}{s:e_}{E:b_->e_->Prop}
theorem Inv.wish(I:Inv X aa B H s)(E:b_->e_->Prop):Inv (X.wish E) aa B H s:=⟨I.ok.wish E,I.os,I.bare,I.base,I.loc,I.cell,I.free,I.freeC,I.pin,I.hok,I.len⟩
theorem Inv.unwish(I:Inv (X.wish E) aa B H s):Inv X aa B H s:=⟨I.ok.unwish,I.os,I.bare,I.base,I.loc,I.cell,I.free,I.freeC,I.pin,I.hok,I.len⟩
theorem SP.unwish{D:Ends}{f:Flow}(h:SP (X.wish E) aa D f s'):SP X aa D f s':=by
 cases f with
 | next=>obtain⟨ak,H',I,q⟩:=h;exact⟨ak,H',I.unwish,q⟩
 | brk=>obtain⟨ak,H',I,q⟩:=h;exact⟨ak,H',I.unwish,q⟩
 | cont=>obtain⟨ak,H',I,q⟩:=h;exact⟨ak,H',I.unwish,q⟩
 | ret u=>obtain⟨v,ak,H',I,r,q⟩:=h;exact⟨v,ak,H',I.unwish,r,q⟩
theorem PSs.nox{st:List Nr}{t:TS}(h:PSs X.nox st t):PSs X st t:=λaa s B H D I hw =>
 M6 (h aa s B H D (I.wish _) hw) (λ_ _ q=>q.unwish) λ_ _ z=>Ts z
end
section
variable{X:Cx}{st:Nr}{ad:List Nr}{t u:TS}{e:y_}{te:TE}
noncomputable def tNext:TS:=λD B H=>D.nx B H
noncomputable def tSeq(t u:TS):TS:=λD B H=>t { D with nx:=u D } B H
def Io:PSs X [] tNext:=λ_ _ B H _ I h=>PP ⟨B,H,I,h⟩
def F1(h1:PS X st t)(h2:PSs X ad u):PSs X (st::ad) (tSeq t u):=by
 intro aa s B H D I h;refine wpAny_execs_cons (thn (h1 aa s B H { D with nx:=u D } I h) λf s1 q=>?_);cases f with
 | next =>
  obtain⟨ak,H',I',q⟩:=q;exact h2 aa s1 ak H' D I' q
 | ret v=>exact q
 | brk=>exact q
 | cont=>exact q
def Kt(h1:PS X st t):PSs X [st] t:=by
 intro aa s B H D I h;refine wpAny_execs_cons (thn (h1 aa s B H D I h) λf s1 q=>?_);cases f with
 | next=>exact PP q
 | ret v=>exact q
 | brk=>exact q
 | cont=>exact q
def Inv.quiet{B:St}{H:Hp}{s:e_}(I:Inv X aa B H s):interactive X.env=false:=by simp[interactive,I.ok.kind]
noncomputable def tDrop(te:TE):TS:=λD B H=>te B H λ_ H1=>D.nx B H1
def EH(he:PE X e te)(hs:N6 e none pos.line X.env=pure false:=by rfl):PS X (.Expr e pos) (tDrop te):=by
 intro aa s B H D I h;exact wpAny_Expr_any (thn (he aa s B H _ I h) λv s1 ⟨x,H1,I1,r1,q1⟩=>⟨B,H1,I1,q1⟩) I.quiet hs
noncomputable def tRet(te:TE):TS:=λD B H=>te B H D.rt
def JR(he:PE X e te):PS X (.Return (some e) pos) (tRet te):=by
 intro aa s B H D I h;exact wpAny_Return_some (thn (he aa s B H _ I h) λv s1 ⟨x,H1,I1,r1,q1⟩=>⟨x,B,H1,I1,r1,q1⟩)
noncomputable def tIfS(c:TT)(t u:TS):TS:=λD B H=>c B H λb H1=>if b=true then t D B H1 else u D B H1
def Fx{c:y_}{a b:List Nr}{tc:TT}(hc:PT X c tc)(ha:PSs X a t)(hb:PSs X b u):PS X (.If c a b pos) (tIfS tc t u):=by
 intro aa s B H D I h;refine wpAny_If (thn (hc aa s B H _ I h) λd s1 ⟨H1,I1,q1⟩=>?_);cases d with
 | true=>exact ha aa s1 B H1 D I1 q1
 | false=>exact hb aa s1 B H1 D I1 q1
noncomputable def tNever:TS:=λ_ _ _=>False
def Db:PS X st tNever:=λ_ _ _ _ _ _ h=>h.elim
end
abbrev TG:=V->St->Hp->(St->Hp->Prop)->Prop
abbrev TGs:=List V->St->Hp->(St->Hp->Prop)->Prop
def PG(X:Cx)(fG:y_)(t:TG):Prop:=
 ∀(aa:List (h_×Obj)) (s:e_) (B:St) (H:Hp) (v:V) (u:b_) (Q:St->Hp->Prop),Inv X aa B H s->RelV v u->t v B H Q →
  u_ (t_ X.prog X.w) X.A (Rg fG X.env u) (λ_ s'=>NP X aa Q s') X.xe s
def PGs(X:Cx)(ts:List y_)(t:TGs):Prop:=
 ∀(aa:List (h_×Obj)) (s:e_) (B:St) (H:Hp) (vs:List V) (us:List b_) (Q:St->Hp->Prop),Inv X aa B H s->Vals vs us->t vs B H Q →
  u_ (t_ X.prog X.w) X.A (assignInOrder ((M7 ts X.env).map (·.2)) us) (λ_ s'=>NP X aa Q s') X.xe s
abbrev TSet:=V->V->V->Hp->(Hp->Prop)->Prop
def PSet(X:Cx)(t:TSet):Prop:=
 ∀(aa:List (h_×Obj)) (s:e_) (B:St) (H:Hp) (o i v:V) (ov iv u:b_) (Q:Hp->Prop),Inv X aa B H s->RelV o ov->RelV i iv->RelV v u->t o i v H Q →
  u_ (t_ X.prog X.w) X.A (T5 ov iv u) (λ_ s'=>∃H',Inv X aa B H' s'/\Q H') X.xe s
section
variable{X:Cx}
noncomputable def gName(i:Nat):TG:=λv B H Q=>Q (B.set i (some v)) H
def F9{i:Nat}{x:Str}(hN:X.N.Nodup)(hi:X.N[i]?=some x)(hx:Loc X.env.scope x)(hf:X.fn x=true\/X.env.scope.names.lookup x=some .local:=by first | exact .inl rfl | exact .inr rfl | assumption):PG X (.Name x pos) (gName i):=by
 intro aa s B H v u Q I r h;exact Sw (GK I hN hi hx r (λs' I'=>⟨_,H,I',h⟩) hf)
noncomputable def gNil:TGs:=λvs B H Q=>vs=[]/\Q B H
noncomputable def gCons(t:TG)(u:TGs):TGs:=λvs B H Q=>∃v r,vs=v::r/\t v B H λak H'=>u r ak H' Q
def Ed:PGs X [] gNil:=by
 intro aa s B H vs us Q I r h;obtain⟨e,h⟩:=h;subst e;cases r;exact assignInOrder_nil ⟨B,H,I,h⟩
def Dm{e:y_}{es:List y_}{t:TG}{u:TGs}(h1:PG X e t)(h2:PGs X es u)(hs:(M7 (e::es) X.env).map (·.2)=Rg e X.env::(M7 es X.env).map (·.2):=by rfl):PGs X (e::es) (gCons t u):=by
 intro aa s B H vs us Q I r h;obtain⟨v,vr,e1,h⟩:=h;subst e1;cases r with
 | cons r rr =>
  rw[hs];refine assignInOrder_cons (thn (h1 aa s B H _ _ _ I r h) λ_ s1 ⟨bM,H1,I1,q1⟩=>?_);exact h2 aa s1 bM H1 _ _ Q I1 rr q1
noncomputable def gTup(K:FAa)(n:Nat)(t:TGs):TG:=λv B H Q=>∃a xs,v=.ref a/\SqT K H a xs/\xs.length=n/\t xs B H Q
def HM{es:List y_}{k:Nat}{t:TGs}(hc:X.calm=true)(h:PGs X es t)(hn:(M7 es X.env).length=n:=by rfl)(cB:(M7 es X.env).findIdx? (·.1)=none:=by rfl):PG X (.Tuple es k pos) (gTup X.K n t):=by
 intro aa s B H v u Q I r hw;obtain⟨a,xs,e1,hq,hl,hw⟩:=hw;subst e1;cases r;obtain⟨ab,rv,ht,hz⟩:=I.tuple hq;refine assign_Tuple_tuple (I.ok.hd hc) ht (by simp[hn,←hl,rv.length]) cB λh' hx=>?_
 have I1:Inv X aa B H { s with heap:=h' }:=I.kept (t':=s.toks) λb o e=>hx b o (My (Mq e)) e
 exact h aa _ B H xs _ Q I1 (by simpa using rv) hw
noncomputable def gSub(to ti:TE)(t:TSet):TG:=λv B H Q=>to B H λo H1=>ti B H1 λi H2=>t o i v H2 λH3=>Q B H3
def Ft{o i:y_}{to ti:TE}{t:TSet}(ho:PE X o to)(hi:PE X i ti)(hs:PSet X t)(ha:∀v,Rg (.Subscript o i pos) X.env v=(do
   let ov ←OA [v] (MW o X.env)
   let iv ←OA [v,ov] (MW i X.env)
   Qz pos
   OA [v,ov,iv] (T5 ov iv v)
   release [v,ov,iv] []):=by intro _;rfl):PG X (.Subscript o i pos) (gSub to ti t):=by
 intro aa s B H v u Q I r h;rw[ha];refine a_ (MV (thn (ho aa s B H _ I h) λov s1 ⟨x,H1,I1,r1,q1⟩=>?_));refine a_ (MV (thn (hi aa s1 B H1 _ I1 q1) λiv s2 ⟨y,H2,I2,r2,q2⟩=>?_));refine a_ (R9 (a_ (MV (thn (hs aa s2 B H2 x y v ov iv u _ I2 r1 r2 r q2) λ_ s3 ⟨H3,I3,q3⟩=>?_))));exact wpAny_release ⟨B,H3,I3,q3⟩
noncomputable def tAsg(te:TE)(g:TG):TS:=λD B H=>te B H λx H1=>g x B H1 D.nx
def yZ{e:y_}{te:TE}{g:TG}(he:PE X e te)(hg:PG X tg g)(hs:Ps [tg] e pos.line X.env=pure false:=by rfl)(hw:QM [tg] e X.env=pure none:=by rfl)(h1:(M7 [tg] X.env).map (·.2)=[Rg tg X.env]:=by rfl):PS X (.Assign [tg] e pos) (tAsg te g):=by
 intro aa s B H D I h;refine wpAny_Assign_stores (thn (he aa s B H _ I h) λv s1 ⟨x,H1,I1,r1,q1⟩=>?_) hs hw;rw[h1];exact thn (hg aa s1 B H1 x v _ I1 r1 q1) λ_ s2 q=>q
end
section
variable{X:Cx}
noncomputable def tWhile(c:TT)(tb:TS):TS:=λD B H=>∃W:Nat->St->Hp->Prop,(∃m,W m B H)/\∀m B H,W m B H →
 c B H λb H1=>if b=true then ∃N:St->Hp->Prop,(∀ak H',N ak H'->∃m',m' < m/\W m' ak H')/\tb { D with nx:=N,ct:=N,bk:=D.nx } B H1 else D.nx B H1
def Gm{c:y_}{tc:TT}{tb:TS}(hp:RR (t_ X.prog X.w) X.A X.env X.xe)(hc:PT X c tc)(hb:PSs X body tb):PS X (.While c body [] pos) (tWhile tc tb):=by
 intro aa s B H D I h;obtain⟨W,⟨m0,w0⟩,turn⟩:=h;refine wpAny_While (codeAny_whileLoop (λn s'=>∃ak H',Inv X aa ak H' s'/\W n ak H') ?_ m0 ⟨B,H,I,w0⟩);rintro n s1 ⟨bM,H1,I1,w1⟩;refine NU hp (thn (hc aa s1 bM H1 _ I1 (turn n bM H1 w1)) λb s2 ⟨H2,I2,q2⟩=>?_);cases b with
 | true =>
  obtain⟨N,hN,q2⟩:=q2;rw[if_pos rfl];refine NU hp (thn (hb aa s2 bM H2 _ I2 q2) λf s3 q3=>?_);cases f with
  | next =>
   obtain⟨bN,H3,I3,n3⟩:=q3;obtain⟨m',hm,w3⟩:=hN bN H3 n3;exact⟨m',hm,bN,H3,I3,w3⟩
  | cont =>
   obtain⟨bN,H3,I3,n3⟩:=q3;obtain⟨m',hm,w3⟩:=hN bN H3 n3;exact⟨m',hm,bN,H3,I3,w3⟩
  | brk=>exact q3
  | ret v=>exact q3
 | false =>
  rw[if_neg q_];exact PP ⟨bM,H2,I2,q2⟩
end
structure It where
 go:Nat->Hp->Prop
 yld:Nat->Hp->V->Hp->Prop
 stop:Nat->Hp->Prop
def FpOk(X:Cx)(aa:List (h_×Obj))(H:Hp)(b:h_):Prop:=
 H b=none/\b≠X.env.locals/\b∉X.fs/\(b∈X.ex\/X.s₀.heap.objs.size<=b)/\(∀x c,X.env.cells.lookup x=some c->c≠b)/\∀p∈X.pn++aa,p.1≠b
def Inv.fpOk{X:Cx}{B:St}{H H':Hp}{s:e_}{b:h_}(I:Inv X aa B H s)(hb:s.heap.objs.size<=b)(hn:H' b=none):FpOk X aa H' b:=by
 refine⟨hn,O8 (J_ I.lt hb),I.nofs hb,.inr (A_ I.sz hb),λx c e z=>?_,λp hp z=>?_⟩
 ·obtain⟨v,q⟩:=I.cell x c e;exact absurd (J_ q.lt (by rw[z];exact hb)) (NT _)
 ·exact absurd (J_ (Mq (I.pin p hp).1) (by rw[z];exact hb)) (NT _)
structure Turn(P:E_)(w:Mo)(K:FAa)(tg:y_)(J:It)(fp:List h_)(it:h_)(tn:Nat->Mr->Prop):Prop where
 mem:it∈fp
 obj:∀i h,tn i h->∀b∈fp,∃o,h.get? b=some o/\∀v,o.data≠.cell v
 keep:∀i h h',tn i h->(∀b∈fp,∀o,h.get? b=some o->h'.get? b=some o)->tn i h'
 item:∀(X:Cx),X.prog=P->X.w=w->X.K=K->X.calm=true->∀(i:Nat) (aa:List (h_×Obj)) (s:e_) (B:St) (H:Hp) (E:b_->e_->Prop),Inv X aa B H s->(∀b∈fp,FpOk X aa H b)->tn i s.heap->J.go i H →
  u_ (t_ P w) X.A (Qc (.ref it)) (λr s1=>∃u,r=some u ∧
   u_ (t_ P w) X.A (PQ tg (.ref it) u) (λ_ s2=>∃x H',Inv X aa B H' s2/\RelV x u/\J.yld i H x H'/\tn (i+1) s2.heap/\∀b∈fp,H' b=none) E s1) E s
 done:∀(X:Cx),X.prog=P->X.w=w->X.K=K->X.calm=true->∀(i:Nat) (aa:List (h_×Obj)) (s:e_) (B:St) (H:Hp) (E:b_->e_->Prop),Inv X aa B H s->(∀b∈fp,FpOk X aa H b)->tn i s.heap->J.stop i H →
  u_ (t_ P w) X.A (Qc (.ref it)) (λr s1=>r=none/\Inv X aa B H s1) E s
 self:∀(A:Mn) (i:Nat) (s:e_) (Q:b_->e_->Prop) (E:b_->e_->Prop),tn i s.heap->Q (.ref it) s->u_ (t_ P w) A (Ry (.ref it)) Q E s
abbrev TI:=St->Hp->(It->Hp->Prop)->Prop
def PIE(X:Cx)(aa:List (h_×Obj))(B:St)(tg:y_)(R:It->Hp->Prop)(fH:b_)(s2:e_):Prop:=
 ∃(it:h_) (fp:List h_) (tn:Nat->Mr->Prop) (J:It) (H':Hp),fH=.ref it/\Inv X aa B H' s2/\Turn X.prog X.w X.K tg J fp it tn/\tn 0 s2.heap/\(∀b∈fp,FpOk X aa H' b)/\R J H'
def PI(X:Cx)(tg iter:y_)(wi:TI):Prop:=
 ∀(aa:List (h_×Obj)) (s:e_) (B:St) (H:Hp) (R:It->Hp->Prop),Inv X aa B H s->wi B H R →
  u_ (t_ X.prog X.w) X.A (MW iter X.env) (λv s1=>u_ (t_ X.prog X.w) X.A (Ry v) (PIE X aa B tg R) X.xe s1) X.xe s
def uX{M:Model}{A:Mn}{E:b_->e_->Prop}{s:e_}{it:h_}{o:Obj}{n:String}{vs:Array b_}{Q:Unit->e_->Prop}(ho:s.heap.get? it=some o)(hc:o.cls=.type n)(hd:o.data=.fields vs)(hn:["enumerate", "zip", "dict_itemiterator", "dict_reverseitemiterator", "odict_iterator", "itertools.zip_longest", "itertools.pairwise"].contains n=false)(hQ:Q () s):u_ M A (PQ tg (.ref it) u) Q E s:=by
 unfold PQ
 cases tg<;>first
  | exact d_ hQ
  | (cases u<;>first
    | exact d_ hQ
    | (refine a_ (Si ho ?_)
       rw[hc,hd];show u_ M A (if(["enumerate", "zip", "dict_itemiterator", "dict_reverseitemiterator", "odict_iterator", "itertools.zip_longest", "itertools.pairwise"].contains n&&vs[0]? == some (Qd _))=true then _ else _) Q E s;rw[if_neg (by intro h;rw[hn,Rz] at h;cases h)]
       exact d_ hQ))
noncomputable def Itl(K:FAa)(a:h_):It:=
 ⟨λi H=>∃xs x,SqL K H a xs/\xs[i]?=some x,λi H x H'=>H'=H/\∀xs,SqL K H a xs->xs[i]?=some x,λi H=>∃xs,SqL K H a xs/\xs.length<=i⟩
noncomputable def Itt(K:FAa)(a:h_):It:=
 ⟨λi H=>∃xs x,SqT K H a xs/\xs[i]?=some x,λi H x H'=>H'=H/\∀xs,SqT K H a xs->xs[i]?=some x,λi H=>∃xs,SqT K H a xs/\xs.length<=i⟩
noncomputable def Itr(lo:Int)(n:Nat):It:=⟨λi _=>i < n,λi H x H'=>H'=H/\x=.int (lo+i),λi _=>n<=i⟩
def IL{P:E_}{w:Mo}{K:FAa}(a it:h_):Turn P w K tg (Itl K a) [it] it (λi h=>h.IsListIter it a i) where
 mem:=by simp
 obj:=λi h st b hb=>by
  have e:b=it:=by simpa using hb
  subst e;obtain⟨o,e,c,d⟩:=st;exact⟨o,e,λv z=>by rw[d] at z;cases z⟩
 keep:=λi h h' st k=>st.at λo e=>k it (by simp) o e
 item:=by
  tm_at"e";subst hP hw hK;obtain⟨xs,x,hq,hx⟩:=hg;obtain⟨ab,rv,p,hz⟩:=I.list hq;obtain⟨u,hu,ru⟩:=rv.get hx;tm_at"i";refine wpAny_pyNext_list_item st p.isList (x:=u) (by simpa using hu) λh' bO sb=>?_
  have I1:Inv X aa B H { s with heap:=h' }:=I.turned (t':=s.toks) (λb o hb e=>(sb.2 b hb).trans e) f0 f1 f3 f4 f5;obtain⟨o,e,c,d⟩:=id bO;exact⟨u,rfl,uX (s:={ s with heap:=h' }) e c d (by decide) ⟨x,H,I1,ru,⟨rfl,λys hy=>by rw[I.list_inj hy hq];exact hx⟩,bO,λb hb=>(hf b hb).1⟩⟩
 done:=by
  tm_at"e";subst hP hw hK;obtain⟨xs,hq,hx⟩:=hg;obtain⟨ab,rv,p,hz⟩:=I.list hq;tm_at"i";have hl:=rv.length;exact wpAny_pyNext_list_end (I.ok.hd hc) st p.isList (by simp;omega) λh' eb=>⟨rfl,I.turned (t':=s.toks) (λb o hb e=>eb b o hb e) f0 f1 f3 f4 f5⟩
 self:=λ_ _ _ _ _ st h=>wpAny_pyIter_listiter st h
def HB{P:E_}{w:Mo}{K:FAa}(a it:h_):Turn P w K tg (Itt K a) [it] it (λi h=>h.IsTupleIter it a i) where
 mem:=by simp
 obj:=λi h st b hb=>by
  have e:b=it:=by simpa using hb
  subst e;obtain⟨o,e,c,d⟩:=st;exact⟨o,e,λv z=>by rw[d] at z;cases z⟩
 keep:=λi h h' st k=>st.at λo e=>k it (by simp) o e
 item:=by
  tm_at"e";subst hP hw hK;obtain⟨xs,x,hq,hx⟩:=hg;obtain⟨ab,rv,p,hz⟩:=I.tuple hq;obtain⟨u,hu,ru⟩:=rv.get hx;tm_at"i";refine wpAny_pyNext_tuple_item st (show s.heap.IsTuple a ab.toArray from p) (x:=u) (by simpa using hu) λh' bO sb=>?_
  have I1:Inv X aa B H { s with heap:=h' }:=I.turned (t':=s.toks) (λb o hb e=>(sb.2 b hb).trans e) f0 f1 f3 f4 f5;obtain⟨o,e,c,d⟩:=id bO;exact⟨u,rfl,uX (s:={ s with heap:=h' }) e c d (by decide) ⟨x,H,I1,ru,⟨rfl,λys hy=>by rw[I.tuple_inj hy hq];exact hx⟩,bO,λb hb=>(hf b hb).1⟩⟩
 done:=by
  tm_at"e";subst hP hw hK;obtain⟨xs,hq,hx⟩:=hg;obtain⟨ab,rv,p,hz⟩:=I.tuple hq;tm_at"i";have hl:=rv.length;exact wpAny_pyNext_tuple_end (I.ok.hd hc) st (show s.heap.IsTuple a ab.toArray from p) (by simp;omega) λh' eb=>⟨rfl,I.turned (t':=s.toks) (λb o hb e=>eb b o hb e) f0 f1 f3 f4 f5⟩
 self:=λ_ _ _ _ _ st h=>wpAny_pyIter_tupleiter st h
def Lr{P:E_}{w:Mo}{K:FAa}(it:h_)(lo:Int)(n:Nat):Turn P w K tg (Itr lo n) [it] it (λi h=>IsRangeIter h it (lo+(i:Nat)*1) ((n:Int) - (i:Nat)) 1) where
 mem:=by simp
 obj:=λi h st b hb=>by
  have e:b=it:=by simpa using hb
  subst e
  exact⟨_,st,λv z=>by
   have z':RA _=QX v:=z
   cases z'⟩
 keep:=λi h h' st k=>k it (by simp) _ st
 item:=by
  tm_at"e";subst hP hw hK;tm_at"i";have W:=Walks.range (prog:=X.prog) (w:=X.w) (I.ok.hd hc) it lo 1 n;refine W.item i s _ _ hg st λv h' tk hv bO kk=>?_
  obtain⟨t,rfl⟩:=hv;have I1:Inv X aa B H { s with heap:=h',toks:=tk }:=I.turned (λb o hb e=>kk b o (by simpa using hb) e) f0 f1 f3 f4 f5;refine⟨_,rfl,uX (s:={ s with heap:=h',toks:=tk }) (n:= "range_iterator") bO rfl rfl (by decide) ⟨.int (lo+i),H,I1,⟨t,?_⟩,⟨rfl,rfl⟩,bO,λb hb=>(hf b hb).1⟩⟩;rw[Int.mul_one]
 done:=by
  tm_at"e";subst hP hw hK;tm_at"i";exact wpAny_pyNext_range_end (I.ok.hd hc) st (by have:n<=i:=hg;omega) λh' eb=>⟨rfl,I.turned (t':=s.toks) (λb o hb e=>eb b o hb e) f0 f1 f3 f4 f5⟩
 self:=λ_ _ _ _ _ st h=>wpAny_pyIter_rangeiter st h
section
variable{X:Cx}
def iList(K:FAa)(tl:TE):TI:=λB H R=>tl B H λx H1=>∃a,x=.ref a/\(∃xs,SqL K H1 a xs)/\R (Itl K a) H1
def iTup(K:FAa)(tl:TE):TI:=λB H R=>tl B H λx H1=>∃a,x=.ref a/\(∃xs,SqT K H1 a xs)/\R (Itt K a) H1
def Ke{l:y_}{tl:TE}(hl:PE X l tl):PI X tg l (iList X.K tl):=by
 intro aa s B H R I h;refine thn (hl aa s B H _ I h) λv s1 ⟨x,H1,I1,r1,q1⟩=>?_
 obtain⟨a,e,⟨xs,hq⟩,q⟩:=q1;subst e;cases r1;obtain⟨ab,rv,p,hz⟩:=I1.list hq;refine NX p.isList ?_;refine⟨s1.heap.objs.size,[s1.heap.objs.size],_,_,H1,rfl,I1.kept (t':=s1.toks) λb o e=>f_ _ e,IL a _,⟨_,r_ _ rfl,rfl,rfl⟩,λb hb=>?_,q⟩;have e:b=s1.heap.objs.size:=by simpa using hb
 subst e;exact I1.fpOk (s_ _) (I1.hok.fresh (s_ _))
def Ej{l:y_}{tl:TE}(hl:PE X l tl):PI X tg l (iTup X.K tl):=by
 intro aa s B H R I h;refine thn (hl aa s B H _ I h) λv s1 ⟨x,H1,I1,r1,q1⟩=>?_
 obtain⟨a,e,⟨xs,hq⟩,q⟩:=q1;subst e;cases r1;obtain⟨ab,rv,p,hz⟩:=I1.tuple hq;refine Sj (show s1.heap.IsTuple a ab.toArray from p) ?_;refine⟨s1.heap.objs.size,[s1.heap.objs.size],_,_,H1,rfl,I1.kept (t':=s1.toks) λb o e=>f_ _ e,HB a _,⟨_,r_ _ rfl,rfl,rfl⟩,λb hb=>?_,q⟩;have e:b=s1.heap.objs.size:=by simpa using hb
 subst e;exact I1.fpOk (s_ _) (I1.hok.fresh (s_ _))
def AV{B:St}{H:Hp}{s:e_}{R:It->Hp->Prop}{E:b_->e_->Prop}{lo hi:Int}{t u v:Tok}{tk:Nat}(I:Inv X aa B H s)(h1:-(2 ^ 62)<=lo)(h2:lo < 2 ^ 62)(h3:-(2 ^ 62)<=hi)(h4:hi < 2 ^ 62)(q:R (Itr lo (hi - lo).toNat) H):u_ (t_ X.prog X.w) X.A (Ry (.ref s.heap.objs.size)) (PIE X aa B tg R) E { s with heap:=s.heap.push { cls:=.type "range", data:=.fields #[.int lo t,.int hi u,.int 1 v] },toks:=tk }:=by
 refine wpAny_pyIter_range (IsRange.new ..) (small_one h1 h2 h3 h4) ?_;have I1:Inv X aa B H { s with heap:=s.heap.push { cls:=.type "range", data:=.fields #[.int lo t,.int hi u,.int 1 v] },toks:=tk }:=I.kept λb o e=>f_ _ e
 refine⟨(s.heap.push { cls:=.type "range", data:=.fields #[.int lo t,.int hi u,.int 1 v] }).objs.size,[(s.heap.push { cls:=.type "range", data:=.fields #[.int lo t,.int hi u,.int 1 v] }).objs.size],_,_,H,rfl,
  I1.kept (t':=tk) λb o e=>f_ _ e,Lr _ lo (hi - lo).toNat,?_,λb hb=>?_,q⟩
 ·have e1:lo+((0:Nat):Int)*1=lo:=by simp
  have e2:(((hi - lo).toNat:Nat):Int) - ((0:Nat):Int)=rangeSize lo hi 1:=by rw[rangeSize_one];split<;>omega
  show IsRangeIter _ _ (lo+((0:Nat):Int)*1) ((((hi - lo).toNat:Nat):Int) - ((0:Nat):Int)) 1;rw[e1,e2];exact r_ _ rfl
 ·have e:b=(s.heap.push { cls:=.type "range", data:=.fields #[.int lo t,.int hi u,.int 1 v] }).objs.size:=by simpa using hb
  subst e;exact I1.fpOk (s_ _) (I1.hok.fresh (s_ _))
def iRng1(ta:TA):TI:=λB H R=>ta B H λvs H1=>∃j:Int,vs=[.int j]/\-(2 ^ 62)<=j/\j < 2 ^ 62/\R (Itr 0 j.toNat) H1
def iRng2(ta:TA):TI:=λB H R=>ta B H λvs H1=>∃i j:Int,vs=[.int i,.int j]/\(-(2 ^ 62)<=i/\i < 2 ^ 62/\-(2 ^ 62)<=j/\j < 2 ^ 62)/\R (Itr i (j - i).toNat) H1
def Me{a:y_}{ta:TA}{p:Pos}(hg:Gl X "range")(hm:X.mg "range"=none)(ha:PA X [a] ta)(hs:D_ [a] X.env=[(false,MW a X.env)]:=by rfl):PI X tg (.Call (.Name "range" p) [a] [] pos) (iRng1 ta):=by
 intro aa s B H R I h;refine T3 (pM I hg hm Tz (MA (thn (ha pos aa s B H _ I h) λus s1 ⟨vs,H1,I1,r1,q1⟩=>?_) hs rfl));obtain⟨j,e,q1,q2,q⟩:=q1;subst e;cases r1 with
 | cons r rr =>
  cases rr;obtain⟨t,rfl⟩:=r;exact call_range_1 (AV I1 ⋯ ⋯ q1 q2 (by simpa using q))
def C6{a b:y_}{ta:TA}{p:Pos}(hg:Gl X "range")(hm:X.mg "range"=none)(ha:PA X [a,b] ta)(hs:D_ [a,b] X.env=[(false,MW a X.env),(false,MW b X.env)]:=by rfl)(aH:D_ [b] X.env=[(false,MW b X.env)]:=by rfl):
  PI X tg (.Call (.Name "range" p) [a,b] [] pos) (iRng2 ta):=by
 intro aa s B H R I h;refine T3 (pM I hg hm Tz (MA (thn (ha pos aa s B H _ I h) λus s1 ⟨vs,H1,I1,r1,q1⟩=>?_) (by rw[hs,aH]) (by rw[aH];rfl)));obtain⟨i,j,e,⟨q1,q2,q3,q4⟩,q⟩:=q1;subst e;cases r1 with
 | cons r rr =>
  cases rr with
  | cons r' rr =>
   cases rr;obtain⟨t,rfl⟩:=r;obtain⟨t',rfl⟩:=r';exact call_range_2 (AV I1 q1 q2 q3 q4 q)
noncomputable def tFor(wi:TI)(g:TG)(tb:TS):TS:=λD B H=>wi B H λJ H1=>∃W:Nat->Nat->St->Hp->Prop,(∃m,W 0 m B H1)/\∀i m B H,W i m B H →
 (J.stop i H/\D.nx B H)\/(J.go i H/\∃N:St->Hp->Prop,(∀ak H',N ak H'->∃m',m' < m/\W (i+1) m' ak H')/\∀x H',J.yld i H x H'->g x B H' λbb H2=>tb { D with nx:=N,ct:=N,bk:=D.nx } bb H2)
noncomputable def pinsAt(fp:List h_)(h:Mr):List (h_×Obj):=fp.filterMap λb=>(h.get? b).map λo=>(b,o)
def sY{h:Mr}{b:h_}{o:Obj}(hb:b∈fp)(e:h.get? b=some o):(b,o)∈pinsAt fp h:=Qe.mpr ⟨b,hb,by rw[e];rfl⟩
def L3{h:Mr}{p:h_×Obj}(hp:p∈pinsAt fp h):p.1∈fp/\h.get? p.1=some p.2:=by
 obtain⟨b,hb,e⟩:=Qe.mp hp;cases q:h.get? b with
 | none=>rw[q] at e;cases e
 | some o =>
  rw[q] at e;have e':(b,o)=p:=Mt e;subst e';exact⟨hb,q⟩
def Inv.pinned{B:St}{H:Hp}{s:e_}(I:Inv X aa B H s)(hf:∀b∈fp,FpOk X aa H b)(ho:∀b∈fp,∃o,s.heap.get? b=some o/\∀v,o.data≠.cell v):Inv X (aa++pinsAt fp s.heap) B H s:=
 I.pins_of λp hp=>(L_.mp hp).elim (λz=>I.pin p (Mv _ z)) λz=>by
  obtain⟨hb,e⟩:=L3 z;obtain⟨f0,f1,f2,_⟩:=hf p.1 hb;obtain⟨o,e',d⟩:=ho p.1 hb;rw[e] at e';cases e';exact⟨e,f0,f1,f2,d⟩
def Inv.unpinned{pl:List (h_×Obj)}{B:St}{H:Hp}{s:e_}(I:Inv X (aa++pl) B H s):Inv X aa B H s:=I.pins_of λp hp=>I.pin p (Mv _ (Np _ hp))
def EO{wi:TI}{g:TG}{tb:TS}(hp:RR (t_ X.prog X.w) X.A X.env X.xe)(hc:X.calm=true)(hi:PI X tg iter wi)(hg:PG X tg g)(hb:PSs X body tb)(hs:∀x,NJ iter X.env x=pure x:=by intro _;rfl):PS X (.For tg iter body [] pos) (tFor wi g tb):=by
 intro aa s B H D I h;refine wpAny_For (thn (hi aa s B H _ I h) λv s1 h1=>thn h1 λfH s2 h2=>?_) hs;obtain⟨it,fp,tn,J,H2,e,I2,T,cM,f2,W,⟨m0,w0⟩,turn⟩:=h2;subst e
 -- what stays true of the iterator's objects through the loop
 have bP:∀{H':Hp},(∀b∈fp,H' b=none)->∀b∈fp,FpOk X aa H' b:=λhn b hb=>⟨hn b hb,(f2 b hb).2⟩
 refine codeAny_forLoop_any (λn s'=>∃i ak H',Inv X aa ak H' s'/\tn i s'.heap/\(∀b∈fp,H' b=none)/\W i n ak H') ?_ m0 ⟨0,B,H2,I2,cM,λb hb=>(f2 b hb).1,w0⟩;rintro n s3 ⟨i,bN,H3,I3,de,i6,w3⟩
 rcases turn i n bN H3 w3 with⟨stop,qn⟩ | ⟨go,N,hN,step⟩
 ·refine NU hp (thn (T.done X rfl rfl rfl hc i aa s3 bN H3 X.xe I3 (bP i6) de stop) λr s4 ⟨hr,I4⟩=>?_);subst hr;exact PP ⟨bN,H3,I4,qn⟩
 ·refine NU hp (thn (T.item X rfl rfl rfl hc i aa s3 bN H3 X.xe I3 (bP i6) de go) λr s4 ⟨u,hr,h4⟩=>?_);subst hr;refine NU hp (thn h4 λ_ s5 ⟨x,H5,I5,r5,y5,dZ,fI⟩=>?_);have kC:=I5.pinned (bP fI) (T.obj _ _ dZ);refine NU hp (thn (hg _ s5 bN H5 x u _ kC r5 (step x H5 y5)) λ_ s6 ⟨kE,H6,I6,q6⟩=>?_);refine NU hp (thn (hb _ s6 kE H6 _ I6 q6) λf s7 q7=>?_)
  have Tf:∀{bQ:St}{H7:Hp},Inv X (aa++pinsAt fp s5.heap) bQ H7 s7->N bQ H7->∃m,m < n/\∃i ak H',Inv X aa ak H' s7/\tn i s7.heap/\(∀b∈fp,H' b=none)/\W i m ak H':=λ{bQ H7} I7 n7=>by
   obtain⟨m',hm,w7⟩:=hN bQ H7 n7;refine⟨m',hm,i+1,bQ,H7,I7.unpinned,T.keep _ _ _ dZ λb hb o e=>(I7.pin (b,o) (Mv _ (Mv _ (sY hb e)))).1,λb hb=>?_,w7⟩;obtain⟨o,e,d⟩:=T.obj _ _ dZ b hb;exact(I7.pin (b,o) (Mv _ (Mv _ (sY hb e)))).2.1
  cases f with
  | next=>obtain⟨bQ,H7,I7,n7⟩:=q7;exact Tf I7 n7
  | cont=>obtain⟨bQ,H7,I7,n7⟩:=q7;exact Tf I7 n7
  | brk=>obtain⟨bQ,H7,I7,q7⟩:=q7;exact⟨bQ,H7,I7.unpinned,q7⟩
  | ret v=>obtain⟨x7,bQ,H7,I7,r7,q7⟩:=q7;exact⟨x7,bQ,H7,I7.unpinned,r7,q7⟩
end
abbrev R2:=V->V->Hp->VK->Prop
def OpR(X:Cx)(f:b_->b_->Sem b_)(r:R2):Prop:=
 ∀(aa:List (h_×Obj)) (s:e_) (B:St) (H:Hp) (x y:V) (v u:b_) (Q:VK),Inv X aa B H s->RelV x v->RelV y u->r x y H Q →
  u_ (t_ X.prog X.w) X.A (f v u) (EP X aa B Q) X.xe s
def CallR(X:Cx)(f:b_)(r:List V->Hp->VK->Prop):Prop:=
 ∀(aa:List (h_×Obj)) (s:e_) (B:St) (H:Hp) (xs:List V) (us:List b_) (Q:VK),Inv X aa B H s->Vals xs us->r xs H Q →
  u_ (t_ X.prog X.w) X.A (call f us) (EP X aa B Q) X.xe s
noncomputable def tOp(r:R2)(ta tb:TE):TE:=λB H Q=>ta B H λx H1=>tb B H1 λy H2=>r x y H2 Q
noncomputable def rI(C:Int->Int->Prop)(g:Int->Int->V):R2:=λx y H Q=>∃i j,x=.int i/\y=.int j/\C i j/\Q (g i j) H
noncomputable def rI0(g:Int->Int->V):R2:=λx y H Q=>∃i j,x=.int i/\y=.int j/\Q (g i j) H
section
variable{X:Cx}{a b:y_}{ta tb:TE}
def binT(ha:PE X a ta)(hb:PE X b tb){s:e_}{B:St}{H:Hp}{R:V->V->Hp->Prop}(I:Inv X aa B H s)(h:ta B H λx H1=>tb B H1 λy H2=>R x y H2){Q:b_->e_->Prop}{f:b_->b_->Sem b_}(hf:∀v u s2 x y H2,Inv X aa B H2 s2->RelV x v->RelV y u->R x y H2->u_ (t_ X.prog X.w) X.A (f v u) Q X.xe s2):
  u_ (t_ X.prog X.w) X.A (MW a X.env) (λv am=>u_ (t_ X.prog X.w) X.A (MW b X.env) (λu bm=>u_ (t_ X.prog X.w) X.A (f v u) Q X.xe bm) X.xe am) X.xe s:=by
 refine thn (ha aa s B H _ I h) λv s1 ⟨x,H1,I1,r1,q1⟩=>?_
 refine thn (hb aa s1 B H1 _ I1 q1) λu s2 ⟨y,H2,I2,r2,q2⟩=>?_
 exact hf v u s2 x y H2 I2 r1 r2 q2
def JE{op:Sx}{r:R2}(ho:OpR X (NG op) r)(ha:PE X a ta)(hb:PE X b tb):PE X (.BinOp a op b pos) (tOp r ta tb):=by
 intro aa s B H Q I h;exact wpAny_BinOp (binT ha hb I h λv u s2 x y H2 I2 rx ry q=>ho aa s2 B H2 x y v u Q I2 rx ry q)
def opI{f:b_->b_->Sem b_}{C:Int->Int->Prop}{g:Int->Int->Int}(rule:∀(i j:Int) (t u:Tok) (s:e_) (Q:b_->e_->Prop) (E:b_->e_->Prop),C i j->Q (.int (g i j) s.toks) { s with toks:=s.toks+1 }->u_ (t_ X.prog X.w) X.A (f (.int i t) (.int j u)) Q E s):
  OpR X f (rI C λi j=>.int (g i j)):=by
 tm_at"g";obtain⟨i,j,rfl,rfl,hc,q⟩:=h;obtain⟨t,rfl⟩:=rx;obtain⟨t',rfl⟩:=ry;exact rule i j t t' s _ _ hc ⟨.int (g i j),H,I.tok _,⟨_,rfl⟩,q⟩
def opI0{f:b_->b_->Sem b_}{g:Int->Int->Int}(rule:∀(i j:Int) (t u:Tok) (s:e_) (Q:b_->e_->Prop) (E:b_->e_->Prop),Q (.int (g i j) s.toks) { s with toks:=s.toks+1 }->u_ (t_ X.prog X.w) X.A (f (.int i t) (.int j u)) Q E s):
  OpR X f (rI0 λi j=>.int (g i j)):=by
 tm_at"g";obtain⟨i,j,rfl,rfl,q⟩:=h;obtain⟨t,rfl⟩:=rx;obtain⟨t',rfl⟩:=ry;exact rule i j t t' s _ _ ⟨.int (g i j),H,I.tok _,⟨_,rfl⟩,q⟩
def opB0{f:b_->b_->Sem b_}{g:Int->Int->Bool}(rule:∀(i j:Int) (t u:Tok) (s:e_) (Q:b_->e_->Prop) (E:b_->e_->Prop),Q (.bool (g i j)) s->u_ (t_ X.prog X.w) X.A (f (.int i t) (.int j u)) Q E s):
  OpR X f (rI0 λi j=>.bl (g i j)):=by
 tm_at"g";obtain⟨i,j,rfl,rfl,q⟩:=h;obtain⟨t,rfl⟩:=rx;obtain⟨t',rfl⟩:=ry;exact rule i j t t' s _ _ ⟨.bl (g i j),H,I,rfl,q⟩
def CPow(i j:Int):Prop:=0<=j/\j<=1000000/\i.natAbs < 2 ^ 64
def CMul(i j:Int):Prop:=(-(2 ^ 64) < i/\i < 2 ^ 64)\/(-(2 ^ 64) < j/\j < 2 ^ 64)
def CMul.ok{i j:Int}(h:CMul i j):IntMulOk i j:=by
 rcases h with⟨h1,h2⟩ | ⟨h1,h2⟩
 ·exact .of_left (intBits_le_64 h1 h2)
 ·exact .of_right (intBits_le_64 h1 h2)
def HF:OpR X (NG .Add) (rI0 λi j=>.int (i+j)):=opI0 λ_ _ _ _ _ _ _ q=>add_int q
def J4:OpR X (NG .Sub) (rI0 λi j=>.int (i - j)):=opI0 λ_ _ _ _ _ _ _ q=>sub_int q
def IH:OpR X (NG .Mult) (rI CMul λi j=>.int (i*j)):=opI λ_ _ _ _ _ _ _ hc q=>mul_int q hc.ok
def Ep:OpR X (NG .Mod) (rI (λ_ j=>0 < j) λi j=>.int (i % j)):=opI λi j _ _ _ _ _ hc q=>by
 have h1:(0:Int) < j:=hc;exact mod_int' ⋯ (by rw[Int.fmod_eq_emod_of_nonneg i ⋯];exact q)
def Cn:OpR X (NG .Pow) (rI CPow λi j=>.int (i ^ j.toNat)):=opI λ_ _ _ _ _ _ _ hc q=>pow_int_small hc.1 hc.2.1 hc.2.2 q
end
section
variable{X:Cx}{a b c:y_}{ta tb tc:TE}
def Bp{B:St}{H:Hp}{s:e_}{Q:VK}{k k':Bool}(I:Inv X aa B H s)(q:Q (.bl k) H)(e:k=k'):EP X aa B Q (.bool k') s:=by
 subst e;exact⟨.bl k,H,I,rfl,q⟩
def Ls:OpR X (MX .Lt) (rI0 λi j=>.bl (decide (i < j))):=opB0 λ_ _ _ _ _ _ _ q=>lt_int q
def Lm:OpR X (MX .LtE) (rI0 λi j=>.bl (decide (i<=j))):=opB0 λ_ _ _ _ _ _ _ q=>le_int q
def IT:OpR X (MX .Gt) (rI0 λi j=>.bl (decide (j < i))):=opB0 λ_ _ _ _ _ _ _ q=>gt_int q
def GF:OpR X (MX .GtE) (rI0 λi j=>.bl (decide (j<=i))):=opB0 λ_ _ _ _ _ _ _ q=>ge_int q
def Kf:OpR X (MX .Is) (λx y H Q=>y=.non/\Q (.bl (decide (x=.non))) H):=by
 tm_at"g";obtain⟨rfl,q⟩:=h;cases ry;refine is_none_gen (Bp I q ?_)
 cases x<;>first
  | (cases rx;rfl)
  | (obtain⟨t,rfl⟩:=rx;rfl)
def DJ:OpR X (MX .IsNot) (λx y H Q=>y=.non/\Q (.bl (!decide (x=.non))) H):=by
 tm_at"g";obtain⟨rfl,q⟩:=h;cases ry;refine isnot_none_gen (Bp I q ?_)
 cases x<;>first
  | (cases rx;rfl)
  | (obtain⟨t,rfl⟩:=rx;rfl)
def OpR.or{f:b_->b_->Sem b_}{r r':R2}(h:OpR X f r)(h':OpR X f r'):OpR X f (λx y H Q=>r x y H Q\/r' x y H Q):=by
 intro aa s B H x y v u Q I rx ry q
 rcases q with q | q
 ·exact h aa s B H x y v u Q I rx ry q
 ·exact h' aa s B H x y v u Q I rx ry q
def Ja{r:R2}(ho:OpR X (MX op) r)(ha:PE X a ta)(hb:PE X b tb)(hm:QN op b=false):PE X (.Compare a [op] [b] pos) (tOp r ta tb):=by
 intro aa s B H Q I h;exact wpAny_Compare1 (binT ha hb I h λv u s2 x y H2 I2 rx ry q=>ho aa s2 B H2 x y v u Q I2 rx ry q) hm
noncomputable def tTest(t:TE):TT:=λB H Q=>t B H λx H'=>∃k,x=.bl k/\Q k H'
def Iz{r:R2}(ho:OpR X (MX op) r)(ha:PE X a ta)(hb:PE X b tb)(hm:QN op b=false):PT X (.Compare a [op] [b] pos) (tTest (tOp r ta tb)):=by
 intro aa s B H Q I h
 refine wpAny_isTrue_Compare1 (thn (ha aa s B H _ I h) λv s1 ⟨x,H1,I1,r1,q1⟩=>thn (hb aa s1 B H1 _ I1 q1) λu s2 ⟨y,H2,I2,r2,q2⟩ =>
  thn (ho aa s2 B H2 x y v u _ I2 r1 r2 q2) λc s3 ⟨z,H3,I3,r3,k,e,q3⟩=>?_) hm
 subst e;cases r3;exact Nc ⟨H3,I3,q3⟩
noncomputable def tChain(r r':R2)(ta tb tc:TE):TE:=λB H Q=>ta B H λx H1=>tb B H1 λy H2=>r x y H2 λz H3=>∃k,z=.bl k ∧
 (if k=true then tc B H3 λw' H4=>r' y w' H4 Q else Q (.bl false) H3)
def Jq{r r':R2}(ho:OpR X (MX op) r)(bo:OpR X (MX aV) r')(ha:PE X a ta)(hb:PE X b tb)(hc:PE X c tc)(hm:SZ [op,aV] [b,c]=false:=by with_unfolding_all rfl):PE X (.Compare a [op,aV] [b,c] pos) (tChain r r' ta tb tc):=by
 intro aa s B H Q I h
 refine Compare_chain (thn (ha aa s B H _ I h) λv s1 ⟨x,H1,I1,r1,q1⟩=>chain_link (thn (hb aa s1 B H1 _ I1 q1) λu s2 ⟨y,H2,I2,r2,q2⟩ =>
  thn (ho aa s2 B H2 x y v u _ I2 r1 r2 q2) λd s3 ⟨z,H3,I3,r3,k,e,q3⟩=>?_)) hm
 subst e;cases r3;refine Nc ?_;cases k with
 | false=>exact ite_ff ⟨.bl false,H3,I3,rfl,q3⟩
 | true=>exact ite_tt (chain_last (thn (hc aa s3 B H3 _ I3 q3) λw' s4 ⟨z',H4,I4,r4,q4⟩=>bo aa s4 B H4 y z' u w' Q I4 r2 r4 q4))
def Jn{r r':R2}(ho:OpR X (MX op) r)(bo:OpR X (MX aV) r')(ha:PE X a ta)(hb:PE X b tb)(hc:PE X c tc)(hm:SZ [op,aV] [b,c]=false:=by with_unfolding_all rfl):PT X (.Compare a [op,aV] [b,c] pos) (tTest (tChain r r' ta tb tc)):=by
 intro aa s B H Q I h
 refine isTrue_chain (thn (ha aa s B H _ I h) λv s1 ⟨x,H1,I1,r1,q1⟩=>test_link (thn (hb aa s1 B H1 _ I1 q1) λu s2 ⟨y,H2,I2,r2,q2⟩ =>
  thn (ho aa s2 B H2 x y v u _ I2 r1 r2 q2) λd s3 ⟨z,H3,I3,r3,k,e,q3⟩=>?_)) hm
 subst e;cases r3;refine Nc ?_;cases k with
 | false =>
  obtain⟨k',e',q'⟩:=q3;cases e';exact ite_ff ⟨H3,I3,q'⟩
 | true =>
  refine ite_tt (test_last (thn (hc aa s3 B H3 _ I3 q3) λw' s4 ⟨z',H4,I4,r4,q4⟩=>thn (bo aa s4 B H4 y z' u w' _ I4 r2 r4 q4) λd' s5 ⟨z2,H5,I5,r5,k2,e2,q5⟩=>?_));subst e2;cases r5;exact Nc ⟨H5,I5,q5⟩
def line63:(B_:Nat) < 2 ^ 63:=by rw[MS];decide
def EM:OpR X (NG .Add) (λx y H Q=>∃i j,x=.str i/\y=.str j/\i.length+j.length<=B_/\Q (.str (i++j)) H):=by
 tm_at"g";obtain⟨i,j,rfl,rfl,hz,q⟩:=h;obtain⟨t,rfl⟩:=rx;obtain⟨t',rfl⟩:=ry;exact add_str (λt' tk=>⟨.str (i++j),H,I.tok _,⟨_,rfl⟩,q⟩) hz
def vals1{x:V}{us:List b_}(r:Vals [x] us):∃u,us=[u]/\RelV x u:=by
 cases r with
 | cons r1 r2=>cases r2;exact⟨_,rfl,r1⟩
def vals2{x y:V}{us:List b_}(r:Vals [x,y] us):∃u w',us=[u,w']/\RelV x u/\RelV y w':=by
 cases r with
 | cons r1 r2 =>
  cases r2 with
  | cons r3 r4=>cases r4;exact⟨_,_,rfl,r1,r3⟩
def EZ(hc:X.calm=true):CallR X (.builtin "max") (λxs H Q=>∃i j,xs=[.int i,.int j]/\Q (.int (if j > i then j else i)) H):=by
 intro aa s B H xs us Q I r h;obtain⟨i,j,rfl,q⟩:=h;obtain⟨u,w',rfl,⟨t,rfl⟩,⟨t',rfl⟩⟩:=vals2 r;refine max_two_ints (I.ok.hd hc) λh' tk k=>⟨_,H,I.kept k,?_,q⟩
 by_cases hj:j > i
 ·rw[if_pos hj,if_pos hj];exact⟨_,rfl⟩
 ·rw[if_neg hj,if_neg hj];exact⟨_,rfl⟩
def Ew(hc:X.calm=true):CallR X (.builtin "min") (λxs H Q=>∃i j,xs=[.int i,.int j]/\Q (.int (if j < i then j else i)) H):=by
 intro aa s B H xs us Q I r h;obtain⟨i,j,rfl,q⟩:=h;obtain⟨u,w',rfl,⟨t,rfl⟩,⟨t',rfl⟩⟩:=vals2 r;refine min_two_ints (I.ok.hd hc) λh' tk k=>⟨_,H,I.kept k,?_,q⟩
 by_cases hj:j < i
 ·rw[if_pos hj,if_pos hj];exact⟨_,rfl⟩
 ·rw[if_neg hj,if_neg hj];exact⟨_,rfl⟩
end
structure ObjM(h:Mr)(x dx C:h_)(mA:Str->Option b_):Prop where
 obj:h.get? x=some (Rb C dx)
 ns:h.Ns1 dx mA
 ne:dx≠x
def LG{h:Mr}{dx:h_}(n:h.Ns1 dx mA):∃od,h.get? dx=some od/\∀name,lookIn name od=some (mA name):=by
 obtain⟨o,es,ep,ho,hd,hk,_,hm⟩:=n;refine⟨o,ho,λname=>?_⟩;have e:=hm name;unfold nsFind findBy at e;rw[←Array.find?_toList] at e;unfold lookIn;rw[hd];dsimp only;split
 ·rename_i y q;rw[q] at e;exact congrArg some e
 ·rename_i q;rw[q] at e
  have a:es.toList.any (·.refKey)=false:=by
   rw[Rh];intro y hy;obtain⟨z,t,eF⟩:=hk y (Pw.mp hy);simp[P8.refKey,eF]
  have a':¬es.toList.any (·.refKey)=true:=by rw[a];exact q_
  rw[if_neg a'];exact congrArg some e
def ObjM.look{h:Mr}{x dx C:h_}(I:ObjM h x dx C mA):∃od,PySem.W.InstAt h x (Rb C dx) C (some od)/\∀name,lookIn name od=some (mA name):=
 let ⟨od,ho,hl⟩:=LG I.ns
 ⟨od,⟨I.obj,rfl,rfl,ho⟩,hl⟩
section
variable{prog:E_}{w:Mo}{A:Mn}{E:b_->e_->Prop}{s:e_}{K:FAa}{x dx C f:h_}{name:Str}{v:b_}
def HN{Q:b_->e_->Prop}(X:K.In s.heap)(I:ObjM s.heap x dx C mA)(hg:Sy K C name=true)(hh:S6 K C=true)(ha:PR K (.ref C) name=some none)(hv:mA name=some v)(bx:handedIn v=true)(h:Q v { s with toks:=s.toks+1 }):
  u_ (t_ prog w) A (getAttr (.ref x) name i7) Q E s:=by
 obtain⟨od,J,hl⟩:=I.look;exact PySem.W.get_value X J (Tg hg).1 (PySem.W.findObj_own hh ha rfl (by rw[hl,hv])) bx h
def JW{pl:Sem Bool}{Q:b_×List b_->e_->Prop}(X:K.In s.heap)(I:ObjM s.heap x dx C mA)(hg:Sy K C name=true)(hf:PR K (.ref C) name=some (some (.ref f)))(ht:isFn K (.ref f)=true)(hv:mA name=none)(h:Q (.ref f,[.ref x]) s):
  u_ (t_ prog w) A (RS (.ref x) name pl) Q E s:=by
 obtain⟨od,J,hl⟩:=I.look;exact PySem.W.method_fn X J (Tg hg).1 (Tg hg).2 hf (beq_iff_eq.mp ht) (by show(lookIn name od).map (·.isSome)=some false;rw[hl,hv];rfl) h
def JX{ns:List Str}{Q:Unit->e_->Prop}(X:K.In s.heap)(I:ObjM s.heap x dx C mA)(hs:PR K (.ref C) "__setattr__"=some (some (.builtin "object.__setattr__")))(hp:plainOver K C=true)(ht:takerIn K C name=some none)(hh:S6 K C=true)(hw:PySem.Within mA ns)(hsz:ns.length<=B_)(h:∀h',ObjM h' x dx C (λy=>if y=name then some v else mA y)->Mr.SameBut dx s.heap h'->Q () { s with heap:=h',toks:=s.toks+2 }):
  u_ (t_ prog w) A (setAttr (.ref x) name v) Q E s:=by
 obtain⟨od,J,hl⟩:=I.look;refine PySem.W.set_plain X J hs (PySem.W.osa_open (s:={ s with toks:=s.toks+1 }) (r:=none) X J hp ht λb=>?_);obtain⟨cd,hc,bp⟩:=PySem.W.any_some hh;have hx:s.heap.get? x=some ⟨.ref C,some dx,.plain,#[]⟩:=I.obj;refine a_ (d_ (a_ (a_ (wpAny_loadPart hx (a_ (PySem.W.Looks.here (s:={ s with toks:=s.toks+1 }) (PySem.W.looks_clsIn X hc) ?_))))));rw[bp];refine d_ (a:=some dx) (a_ (d_ (a_ ?_)));refine wpAny_nsSet1 (s:={ s with toks:=s.toks+1 }) I.ns λh' fJ aH=>?_
 obtain⟨oD,nH,nI,kF,kG,kH⟩:=fJ.count (PySem.Within.cons name v hw);refine a_ (wpAny_lookBehind kF (by rw[kG];exact pastItsLine_dict (A_ kH (by rw[G_];omega))) ?_);exact d_ (h _ ⟨(aH.2 _ (MQ I.ne)).trans I.obj,fJ,I.ne⟩ aH)
def J6{R:TB->e_->Prop}(X:K.In s.heap)(hm:makesIn K C=true)(hi:PR K (.ref C) "__init__"=some (some (.ref f)))(hf:PySem.W.typeIn K (.ref f)=some (.type "function"))(h:OB (t_ prog w) (A.under (.builtin "type.__call__" ⟨.ref C::vs,kw⟩)) (.call (.ref f) ⟨.ref (s.heap.objs.size+1)::vs,kw⟩) (PySem.W.InitBack (s.heap.objs.size+1) R)
   { s with heap:=(s.heap.push OZ).push (Rb C s.heap.objs.size) }):
  OB (t_ prog w) A (.call (.ref C) ⟨vs,kw⟩) R s:=by
 obtain⟨hh,g,d,t,os⟩:=s;exact PySem.W.make_core (PySem.W.makes_of X hm) (PySem.W.looks_findIn X hi) (λself=>PySem.W.bind_fn X self hf) (.inl rfl) h
end
noncomputable def putF(f:Str)(v:V):List (Str×V)->List (Str×V)
 | []=>[(f,v)]
 | (g,x)::r=>if g=f then(g,v)::r else(g,x)::putF f v r
theorem Ae(f g:Str)(v:V):∀fs:List (Str×V),(putF f v fs).lookup g=if g=f then some v else fs.lookup g
 | []=>by
  show NY g [(f,v)]=_;by_cases h:g=f
  ·have hb:(g == f)=true:=beq_iff_eq.mpr h;simp only[NY,hb,if_pos h]
  ·have hb:(g == f)=false:=beq_eq_false_iff_ne.mpr h;simp only[NY,hb,if_neg h]
 | (k,x)::r=>by
  have ih:=Ae f g v r;rw[show putF f v ((k,x)::r)=(if k=f then(k,v)::r else(k,x)::putF f v r) from rfl];by_cases hk:k=f
  ·rw[if_pos hk];by_cases h:g=k
   ·have hb:(g == k)=true:=beq_iff_eq.mpr h;simp only[NY,hb,if_pos (h.trans hk)]
   ·have hb:(g == k)=false:=beq_eq_false_iff_ne.mpr h;simp only[NY,hb,if_neg (λe:g=f=>h (e.trans hk.symm))]
  ·rw[if_neg hk];by_cases h:g=k
   ·have hb:(g == k)=true:=beq_iff_eq.mpr h;simp only[NY,hb,if_neg (λe:g=f=>hk (h.symm.trans e))]
   ·have hb:(g == k)=false:=beq_eq_false_iff_ne.mpr h;simp only[NY,hb];exact ih
theorem wc(f:Str)(v:V):∀fs:List (Str×V),f∈(putF f v fs).map (·.1)/\∀g,g∈fs.map (·.1)->g∈(putF f v fs).map (·.1)
 | []=>⟨by simp[putF],λg h=>by simp at h⟩
 | (k,x)::r=>by
  obtain⟨i1,i2⟩:=wc f v r;rw[show putF f v ((k,x)::r)=(if k=f then(k,v)::r else(k,x)::putF f v r) from rfl];by_cases hk:k=f
  ·rw[if_pos hk];subst hk;exact⟨by simp,λg h=>by simpa using h⟩
  ·rw[if_neg hk];refine⟨?_,λg h=>?_⟩
   ·rw[I_];exact n_ _ i1
   ·rw[I_] at h ⊢
    rcases x_.mp h with e | e
    ·exact x_.mpr (.inl e)
    ·exact n_ _ (i2 g e)
theorem zW(f:Str)(v:V):∀fs:List (Str×V),(putF f v fs).length<=fs.length+1
 | []=>by simp[putF]
 | (k,x)::r=>by
  have ih:=zW f v r;rw[show putF f v ((k,x)::r)=(if k=f then(k,v)::r else(k,x)::putF f v r) from rfl];by_cases hk:k=f
  ·rw[if_pos hk,G_,G_];omega
  ·rw[if_neg hk,G_,G_];omega
def RelO.some_of{v:V}{o:Option b_}(r:RelO (some v) o):∃u,o=some u/\RelV v u:=by
 cases o with
 | none=>exact(show False from r).elim
 | some u=>exact⟨u,rfl,r⟩
def RelO.none_of{o:Option b_}(r:RelO none o):o=none:=by
 cases o with
 | none=>rfl
 | some u=>exact(show False from r).elim
def Ib{v:V}(r:RelV v u):handedIn u=true:=by
 cases v with
 | non=>cases(show u=b_.none from r);rfl
 | bl b=>cases(show u=b_.bool b from r);rfl
 | int i=>obtain⟨t,e⟩:=(show ∃t,u=b_.int i t from r);cases e;rfl
 | str x=>obtain⟨t,e⟩:=(show ∃t,u=b_.str x t from r);cases e;rfl
 | ref a=>cases(show u=b_.ref a from r);rfl
 | ty n=>cases(show u=type n from r);rfl
section
variable {P:E_}{w:Mo}{H:Hp}{h:Mr}{a C dx:h_}{fs:List (Str×V)}
def qi(hok:HOk P w H h)(e:H a=some (.ins C dx fs)):∃mA,ObjM h a dx C mA/\(∀f,RelO (fs.lookup f) (mA f))/\PySem.Within mA (fs.map (·.1))/\fs.length<=1000/\H dx=some (.own a):=by
 obtain⟨d,z,ne,ob,mA,n,r,q⟩:=(show ObjOk P w H h a (.ins C dx fs) from hok a _ e);exact⟨mA,⟨ob,n,ne⟩,r,q,z,d⟩
end
structure Cls(K:FAa)(C:h_):Prop where
 pg:Sy K C Str.empty=true
 hd:S6 K C=true
 po:plainOver K C=true
 sa:PR K (.ref C) "__setattr__"=some (some (.builtin "object.__setattr__"))
def Cls.get{K:FAa}{C:h_}(c:Cls K C)(f:Str):Sy K C f=true:=c.pg
def NoAttr(K:FAa)(C:h_)(f:Str):Prop:=PR K (.ref C) f=some none
def NoAttr.taker{K:FAa}{C:h_}{f:Str}(n:NoAttr K C f):takerIn K C f=some none:=by
 unfold takerIn;rw[show PR K (.ref C) f=some none from n];rfl
structure Meth(K:FAa)(C:h_)(m:Str)(f:h_):Prop where
 at_:PR K (.ref C) m=some (some (.ref f))
 fn:isFn K (.ref f)=true
 kp:QQ K (.ref f)=true
section
variable{X:Cx}{B:St}{H:Hp}{s:e_}{a C dx:h_}{fs:List (Str×V)}{f:Str}{v:V}{A:Mn}{E:b_->e_->Prop}
def Fg{b:Bool}{Q:b_->e_->Prop}(I:Inv X aa B H s)(e:H a=some (.ins C dx fs))(c:Cls X.K C)(n:NoAttr X.K C f)(l:fs.lookup f=some v)(h:∀u s',Inv X aa B H s'->RelV v u->Q u s'):u_ (t_ X.prog X.w) A (getAttr (.ref a) f b) Q E s:=by
 obtain⟨mA,O,r,_,_,_⟩:=qi I.hok e;obtain⟨u,hu,ru⟩:=RelO.some_of (v:=v) (o:=mA f) (by rw[←l];exact r f);exact HN I.kIn O (c.get f) c.hd n hu (Ib ru) (h u _ (I.tok _) ru)
def ym{m:Str}{g:h_}{pl:Sem Bool}{Q:b_×List b_->e_->Prop}(I:Inv X aa B H s)(e:H a=some (.ins C dx fs))(c:Cls X.K C)(k:Meth X.K C m g)(l:fs.lookup m=none)(h:Q (.ref g,[.ref a]) s):u_ (t_ X.prog X.w) A (RS (.ref a) m pl) Q E s:=by
 obtain⟨mA,O,r,_,_,_⟩:=qi I.hok e;have hn:mA m=none:=RelO.none_of (by rw[←l];exact r m);exact JW I.kIn O (c.get m) k.at_ k.fn hn h
def Jb{y:V}{Q:Unit->e_->Prop}(I:Inv X aa B H s)(e:H a=some (.ins C dx fs))(c:Cls X.K C)(n:NoAttr X.K C f)(hl:fs.length < 1000)(ry:RelV y u)(h:∀s',Inv X aa B (upd H a (.ins C dx (putF f y fs))) s'->Q () s'):u_ (t_ X.prog X.w) A (setAttr (.ref a) f u) Q E s:=by
 obtain⟨mA,O,r,wi,_,ho⟩:=qi I.hok e;have hz:(fs.map (·.1)).length<=B_:=by rw[c_,MS];omega
 refine JX I.kIn O c.sa c.po n.taker c.hd wi hz λh' O' sb=>h _ ?_
 have hd:∃o,h'.get? dx=some o:=let ⟨o,_,_,e',_⟩:=O'.ns;⟨o,e'⟩
 refine I.write (x:=a) (e:=dx) (by rw[e];exact M5) (.inr ho) (λb q hb z=>(sb.2 b hb).trans z) hd ?_;refine⟨by rw[oI O.ne];exact ho,?_,O.ne,O'.obj,_,O'.ns,λg=>?_,λg hg=>?_⟩
 ·have:=zW f y fs;omega
 ·show RelO ((putF f y fs).lookup g) (if g=f then some u else mA g);rw[Ae];by_cases q:g=f
  ·rw[if_pos q,if_pos q];exact ry
  ·rw[if_neg q,if_neg q];exact r g
 ·by_cases q:g=f
  ·rw[q];exact(wc f y fs).1
  ·refine(wc f y fs).2 g (wi g λz=>hg ?_);show(if g=f then some u else mA g)=none;rw[if_neg q];exact z
def Inv.made(I:Inv X aa B H s):Inv X aa B (upd (upd H s.heap.objs.size (.own (s.heap.objs.size+1))) (s.heap.objs.size+1) (.ins C s.heap.objs.size []))
  { s with heap:=(s.heap.push OZ).push (Rb C s.heap.objs.size) }:=by
 have e1:(s.heap.push OZ).get? s.heap.objs.size=some OZ:=r_ s.heap rfl
 have e2:((s.heap.push OZ).push (Rb C s.heap.objs.size)).get? (s.heap.objs.size+1)=some (Rb C s.heap.objs.size):=by
  have:=r_ (s.heap.push OZ) (o:=Rb C s.heap.objs.size) rfl
  rwa [Na] at this
 have e3:(s.heap.push OZ).Ns s.heap.objs.size (λ_=>none):=⟨OZ,#[],_,e1,rfl,(λe he=>absurd he (by simp)),λ_=>rfl⟩;have I1:=I.laid (a:=s.heap.objs.size) (o:=.own (s.heap.objs.size+1)) (h':=s.heap.push OZ) (t':=s.toks) (λb u q=>f_ _ q) (s_ _) ⟨_,e1⟩;refine I1.laid (a:=s.heap.objs.size+1) (o:=.ins C s.heap.objs.size []) (t':=s.toks) (λb u q=>f_ _ q) (TC (Na _ _)) ?_;have ne:s.heap.objs.size≠s.heap.objs.size+1:=My (Nb _);refine⟨by rw[oI ne,oK],Mu _,ne,e2,λ_=>none,(Mr.Ns1.of_empty e3).at λo q=>f_ _ q,λ_=>M5,λy hy=>absurd rfl hy⟩
def KM{prog:E_}{w:Mo}{e:y_}{f:Str}{s:e_}{Q:b_->e_->Prop}(hb:Nh e f env (MW e env)=MW e env)(h:u_ (t_ prog w) A (MW e env) (λo am=>u_ (t_ prog w) A (getAttr o f true) Q E am) E s):u_ (t_ prog w) A (MW (.Attribute e f pos) env) Q E s:=
 Attribute_any_ h (by rw[arm_eval_Attribute,hb])
end
def tFld(K:FAa)(ta:TE)(f:Str):TE:=λB H Q=>ta B H λx H1=>∃a C dx fs v,x=.ref a/\H1 a=some (.ins C dx fs)/\Cls K C/\NoAttr K C f/\fs.lookup f=some v/\Q v H1
def sFld(K:FAa)(ta tv:TE)(f:Str):TS:=λD B H=>tv B H λy H1=>ta B H1 λx H2=>∃a C dx fs,x=.ref a/\H2 a=some (.ins C dx fs)/\Cls K C/\NoAttr K C f/\fs.length < 1000 ∧
 D.nx B (upd H2 a (.ins C dx (putF f y fs)))
section
variable{X:Cx}{o e value:y_}{f:Str}{bR:Pos}{ta tv:TE}
def E3(he:PE X e ta)(hb:Nh e f X.env (MW e X.env)=MW e X.env):PE X (.Attribute e f pos) (tFld X.K ta f):=by
 intro aa s B H Q I h;refine KM hb (thn (he aa s B H _ I h) λu s1 ⟨x,H1,I1,rx,a,C,dx,fs,v,ex,ea,c,n,l,q⟩=>?_);subst ex;obtain rfl:u=b_.ref a:=rx;exact Fg I1 ea c n l λu' s2 I2 ru=>⟨v,H1,I2,ru,q⟩
def La(ha:PE X o ta)(hv:PE X value tv)(hs:N6 value (some (.Attribute o f bR)) pos.line X.env=pure false):PS X (.Assign [.Attribute o f bR] value pos) (sFld X.K ta tv f):=by
 intro aa s B H D I h;refine plainObj_wpAny_Assign_Attribute (thn (hv aa s B H _ I h) λu s1 ⟨y,H1,I1,ry,q⟩=>thn (ha aa s1 B H1 _ I1 q) λov s2 ⟨x,H2,I2,rx,a,C,dx,fs,ex,ea,c,n,l,q2⟩=>?_) hs;subst ex;obtain rfl:ov=b_.ref a:=rx;exact Jb I2 ea c n l ry λs3 I3=>⟨B,_,I3,q2⟩
end
structure Room(k:Nat)(A:Mn):Prop where
 hd:A.handled=none
 dp:A.depth+3*k+5 < recursionLimit
 un:A.units+16*k+200 < Ni
 gd:A.guards=some []
def Room.mono{k:Nat}{A:Mn}(r:Room k A)(h:j<=k):Room j A:=⟨r.hd,by have:=r.dp;omega,by have:=r.un;omega,r.gd⟩
theorem Room.deeper{k:Nat}{A:Mn}(r:Room (k+1) A)(env:Env):Room k (A.deeper env):=
 ⟨r.hd,by have:=r.dp;show A.depth+1+3*k+5 < _;omega,by have:=r.un;show A.units+3+16*k+200 < _;omega,r.gd⟩
def HD{A:Mn}{C:h_}{us:List b_}:(A.under (.builtin "type.__call__" ⟨.ref C::us,kw⟩)).depth=A.depth+1:=by
 first | rfl | simp[Mn.under,T6.weight,T6.isCreation,T6.isGuard,T6.isCaller,T6.frames,isFrame,guardIds]
def JM{A:Mn}{C:h_}{us:List b_}:(A.under (.builtin "type.__call__" ⟨.ref C::us,kw⟩)).units=A.units+1:=by
 first | rfl | simp[Mn.under,T6.cUnits,T6.frames,isFrame]
def Room.make{k:Nat}{A:Mn}(r:Room (k+1) A)(C:h_)(us:List b_)(kw:List (Str×b_)):Room k (A.under (.builtin "type.__call__" ⟨.ref C::us,kw⟩)):=
 ⟨r.hd,by have:=r.dp;rw[HD];omega,by have:=r.un;rw[JM];omega,(by first | exact r.gd | (simp only[Mn.under];exact r.gd) | simpa[Mn.under,T6.isGuard,guardIds] using r.gd)⟩
theorem Room.depth{k:Nat}{A:Mn}(r:Room k A):A.depth < recursionLimit:=by have:=r.dp;omega
noncomputable def tNil:TA:=λ_ H Q=>Q [] H
noncomputable def tCons(ta:TE)(tr:TA):TA:=λB H Q=>ta B H λx H1=>tr B H1 λxs H2=>Q (x::xs) H2
section
variable{X:Cx}{e:y_}{es:List y_}{te:TE}{t:TA}
def zt:PA X [] tNil:=λ_ _ _ _ H Q I h=>O9 ⟨[],H,I,.nil,h⟩
def wp(ha:PE X e te)(hr:PA X es t)(hs:D_ (e::es) X.env=(false,MW e X.env)::D_ es X.env:=by rfl):PA X (e::es) (tCons te t):=by
 intro pos aa s B H Q I h;rw[hs];show u_ _ _ (spliced ((false,MW e X.env)::N4 pos (D_ es X.env))) _ _ s;refine OR (thn (ha aa s B H _ I h) λu s1 ⟨x,H1,I1,r1,q1⟩=>?_);exact thn (hr pos aa s1 B H1 _ I1 q1) λus s2 ⟨xs,H2,I2,r2,q2⟩=>⟨x::xs,H2,I2,.cons r1 r2,q2⟩
def tTup(t:TA):TE:=λB H Q=>t B H λxs H1=>xs.length<=B_/\∀p,H1 p=none->Q (.ref p) (upd H1 p (.tup xs))
def tLst(t:TA):TE:=λB H Q=>t B H λxs H1=>xs.length<=B_/\∀p,H1 p=none->Q (.ref p) (upd H1 p (.lst xs))
def DA{x1}(h:PA X es t):PE X (.Tuple es x1 pos) (tTup t):=by
 intro aa s B H Q I hq;refine wpAny_Tuple_spliced (thn (h pos aa s B H _ I hq) λus s1 ⟨xs,H1,I1,r,z,q⟩=>⟨by rw[←r.length];exact z,?_⟩);have hf:H1 s1.heap.objs.size=none:=I1.hok.fresh (s_ _);refine⟨.ref s1.heap.objs.size,upd H1 s1.heap.objs.size (.tup xs),I1.laid (t':=s1.toks) (λb u e=>f_ _ e) (s_ _) ?_,rfl,q _ hf⟩;exact⟨z,us,r,⟨_,r_ _ rfl,rfl,_,rfl⟩⟩
def Fo(h:PA X es t):PE X (.List es pos) (tLst t):=by
 intro aa s B H Q I hq;refine wpAny_List_spliced (thn (h pos aa s B H _ I hq) λus s1 ⟨xs,H1,I1,r,z,q⟩=>⟨by rw[←r.length];exact z,?_⟩);have hf:H1 s1.heap.objs.size=none:=I1.hok.fresh (s_ _);refine⟨.ref s1.heap.objs.size,upd H1 s1.heap.objs.size (.lst xs),I1.laid (t':=s1.toks) (λb u e=>f_ _ e) (s_ _) ?_,rfl,q _ hf⟩;exact⟨z,us,0,r,r_ _ rfl⟩
end
abbrev Sp:=List V->Hp->VK->XK->Prop
abbrev CXT:=List Env->Hp->e_->XK->b_->e_->Prop
structure Env0(P:E_)(w:Mo)(K:FAa)(mg:Str->Option b_)(base:Mr)(A:Mn)(outer:List Env)(s:e_)(H:Hp):Prop where
 frames:A.frames=some outer
 mod:Mod K mg base
 bs:∀b o,base.get? b=some o->s.heap.get? b=some o/\H b=none
 bsz:base.objs.size<=s.heap.objs.size
 funs:s.heap.FunFrames base outer
 frf:∀b∈frs outer,H b=none
 hok:HOk P w H s.heap
 bare:Qy s.gens
def CE(outer:List Env)(P:E_)(w:Mo)(H:Hp)(s:e_)(Q:VK)(u:b_)(s':e_):Prop:=
 ∃v H',s'.os=s.os/\Qy s'.gens/\Un (frs outer) [] H H' s.heap s'.heap/\HOk P w H' s'.heap/\RelV v u/\Q v H'
def CR(CX:CXT)(outer:List Env)(P:E_)(w:Mo)(H:Hp)(s:e_)(Q:VK)(E:XK)(r:TB)(s':e_):Prop:=
 match r with
 | .ok (.ret u)=>CE outer P w H s Q u s'
 | .ok _=>False
 | .error e=>CX outer H s E e s'
structure FnOk(P:E_)(w:Mo)(K:FAa)(mg:Str->Option b_)(base:Mr)(CX:CXT)(k:Nat)(f:h_)(fd:RB)(ps:List Str)(sp:Sp):Prop where
 len:∀vs H Q E,sp vs H Q E->vs.length=ps.length
 run:∀(A:Mn) (outer:List Env) (s:e_) (H:Hp) (args:Args) (us:List b_) (vs:List V) (Q:VK) (E:XK),Room k A->Env0 P w K mg base A outer s H->Sz s fd args (ps.zip us)->Vals vs us->sp vs H Q E →
  OB (t_ P w) A (.call (.ref f) args) (CR CX outer P w H s Q E) s
theorem FnOk.mono{P:E_}{w:Mo}{K:FAa}{mg:Str->Option b_}{base:Mr}{CX:CXT}{k:Nat}{f:h_}{sp:Sp}(F:FnOk P w K mg base CX j f fd ps sp)(h:j<=k):
  FnOk P w K mg base CX k f fd ps sp:=⟨F.len,λA outer s H args us vs Q E hr=>F.run A outer s H args us vs Q E (hr.mono h)⟩
def Env0.make{P:E_}{w:Mo}{K:FAa}{mg:Str->Option b_}{base:Mr}{A:Mn}{outer:List Env}{s:e_}{H:Hp}(e:Env0 P w K mg base A outer s H)(C:h_)(us:List b_)(kw:List (Str×b_)):
  Env0 P w K mg base (A.under (.builtin "type.__call__" ⟨.ref C::us,kw⟩)) outer s H:=⟨by first | exact e.frames | (simpa[Mn.under,T6.envs,isFrame,pushEnvs] using e.frames),e.mod,e.bs,e.bsz,e.funs,e.frf,e.hok,e.bare⟩
section
variable{X:Cx}{B:St}{H:Hp}{s:e_}
def Inv.env0(I:Inv X aa B H s):Env0 X.prog X.w X.K X.mg X.base X.A X.stack s H:=
 ⟨I.ok.frames,I.ok.mod,I.bs,A_ I.ok.bsz I.sz,I.stack,I.stkFree,I.hok,I.bare⟩
def Inv.after{Q:VK}(I:Inv X aa B H s)(h:CE X.stack X.prog X.w H s Q u s'):EP X aa B Q u s':=by
 obtain⟨v,H',os,bare,un,hok,r,q⟩:=h;obtain⟨hh,g,d,t,eG⟩:=s';obtain rfl:eG=s.os:=os;exact⟨v,H',I.call (h':=hh) (g':=g) (d':=d) (t':=t) (ch:=[]) un hok bare (λb z=>absurd z (by simp)),r,q⟩
end
noncomputable def tCall(sp:Sp)(dvs:List V)(E:XK)(t:TA):TE:=λB H Q=>t B H λvs H1=>sp (vs++dvs) H1 Q E
def tMeth(C:h_)(m:Str)(sp:Sp)(dvs:List V)(E:XK)(ta:TE)(t:TA):TE:=λB H Q=>ta B H λx H1=>∃a dx fs,x=.ref a/\H1 a=some (.ins C dx fs)/\fs.lookup m=none ∧
 t B H1 λvs H2=>sp (x::(vs++dvs)) H2 Q E
def tMake(C:h_)(sp:Sp)(dvs:List V)(E:XK)(t:TA):TE:=λB H Q=>t B H λvs H1=>∀x dx,H1 x=none->H1 dx=none->dx≠x →
 sp (.ref x::(vs++dvs)) (upd (upd H1 dx (.own x)) x (.ins C dx [])) (λv H2=>v=.non/\Q (.ref x) H2) E
def Binds(K:FAa)(fd:RB)(ps:List Str)(ds:List b_):Prop:=
 ∀(s:e_) (us:List b_),K.In s.heap->(us++ds).length=ps.length->Sz s fd ⟨us,[]⟩ (ps.zip (us++ds))
def Binds.all{K:FAa}(h:∀us:List b_,us.length=ps.length->bindArgs fd ⟨us,[]⟩=pure (ps.zip us)):Binds K fd ps []:=λs us _ hl=>by
 rw[MY] at hl ⊢;exact .of_eq (h us hl)
def Passes(CX:CXT)(X:Cx)(E:XK):Prop:=∀(aa:List (h_×Obj)) (B:St) (H:Hp) (s:e_) (e:b_) (s':e_),Inv X aa B H s->CX X.stack H s E e s'->X.xe e s'
section
variable{X:Cx}{CX:CXT}{k:Nat}{f C:h_}{sp:Sp}{dvs:List V}{ds:List b_}{E:XK}{x m:Str}{p:Pos}{e o:y_}{es:List y_}{ta:TE}{t:TA}
theorem tm{B:St}{H:Hp}{s:e_}{Q:VK}{us:List b_}{vs:List V}(F:FnOk X.prog X.w X.K X.mg X.base CX k f fd ps sp)(hr:Room k X.A)(hb:Binds X.K fd ps ds)(hd:Vals dvs ds)(hx:Passes CX X E)(I:Inv X aa B H s)(r:Vals vs us)(h:sp (vs++dvs) H Q E):u_ (t_ X.prog X.w) X.A (call (.ref f) us) (EP X aa B Q) X.xe s:=by
 have r2:Vals (vs++dvs) (us++ds):=r.append hd;have hl:(us++ds).length=ps.length:=by rw[←r2.length];exact F.len _ _ _ _ h
 refine TD (Oe (F.run X.A X.stack s H ⟨us,[]⟩ (us++ds) (vs++dvs) Q E hr I.env0 (hb s us I.kIn hl) r2 h) λr s' hq=>?_);cases r with
 | error e=>exact hx aa B H s e s' I hq
 | ok fl =>
  cases fl with
  | ret u=>exact I.after hq
  | next=>exact Ts hq
  | brk=>exact Ts hq
  | cont=>exact Ts hq
def IC(F:FnOk X.prog X.w X.K X.mg X.base CX k f fd ps sp)(hr:Room k X.A)(hg:Gl X x)(hm:X.mg x=some (.ref f))(hk:QQ X.K (.ref f)=true)(hb:Binds X.K fd ps ds)(hd:Vals dvs ds)(hx:Passes CX X E)(ha:PA X (e::es) t)(aX:(x == ("__debug__":Str))=false:=by decide)(he:D_ (e::es) X.env=(false,MW e X.env)::D_ es X.env:=by rfl)(bD:(N4 pos (D_ es X.env)).any (·.1)=false:=by rfl):
  PE X (.Call (.Name x p) (e::es) [] pos) (tCall sp dvs E t):=by
 intro aa s B H Q I h;refine Nt (uQ I hg hm ?_ aX);refine TF (h₀:=X.base) I.ok.mod.kin hk (thn (ha pos aa s B H _ I h) λus s1 ⟨vs,H1,I1,r,q⟩=>⟨I1.kIn,?_⟩) he bD;exact tm F hr hb hd hx I1 r q
def Fu(F:FnOk X.prog X.w X.K X.mg X.base CX k f fd ps sp)(hr:Room k X.A)(hg:Gl X x)(hm:X.mg x=some (.ref f))(hk:QQ X.K (.ref f)=true)(hb:Binds X.K fd ps ds)(hd:Vals dvs ds)(hx:Passes CX X E)(aX:(x == ("__debug__":Str))=false:=by decide):PE X (.Call (.Name x p) [] [] pos) (tCall sp dvs E tNil):=by
 intro aa s B H Q I h;refine Nt (uQ I hg hm ?_ aX);exact Ti I.kIn hk (tm (us:=[]) F hr hb hd hx I .nil h)
def KD{pl:Sem Bool}(he:PE X o ta)(c:Cls X.K C)(hm:Meth X.K C m f)(F:FnOk X.prog X.w X.K X.mg X.base CX k f fd ps sp)(hr:Room k X.A)(hb:Binds X.K fd ps ds)(hd:Vals dvs ds)(hx:Passes CX X E)(ha:PA X (e::es) t)(cB:D_ (e::es) X.env=(false,MW e X.env)::D_ es X.env:=by rfl)(bD:(N4 pos (D_ es X.env)).any (·.1)=false:=by rfl)(ht:MW (.Call (.Attribute o m aj) (e::es) [] pos) X.env=(do
   let ov ←MW o X.env
   Qz aj.atName
   let (f,first) ←OA [ov] (RS ov m pl)
   callWith pos f first (N4 pos (D_ (e::es) X.env)) (QY pos (O2 [] X.env))):=by rfl):
  PE X (.Call (.Attribute o m aj) (e::es) [] pos) (tMeth C m sp dvs E ta t):=by
 intro aa s B H Q I h;refine PySem.W.methodCall_KW (pl:=pl) (thn (he aa s B H _ I h) λu s1 ⟨x,H1,I1,rx,a,dx,fs,ex,ea,l,q⟩=>?_) ht;subst ex;obtain rfl:u=b_.ref a:=rx;refine ym I1 ea c hm l ?_;refine TF (first:=[.ref a]) (h₀:=X.base) I.ok.mod.kin hm.kp (thn (ha pos aa s1 B H1 _ I1 q) λus s2 ⟨vs,H2,I2,r,q2⟩=>⟨I2.kIn,?_⟩) cB bD;exact tm (us:=.ref a::us) (vs:=.ref a::vs) F hr hb hd hx I2 (.cons rfl r) q2
def LB{pl:Sem Bool}(he:PE X o ta)(c:Cls X.K C)(hm:Meth X.K C m f)(F:FnOk X.prog X.w X.K X.mg X.base CX k f fd ps sp)(hr:Room k X.A)(hb:Binds X.K fd ps ds)(hd:Vals dvs ds)(hx:Passes CX X E)(ht:MW (.Call (.Attribute o m aj) [] [] pos) X.env=(do
   let ov ←MW o X.env
   Qz aj.atName
   let (f,first) ←OA [ov] (RS ov m pl)
   callWith pos f first (N4 pos (D_ [] X.env)) (QY pos (O2 [] X.env))):=by rfl):
  PE X (.Call (.Attribute o m aj) [] [] pos) (tMeth C m sp dvs E ta tNil):=by
 intro aa s B H Q I h;refine PySem.W.methodCall_KW (pl:=pl) (thn (he aa s B H _ I h) λu s1 ⟨x,H1,I1,rx,a,dx,fs,ex,ea,l,q⟩=>?_) ht;subst ex;obtain rfl:u=b_.ref a:=rx;refine ym I1 ea c hm l ?_;exact Ti (first:=[.ref a]) I1.kIn hm.kp (tm (us:=[.ref a]) (vs:=[.ref a]) F hr hb hd hx I1 (.cons rfl .nil) q)
structure Mk(K:FAa)(C f:h_):Prop where
 makes:makesIn K C=true
 init:PR K (.ref C) "__init__"=some (some (.ref f))
 fn:isFn K (.ref f)=true
 kp:QQ K (.ref C)=true
theorem zu{B:St}{H:Hp}{s:e_}{Q:VK}{us:List b_}{vs:List V}(M:Mk X.K C f)(F:FnOk X.prog X.w X.K X.mg X.base CX k f fd ps sp)(hr:Room (k+1) X.A)(hb:Binds X.K fd ps ds)(hd:Vals dvs ds)(hx:Passes CX X E)(I:Inv X aa B H s)(r:Vals vs us)(h:∀x dx,H x=none->H dx=none->dx≠x->sp (.ref x::(vs++dvs)) (upd (upd H dx (.own x)) x (.ins C dx [])) (λv H2=>v=.non/\Q (.ref x) H2) E):
  u_ (t_ X.prog X.w) X.A (call (.ref C) us) (EP X aa B Q) X.xe s:=by
 have hq:=h (s.heap.objs.size+1) s.heap.objs.size (I.hok.fresh (P5 _)) (I.hok.fresh (s_ _)) (My (Nb _));have I2:=Inv.made (C:=C) I;have r2:Vals (V.ref (s.heap.objs.size+1)::(vs++dvs)) (b_.ref (s.heap.objs.size+1)::(us++ds)):=.cons rfl (r.append hd)
 have hl:(b_.ref (s.heap.objs.size+1)::us++ds).length=ps.length:=by
  have e:=r2.length;rw[F.len _ _ _ _ hq] at e;exact e.symm
 refine TD (J6 (f:=f) I.kIn M.makes M.init (beq_iff_eq.mp M.fn) (Oe (F.run _ X.stack _ _ ⟨b_.ref (s.heap.objs.size+1)::us,[]⟩ (b_.ref (s.heap.objs.size+1)::(us++ds)) _ _ E (hr.make C us [])
  (I2.env0.make C us []) (hb _ (b_.ref (s.heap.objs.size+1)::us) I2.kIn hl) r2 hq) λr s' eJ=>?_))
 cases r with
 | error e=>exact hx aa B _ _ e s' I2 eJ
 | ok fl =>
  cases fl with
  | ret u =>
   obtain⟨v,H',I3,rv,ev,q3⟩:=I2.after eJ;subst ev;exact⟨rv,⟨V.ref (s.heap.objs.size+1),H',I3,rfl,q3⟩⟩
  | next=>exact Ts eJ
  | brk=>exact Ts eJ
  | cont=>exact Ts eJ
def JK(M:Mk X.K C f)(F:FnOk X.prog X.w X.K X.mg X.base CX k f fd ps sp)(hr:Room (k+1) X.A)(hg:Gl X x)(hm:X.mg x=some (.ref C))(hb:Binds X.K fd ps ds)(hd:Vals dvs ds)(hx:Passes CX X E)(ha:PA X (e::es) t)(aX:(x == ("__debug__":Str))=false:=by decide)(he:D_ (e::es) X.env=(false,MW e X.env)::D_ es X.env:=by rfl)(bD:(N4 pos (D_ es X.env)).any (·.1)=false:=by rfl):
  PE X (.Call (.Name x p) (e::es) [] pos) (tMake C sp dvs E t):=by
 intro aa s B H Q I h;refine Nt (uQ I hg hm ?_ aX);refine TF (h₀:=X.base) I.ok.mod.kin M.kp (thn (ha pos aa s B H _ I h) λus s1 ⟨vs,H1,I1,r,q⟩=>⟨I1.kIn,?_⟩) he bD;exact zu M F hr hb hd hx I1 r q
def Gf(M:Mk X.K C f)(F:FnOk X.prog X.w X.K X.mg X.base CX k f fd ps sp)(hr:Room (k+1) X.A)(hg:Gl X x)(hm:X.mg x=some (.ref C))(hb:Binds X.K fd ps ds)(hd:Vals dvs ds)(hx:Passes CX X E)(aX:(x == ("__debug__":Str))=false:=by decide):PE X (.Call (.Name x p) [] [] pos) (tMake C sp dvs E tNil):=by
 intro aa s B H Q I h;refine Nt (uQ I hg hm ?_ aX);exact Ti I.kIn M.kp (zu (us:=[]) M F hr hb hd hx I .nil h)
end
structure FnScope(N P:List Str)(sc:M_):Prop where
 kind:sc.kind=.function
 co:sc.isCoroutine=false
 gen:sc.isGenerator=false
 nd:N.Nodup
 pre:N.take P.length=P
 par:∀x∈P,sc.names.lookup x=some .local\/sc.names.lookup x=some .cell
 nofree:∀y∈sc.names,y.2≠.free
theorem Ah{kindOf:Str->Option MK}{x:Str}:∀{binds:List (Str×b_)}{m:Str->Option b_},(∀v,(x,v)∉binds)->TH kindOf binds m x=m x
 | [],_,_=>rfl
 | (n,v)::r,m,h=>by
  unfold TH;rw[Ah λw hw=>h w (n_ _ hw)];split
  ·have:x≠n:=by rintro rfl;exact h v p_
   simp[this]
  ·rfl
theorem A8{kindOf:Str->Option MK}{x:Str}:∀{binds:List (Str×b_)}{m:Str->Option b_},(∀v,(x,v)∉binds)->TJ kindOf binds m x=m x
 | [],_,_=>rfl
 | (n,v)::r,m,h=>by
  unfold TJ;rw[A8 λw hw=>h w (n_ _ hw)];split
  ·rfl
  ·have:x≠n:=by rintro rfl;exact h v p_
   simp[this]
theorem Bv{kindOf:Str->Option MK}{x:Str}{v:b_}:∀{P:List Str}{vs:List b_}{i:Nat}{m:Str->Option b_},P.Nodup->P[i]?=some x->vs[i]?=some v->kindOf x=some .local →
  TH kindOf (P.zip vs) m x=some v
 | [],_,_,_,_,h,_,_=>by simp at h
 | _::_,[],_,_,_,_,h,_=>by simp at h
 | p::P,w::vs,0,m,nd,h1,h2,hk=>by
  simp at h1 h2;subst h1;subst h2;show TH kindOf ((p,w)::P.zip vs) m p=_;unfold TH;rw[Ah λv hv=>(MH.mp nd).1 (Ri hv).1,if_pos hk];simp
 | p::P,w::vs,i+1,m,nd,h1,h2,hk=>by
  show TH kindOf ((p,w)::P.zip vs) m x=_;unfold TH;exact Bv (i:=i) (MH.mp nd).2 (by simpa using h1) (by simpa using h2) hk
theorem yX{kindOf:Str->Option MK}{x:Str}{v:b_}:∀{P:List Str}{vs:List b_}{i:Nat}{m:Str->Option b_},P.Nodup->P[i]?=some x->vs[i]?=some v->kindOf x≠some .local →
  TJ kindOf (P.zip vs) m x=some v
 | [],_,_,_,_,h,_,_=>by simp at h
 | _::_,[],_,_,_,_,h,_=>by simp at h
 | p::P,w::vs,0,m,nd,h1,h2,hk=>by
  simp at h1 h2;subst h1;subst h2;show TJ kindOf ((p,w)::P.zip vs) m p=_;unfold TJ;rw[A8 λv hv=>(MH.mp nd).1 (Ri hv).1,if_neg hk];simp
 | p::P,w::vs,i+1,m,nd,h1,h2,hk=>by
  show TJ kindOf ((p,w)::P.zip vs) m x=_;unfold TJ;exact yX (i:=i) (MH.mp nd).2 (by simpa using h1) (by simpa using h2) hk
noncomputable def start(N:List Str)(vs:List V):St:=vs.map some++Mm (N.length - vs.length) none
noncomputable def cxOf(CX:CXT)(P:E_)(w:Mo)(K:FAa)(mg:Str->Option b_)(base:Mr)(N:List Str)(qual:Str)(scope:M_)(f:h_)(cd:b_)(A:Mn)(outer:List Env)(s:e_)(H:Hp)(E:XK):Cx where
 prog:=P
 w:=w
 K:=K
 mg:=mg
 base:=base
 A:=A.deeper (Rj qual scope s.heap.objs.size f cd)
 N:=N
 s₀:=s
 H₀:=H
 env:=Rj qual scope s.heap.objs.size f cd
 outer:=outer
 stack:=Rj qual scope s.heap.objs.size f cd::outer
 ex:=[]
 calm:=true
 fn:=λ_=>true
 pn:=[]
 xe:=λe s'=>u_ (t_ P w) (A.deeper (Rj qual scope s.heap.objs.size f cd)) (leaving (Rj qual scope s.heap.objs.size f cd) e) (λ_ d7=>CX outer H s E e d7) (λe' d7=>CX outer H s E e' d7) s'
def wH{sc:M_}{x:Str}(h:sc.names.lookup x=some .cell):∃c,(NN n sc.names []).lookup x=some c:=by
 have q:=PySem.W.cellsFrom_some sc.names n [] (.inl h);exact Option.isSome_iff_exists.mp q
def Ix{CX:CXT}{P:E_}{w:Mo}{K:FAa}{mg:Str->Option b_}{base:Mr}{N:List Str}{f:h_}{A:Mn}{outer:List Env}{s s1:e_}{H:Hp}{E:XK}{us:List b_}{vs:List V}(S:FnScope N ps scope)(hd:A.handled=none)(e0:Env0 P w K mg base A outer s H)(hl:vs.length=ps.length)(r:Vals vs us)(x:InCallC s s.heap.objs.size (TH (Rj qual scope s.heap.objs.size f cd).kindOf (ps.zip us) λ_=>none) (NN (s.heap.objs.size+1) scope.names []) (TJ (Rj qual scope s.heap.objs.size f cd).kindOf (ps.zip us) λ_=>none) s1):
  Inv (cxOf CX P w K mg base N qual scope f cd A outer s H E) [] (start N vs) H s1:=by
 have bD:ps.length<=N.length:=by have:=congrArg length S.pre;rw[M8] at this;omega
 obtain⟨h1,tk,rfl,hk⟩:=x.done;have eK:∀b:h_,b∉(cxOf CX P w K mg base N qual scope f cd A outer s H E).ex:=λb z=>absurd (show b∈([]:List h_) from z) (by simp)
 refine⟨⟨e0.mod,S.kind,rfl,rfl,s_ _,λy z c h1 h2=>?_,λy hy=>?_,λy c _ h=>?_,λ_=>hd,Mn.frames_deeper e0.frames,.inr ⟨rfl,rfl⟩,λb z=>absurd z (eK b),e0.bs,e0.bsz,λb _ _=>eK b,λb z=>absurd z (eK b),e0.funs,e0.frf⟩,
  rfl,e0.bare,Un.kept hk,⟨_,x.toInCall.ns,λi y v h1 h2 h3=>?_⟩,λy c h=>⟨_,x.cell y c h⟩,e0.hok.fresh (s_ _),λy c h=>?_,λp hp=>absurd (show p∈([]:List (h_×Obj)) from hp) (by simp),e0.hok.kept hk,?_⟩
 ·exact name_of_addr x.apart (PySem.mem_of_lookup h1) (PySem.mem_of_lookup h2)
 ·have hy:scope.names.lookup y=some .cell\/scope.names.lookup y=some .free:=hy
  rcases hy with hy | hy
  ·exact wH hy
  ·exact absurd rfl (S.nofree _ (PySem.mem_of_lookup hy))
 ·exact O7 (x.above y c (PySem.mem_of_lookup h))
 ·have hi:i < vs.length:=by
   unfold start at h2;by_cases hi:i < vs.length
   ·exact hi
   ·rw[MT (by simpa using hi)] at h2;rw[N7] at h2;split at h2<;>cases h2
  have ha:vs[i]?=some v:=by
   unfold start at h2;rw[M9 (by simpa using hi),Mx] at h2;cases e:vs[i]? with
   | none=>rw[e] at h2;cases h2
   | some a=>rw[e] at h2;cases h2;rfl
  obtain⟨u,hu,rv⟩:=r.get ha
  have hp:ps[i]?=some y:=by
   rw[←S.pre,List.getElem?_take_of_lt ⋯];exact h1
  have i8:ps.Nodup:=by rw[←S.pre];exact S.nd.sublist (List.take_sublist _ _)
  refine⟨u,rv,?_⟩
  rcases S.par y (NC hp) with k | k
  ·exact .inl ⟨k,Bv i8 hp hu k⟩
  ·obtain⟨c,e⟩:=wH (n:=s.heap.objs.size+1) k;refine .inr ⟨.inl k,c,e,?_⟩;have q:=x.cell y c e;rw[yX i8 hp hu (by show scope.names.lookup y≠_;rw[k];decide)] at q;exact q
 ·exact e0.hok.fresh (O7 (x.above y c (PySem.mem_of_lookup h)))
 ·unfold start;show _=N.length;rw[g_,c_,Mw];omega
def CQ{CX:CXT}{P:E_}{w:Mo}{K:FAa}{mg:Str->Option b_}{base:Mr}{k:Nat}{f:h_}{name:Str}{dV kV aJ pm ay ct:b_}{N:List Str}{sp:Sp}(lk:K.lookup f=some ⟨oc,od,.func (fnOf name qual params body scope dV kV aJ pm an ay ct),cj⟩)(cg:codeIn K ay qual=true)(S:FnScope N ps scope)(len:∀vs H Q E,sp vs H Q E->vs.length=ps.length)(dg:∀(A:Mn) (outer:List Env) (s:e_) (H:Hp) (vs:List V) (Q:VK) (E:XK),Room k (A.deeper (Rj qual scope s.heap.objs.size f ay))->sp vs H Q E →
   ∃t,PSs (cxOf CX P w K mg base N qual scope f ay A outer s H E) body t/\t { nx:=λ_ H'=>Q .non H',rt:=Q } (start N vs) H):
  FnOk P w K mg base CX (k+1) f (fnOf name qual params body scope dV kV aJ pm an ay ct) ps sp:=by
 refine⟨len,λA outer s H args us vs Q E hr e0 hb r cN=>?_⟩;have hl:=len _ _ _ _ cN;have KX:K.In s.heap:=e0.mod.kin.keeps λb o e=>(e0.bs b o e).1
 have lim:s.heap.NoLimit:=e0.mod.nolimit.keeps λb o e=>(e0.bs b o e).1
 have gQ:∀y∈ps.zip us,scope.names.lookup y.1=some .local\/(scope.names.lookup y.1=some .cell/\((NN (s.heap.objs.size+1) scope.names []).lookup y.1).isSome=true):=λ⟨n,v⟩ hy=>by
  rcases S.par n (Ri hy).1 with q | q
  ·exact .inl q
  ·exact .inr ⟨q,PySem.W.cellsFrom_some _ _ _ (.inl q)⟩
 refine codeAny_call_function hr.depth (KX _ _ lk) rfl S.co S.gen rfl (PySem.W.codeRec_of KX cg) (hb _ _ _ _ ?_);refine wpAny_newFunctionEnv_cells S.kind gQ λenv he s1 x=>?_
 subst he;refine⟨lim.keeps x.toInCall.keep,codeAny_func ?_⟩;obtain⟨t,ht,hq⟩:=dg A outer s H vs Q E (hr.deeper _) cN;have I:Inv (cxOf CX P w K mg base N qual scope f ay A outer s H E) [] (start N vs) H s1:=Ix S hr.hd e0 hl r x;refine M6 (ht [] s1 (start N vs) H _ I hq) (λfl s' hs=>?_) λe s' hs=>hs
 have fin:∀{ak:St}{H':Hp}{v:V}{u:b_},Inv (cxOf CX P w K mg base N qual scope f ay A outer s H E) [] ak H' s'->RelV v u->Q v H'->CE outer P w H s Q u s':=
  λ{ak H' v u} J rv q=>⟨v,H',J.os,J.bare,J.base,J.hok,rv,q⟩
 cases fl with
 | ret u =>
  obtain⟨v,ak,H',J,rv,q⟩:=hs;exact fin J rv q
 | next =>
  obtain⟨ak,H',J,q⟩:=hs;exact fin (v:=V.non) (u:=b_.none) J rfl q
 | brk =>
  obtain⟨_,_,_,q⟩:=hs;exact Ts q
 | cont =>
  obtain⟨_,_,_,q⟩:=hs;exact Ts q
section
variable{X:Cx}{x:Str}{p:Pos}{e:y_}{es:List y_}{t:TA}{id T:String}{r:List V->Hp->VK->Prop}
noncomputable def tCB(r:List V->Hp->VK->Prop)(t:TA):TE:=λB H Q=>t B H λvs H1=>r vs H1 Q
def Az(hc:CallR X (.builtin id) r)(hg:Gl X x)(hm:X.mg x=none)(hv:NW x=some (.builtin id))(ha:PA X (e::es) t)(hn:x ≠ "__name__":=by decide)(aX:(x == ("__debug__":Str))=false:=by decide)(he:D_ (e::es) X.env=(false,MW e X.env)::D_ es X.env:=by rfl)(bD:(N4 pos (D_ es X.env)).any (·.1)=false:=by rfl):PE X (.Call (.Name x p) (e::es) [] pos) (tCB r t):=by
 intro aa s B H Q I h;refine Nt (pM I hg hm hv ?_ hn aX);exact Pq (thn (ha pos aa s B H _ I h) λus s1 ⟨vs,H1,I1,r1,q1⟩=>hc aa s1 B H1 vs us Q I1 r1 q1) he bD
def JZ(hc:CallR X (.type T) r)(hg:Gl X x)(hm:X.mg x=none)(hv:NW x=some (.type T))(ha:PA X (e::es) t)(hn:x ≠ "__name__":=by decide)(aX:(x == ("__debug__":Str))=false:=by decide)(he:D_ (e::es) X.env=(false,MW e X.env)::D_ es X.env:=by rfl)(bD:(N4 pos (D_ es X.env)).any (·.1)=false:=by rfl):PE X (.Call (.Name x p) (e::es) [] pos) (tCB r t):=by
 intro aa s B H Q I h;refine Nt (pM I hg hm hv ?_ hn aX);exact MA (thn (ha pos aa s B H _ I h) λus s1 ⟨vs,H1,I1,r1,q1⟩=>hc aa s1 B H1 vs us Q I1 r1 q1) he bD
end
end L2
variable{xs zs:List L2.V}{B:L2.St}{y:L2.V}{to:L2.TE}{H' H1 H2 I J I1 I2 I':L2.Hp}{ta:L2.TA}{r r':L2.R2}{sp:L2.Sp}{q:List L2.Key}{kvs:List (List L2.Key×L2.V)}{cC:List (L2.TE×L2.TE)}
namespace HT
open PySem PyProof.Rows
section
variable {prog:E_}{w:Mo}{A:Mn}{E:b_->e_->Prop}{s:e_}
def D7{t b:h_}{ws:List b_}{Q:b_->e_->Prop}(ht:R8 s.heap t vs.toArray)(hb:R8 s.heap b ws.toArray)(hv:vs≠[])(h1:ws=[]->Q (.ref t) s)(h2:ws≠[]->Q (.ref s.heap.objs.size) { s with heap:=s.heap.push { cls:=.type "tuple", data:=.seq (vs++ws).toArray } })(hsz:vs.length+ws.length<=B_):u_ (t_ prog w) A (NG .Add (.ref t) (.ref b)) Q E s:=by
 obtain⟨⟨cls,dd,data,sl⟩,ho,hc,n,hd⟩:=id ht;obtain⟨⟨i9,fK,data2,fL⟩,dh,fM,n2,fN⟩:=id hb;simp only at hc hd fM fN;subst hc hd fM fN;have e:vs.toArray++ws.toArray=(vs++ws).toArray:=by simp
 by_cases hw:ws=[]
 ·exact SA ⟨_,ho,rfl⟩ ⟨_,dh,rfl⟩ QZ R_ RC Rs (Q0 _ _)
   (tuple_addW1 t b vs.toArray ws.toArray n n2 dd fK sl fL (by simpa using hv) (by simp[hw])) ⟨ho,dh,h1 hw⟩
 ·refine SA ⟨_,ho,rfl⟩ ⟨_,dh,rfl⟩ QZ R_ RC Rs (Q0 _ _)
   (tuple_addW2 t b vs.toArray ws.toArray n n2 dd fK sl fL (by simpa using hv) (by simpa using hw) (by rw[v_,v_];exact hsz)) ⟨ho,dh,?_⟩
  rw[e];exact h2 hw
noncomputable def sIx(n d:Nat):Option Int->Nat
 | none=>d
 | some v=>if v < 0 then(v+(n:Int)).toNat else min v.toNat n
def rB(n d:Nat):sIx n d none=d:=rfl
def rR(n d k:Nat):sIx n d (some (k:Int))=min k n:=by
 show(if(k:Int) < 0 then((k:Int)+(n:Int)).toNat else min (k:Int).toNat n)=min k n;rw[if_neg ⋯,MC]
def Dd(n d:Nat)(hd:d<=n)(o:Option Int):sIx n d o<=n:=by
 cases o with
 | none=>exact hd
 | some v =>
  show(if v < 0 then(v+(n:Int)).toNat else min v.toNat n)<=n;by_cases hv:v < 0
  ·rw[if_pos hv];omega
  ·rw[if_neg hv];exact Nat.min_le_right _ _
def xS(v:Int)(n d:Nat):(if v < 0 then max (v+(n:Int)) 0 else min v (n:Int))=((sIx n d (some v):Nat):Int):=by
 show(if v < 0 then max (v+(n:Int)) 0 else min v (n:Int))=(((if v < 0 then(v+(n:Int)).toNat else min v.toNat n):Nat):Int);by_cases hv:v < 0
 ·simp only[if_pos hv];omega
 ·simp only[if_neg hv];omega
def Da(lo hi:Option Int)(n:Nat):Tj lo hi 1 (n:Int)=(((sIx n 0 lo:Nat):Int),((sIx n n hi:Nat):Int)):=by
 have h1:¬((1:Int) < 0):=by omega
 unfold Tj;simp only[h1,if_false];refine Prod.ext ?_ ?_
 ·cases lo with
  | none=>rfl
  | some v=>exact xS v n 0
 ·cases hi with
  | none=>rfl
  | some v=>exact xS v n n
def Gu(i j:Nat):RD (i:Int) (j:Int) 1=j - i:=by
 unfold RD;have h1:(1:Int) > 0:=by omega
 simp only[h1,if_true,Int.ediv_one];split<;>omega
def Bf{v:b_}{o:Option Int}{Q:Option Int->e_->Prop}(p:Sk v o)(h:Q o s):u_ (t_ prog w) A (NE.Slice.slicePartIndex v) Q E s:=by
 cases p with
 | none=>exact slicePart_none h
 | int i t=>exact slicePart_int h
def HV{sl:h_}{lo:Option Int}{Q:Int×Int×Nat->e_->Prop}(hs:s.heap.IsSliceOf sl vl vu .none)(pl:Sk vl lo)(pu:Sk vu hi)(h:Q (((sIx n 0 lo:Nat):Int),1,sIx n n hi - sIx n 0 lo) s):u_ (t_ prog w) A (sliceApplied (.ref sl) (pure (n:Int))) Q E s:=by
 obtain⟨os,eL,ja,fO⟩:=id hs;unfold sliceApplied NE.Slice.sliceFields;refine a_ (a_ (NZ eL fO (x:=vl) rfl (a_ (NZ eL fO (x:=vu) rfl (a_ (NZ eL fO (x:=.none) rfl (d_ ?_)))))));refine a_ (slicePart_none ?_);show u_ _ _ (if((1:Int) == 0)=true then _ else _) _ _ s;rw[if_neg (by decide)];refine a_ (Bf pl (a_ (Bf pu (a_ (d_ ?_)))));show u_ _ _ (match Tj lo hi 1 (n:Int) with | (lo,hi)=>pure (lo,(1:Int),RD lo hi 1)) _ _ s;rw[Da lo hi n];show u_ _ _ (pure (((sIx n 0 lo:Nat):Int),(1:Int),RD ((sIx n 0 lo:Nat):Int) ((sIx n n hi:Nat):Int) 1)) _ _ s;rw[Gu];exact d_ h
def Ge(xs:Array b_)(i k:Nat):((MO k).filterMap λ(m:Nat)=>xs[((i:Int)+(m:Int)*1).toNat]?).toArray=((xs.toList.drop i).take k).toArray:=by
 have e:(λ(m:Nat)=>xs[((i:Int)+(m:Int)*1).toNat]?)=λm=>xs[i+m]?:=by
  funext m
  have:((i:Int)+(m:Int)*1).toNat=i+m:=by omega
  rw[this]
 rw[e];have:=pick_run xs i k;rw[List.filterMap_map] at this;have e2:((λx=>xs[x]?)∘λx=>i+x)=λm=>xs[i+m]?:=rfl
 rw[e2] at this;rw[this]
def Di{t sl:h_}{lo:Option Int}{Q:b_->e_->Prop}(ht:R8 s.heap t ae)(hs:s.heap.IsSliceOf sl vl vu .none)(pl:Sk vl lo)(pu:Sk vu hi)(hw:¬(sIx ae.size 0 lo=0/\sIx ae.size ae.size hi=ae.size))(h:Q (.ref s.heap.objs.size) { s with heap:=s.heap.push { cls:=.type "tuple", data:=.seq ((ae.toList.drop (sIx ae.size 0 lo)).take (sIx ae.size ae.size hi - sIx ae.size 0 lo)).toArray } })(hsz:ae.size<=B_):u_ (t_ prog w) A (Rk (.ref t) (.ref sl)) Q E s:=by
 have bq:sizeOk (.seq ((ae.toList.drop (sIx ae.size 0 lo)).take (sIx ae.size ae.size hi - sIx ae.size 0 lo)).toArray):=by
  show((ae.toList.drop (sIx ae.size 0 lo)).take (sIx ae.size ae.size hi - sIx ae.size 0 lo)).toArray.size<=B_;rw[v_,M8,Nd,MP];omega
 have hj:sIx ae.size ae.size hi<=ae.size:=Dd _ _ (s_ _) hi;obtain⟨os,eL,ja,fO⟩:=id hs;have kI:s.TypeIs (.ref sl) "slice":=⟨os,eL,ja⟩;unfold Rk
 try with_reducible refine MV ?_
 first | refine a_ (d_ ?_) | skip
 refine a_ (wpAny_sequenceKey ht.typeIs (by decide) ?_)
 refine a_ (MU (name:=Qf "__getitem__") ht.typeIs N5
  (MI N5 ht.typeIs entry_tuple_getitem ?_ (args_tuple_getitem _ _)))
 show u_ _ _ (tupleItemsOf (.ref t) >>= _) _ _ s;refine a_ (Sa ht ?_);refine a_ (OC kI ?_);rw[if_pos (by decide)];refine a_ (HV hs pl pu ?_)
 have ck:¬((((sIx ae.size 0 lo:Nat):Int) == 0&&(1:Int) == 1&&(sIx ae.size ae.size hi - sIx ae.size 0 lo) == ae.size)=true):=by
  intro q;rw[k_,k_] at q;have q1:((sIx ae.size 0 lo:Nat):Int)=0:=eq_of_beq q.1.1;have q2:sIx ae.size ae.size hi - sIx ae.size 0 lo=ae.size:=eq_of_beq q.2;exact hw ⟨⋯,⋯⟩
 show u_ _ _ (if(((sIx ae.size 0 lo:Nat):Int) == 0&&(1:Int) == 1&&(sIx ae.size ae.size hi - sIx ae.size 0 lo) == ae.size)=true then _ else _) _ _ s;rw[if_neg ck,Ge]
 first
  | exact a_ (m:=Of _) (K_ (d_ ⟨_,rfl,d_ h⟩) bq)
  | exact a_ (m:=Of _) (K_ (a_ (d_ (d_ ⟨_,rfl,d_ h⟩))) bq)
  | exact a_ (a_ (m:=Of _) (K_ (d_ (d_ ⟨_,rfl,d_ h⟩)) bq))
  | exact a_ (a_ (m:=Of _) (K_ (d_ ⟨_,rfl,d_ h⟩) bq))
end
end HT
namespace L2
open PySem PySem.Spec PyProof.Rows
abbrev TO:=St->Hp->(Option Int->Hp->Prop)->Prop
def PO(X:Cx)(e:Option y_)(t:TO):Prop:=
 ∀(aa:List (h_×Obj)) (s:e_) (B:St) (H:Hp) (Q:Option Int->Hp->Prop),Inv X aa B H s->t B H Q →
  u_ (t_ X.prog X.w) X.A (evalPart e X.env) (λu s'=>∃o H',Inv X aa B H' s'/\Sk u o/\Q o H') X.xe s
noncomputable def tNoPart:TO:=λ_ H Q=>Q none H
noncomputable def tPart(t:TE):TO:=λB H Q=>t B H λx H1=>∃i,x=.int i/\Q (some i) H1
section
variable{X:Cx}{e:y_}{te:TE}{lo hi:Option y_}{tl th:TO}{p2:Pos}
def JA:PO X none tNoPart:=by
 intro aa s B H Q I h;rw[evalPart_none];exact d_ ⟨none,H,I,.none,h⟩
def K1(h:PE X e te):PO X (some e) (tPart te):=by
 intro aa s B H Q I hw;rw[evalPart_some];refine thn (h aa s B H _ I hw) λu s1 ⟨x,H1,I1,r1,q1⟩=>?_
 obtain⟨i,rfl,q⟩:=q1;obtain⟨t,rfl⟩:=r1;exact⟨some i,H1,I1,.int i t,q⟩
def SlR(X:Cx)(r:V->Option Int->Option Int->Hp->VK->Prop):Prop:=
 ∀(aa:List (h_×Obj)) (s:e_) (B:St) (H:Hp) (x:V) (v vl vu:b_) (lo hi:Option Int) (sl:h_) (Q:VK),Inv X aa B H s->RelV x v->s.heap.IsSliceOf sl vl vu .none->Sk vl lo->Sk vu hi->r x lo hi H Q →
  ∃T id,typeLookup (.type T) "__getitem__"=pure (some (.builtin id))/\s.TypeIs v T/\u_ (t_ X.prog X.w) X.A (Rk v (.ref sl)) (EP X aa B Q) X.xe s
def SlR.or{r r':V->Option Int->Option Int->Hp->VK->Prop}(h:SlR X r)(h':SlR X r'):SlR X (λx lo hi H Q=>r x lo hi H Q\/r' x lo hi H Q):=by
 intro aa s B H x v vl vu lo hi sl Q I rx hs pl pu q
 rcases q with q | q
 ·exact h aa s B H x v vl vu lo hi sl Q I rx hs pl pu q
 ·exact h' aa s B H x v vl vu lo hi sl Q I rx hs pl pu q
noncomputable def tSl(r:V->Option Int->Option Int->Hp->VK->Prop)(te:TE)(tl th:TO):TE:=λB H Q=>te B H λx H1=>tl B H1 λl H2=>th B H2 λu H3=>r x l u H3 Q
def G'{r:V->Option Int->Option Int->Hp->VK->Prop}(hr:SlR X r)(he:PE X e te)(hl:PO X lo tl)(hu:PO X hi th):PE X (.Subscript e (.Slice lo hi none p2) pos) (tSl r te tl th):=by
 intro aa s B H Q I h;refine TK (thn (he aa s B H _ I h) λv s1 ⟨x,H1,I1,r1,q1⟩=>?_);refine wpAny_Slice (thn (hl aa s1 B H1 _ I1 q1) λvl s2 ⟨l,H2,I2,pl,q2⟩=>thn (hu aa s2 B H2 _ I2 q2) λvu s3 ⟨u,H3,I3,pu,q3⟩=>?_);rw[evalPart_none];refine d_ ?_;have I4:Inv X aa B H3 { s3 with heap:=s3.heap.push { cls:=.type "slice", data:=.fields #[vl,vu,.none] } }:=I3.kept (t':=s3.toks) λb ob q=>f_ _ q
 obtain⟨T,id,hT,ht,hg⟩:=hr aa { s3 with heap:=s3.heap.push { cls:=.type "slice", data:=.fields #[vl,vu,.none] } } B H3 x v vl vu l u s3.heap.objs.size Q I4 r1 (Mr.IsSliceOf.new ..) pl pu q3;show u_ (t_ X.prog X.w) X.A (Sb e (.Slice lo hi none p2) v (.ref s3.heap.objs.size)) (EP X aa B Q) X.xe { s3 with heap:=s3.heap.push { cls:=.type "slice", data:=.fields #[vl,vu,.none] } };exact tail_any (ops:=[.ref s3.heap.objs.size,v]) ht hT hg (by with_unfolding_all rfl)
def cutV(xs:List V)(lo hi:Option Int):List V:=(xs.drop (HT.sIx xs.length 0 lo)).take (HT.sIx xs.length xs.length hi - HT.sIx xs.length 0 lo)
def Cb(xs:List V)(lo hi:Option Int):(cutV xs lo hi).length<=xs.length:=by
 unfold cutV;rw[M8,Nd];omega
def rSlT(K:FAa):V->Option Int->Option Int->Hp->VK->Prop:=λx lo hi H Q=>∃a xs,x=.ref a/\SqT K H a xs ∧
 ¬(HT.sIx xs.length 0 lo=0/\HT.sIx xs.length xs.length hi=xs.length)/\∀p,H p=none->Q (.ref p) (upd H p (.tup (cutV xs lo hi)))
def JY:SlR X (rSlT X.K):=by
 intro aa s B H x v vl vu lo hi sl Q I rx hs pl pu h;obtain⟨a,xs,rfl,hx,hw,q⟩:=h;cases rx;obtain⟨ab,r,ht,hz⟩:=I.tuple hx;have au:ab.toArray.size=xs.length:=by rw[v_];exact r.length.symm
 refine⟨"tuple", _,N5.lookup,ht.typeIs,?_⟩;refine HT.Di ht hs pl pu (by rw[au];exact hw) ?_ (by rw[au];exact hz);rw[au];refine⟨.ref s.heap.objs.size,_,I.laid (t':=s.toks) (o:=.tup (cutV xs lo hi)) (λb ob q=>f_ _ q) (s_ _) ?_,rfl,q _ (I.hok.fresh (s_ _))⟩;exact⟨A_ (Cb xs lo hi) hz,_,(r.drop (HT.sIx xs.length 0 lo)).take (HT.sIx xs.length xs.length hi - HT.sIx xs.length 0 lo),R8.new _ _⟩
def rCatT(K:FAa):R2:=λx y H Q=>∃a b xs ys,x=.ref a/\y=.ref b/\SqT K H a xs/\SqT K H b ys/\xs≠[]/\xs.length+ys.length<=B_ ∧
 (ys=[]->Q (.ref a) H)/\(ys≠[]->∀p,H p=none->Q (.ref p) (upd H p (.tup (xs++ys))))
def Vals.nil_iff{us:List b_}(r:Vals xs us):us=[]↔xs=[]:=by
 cases r with
 | nil=>simp
 | cons _ _=>simp
def FR:OpR X (NG .Add) (rCatT X.K):=by
 tm_at"g";obtain⟨a,b,xs,ys,rfl,rfl,ha,hb,hx,hz,q1,q2⟩:=h;cases rx;cases ry;obtain⟨ab,r1,p1,_⟩:=I.tuple ha;obtain⟨bn,r2,p2,_⟩:=I.tuple hb;refine HT.D7 p1 p2 (λz=>hx (r1.nil_iff.mp z)) (λz=>⟨.ref a,H,I,rfl,q1 (r2.nil_iff.mp z)⟩) (λz=>?_) (by rw[←r1.length,←r2.length];exact hz);refine⟨.ref s.heap.objs.size,_,I.laid (t':=s.toks) (o:=.tup (xs++ys)) (λb ob q=>f_ _ q) (s_ _) ?_,rfl,q2 (λw=>z (r2.nil_iff.mpr w)) _ (I.hok.fresh (s_ _))⟩;exact⟨by rw[g_];exact hz,_,r1.append r2,R8.new _ _⟩
end
noncomputable def ixN(n:Nat)(i:Int):Option Nat:=if 0<=i then(if i < n then some i.toNat else none) else if -(n:Int)<=i then some (i+n).toNat else none
def atI{α:Type}(xs:List α)(i:Int):Option α:=(ixN xs.length i).bind λj=>xs[j]?
def AE{i:Int}(h:ixN n i=some j):S7 i n=some j/\j < n/\-(n:Int)<=i/\i < n:=by
 unfold ixN at h;by_cases h0:0<=i
 ·rw[if_pos h0] at h;by_cases h1:i < n
  ·rw[if_pos h1] at h;have e:i.toNat=j:=Mt h;exact⟨by rw[Tk h0 h1,e],⋯,⋯,h1⟩
  ·rw[if_neg h1] at h;cases h
 ·rw[if_neg h0] at h;by_cases h1:-(n:Int)<=i
  ·rw[if_pos h1] at h;have e:(i+n).toNat=j:=Mt h;exact⟨by rw[seqIndex_neg ⋯ h1,e],⋯,h1,⋯⟩
  ·rw[if_neg h1] at h;cases h
def z7{α:Type}{xs:List α}{i:Int}{v:α}(h:atI xs i=some v):∃j,S7 i xs.length=some j/\xs[j]?=some v/\j < xs.length/\-(xs.length:Int)<=i/\i < xs.length:=by
 unfold atI at h;cases e:ixN xs.length i with
 | none=>rw[e] at h;cases h
 | some j =>
  rw[e] at h;obtain⟨h1,h2,h3,h4⟩:=AE e;exact⟨j,h1,h,h2,h3,h4⟩
def PlainIx(b:y_):Prop:=∀o i,RE b false o i=operate [o,i] (Rk o i)
def IxR(X:Cx)(r:R2):Prop:=
 ∀(value aK:y_) (aa:List (h_×Obj)) (s:e_) (B:St) (H:Hp) (x y:V) (v u:b_) (Q:VK),Inv X aa B H s->RelV x v->RelV y u->r x y H Q →
  RE aK false v u=operate [v,u] (Rk v u)->u_ (t_ X.prog X.w) X.A (Sb value aK v u) (EP X aa B Q) X.xe s
def MtR(X:Cx)(id:String)(r:V->List V->Hp->VK->Prop):Prop:=
 ∀(aa:List (h_×Obj)) (s:e_) (B:St) (H:Hp) (x:V) (xs:List V) (v:b_) (us:List b_) (Q:VK),Inv X aa B H s->RelV x v->Vals xs us->r x xs H Q →
  u_ (t_ X.prog X.w) X.A (call (.builtin id) (v::us)) (EP X aa B Q) X.xe s
section
variable{X:Cx}{a b:y_}{ta tb:TE}
def IxR.or(h:IxR X r)(h':IxR X r'):IxR X (λx y H Q=>r x y H Q\/r' x y H Q):=by
 intro value aK aa s B H x y v u Q I rx ry q hs
 rcases q with q | q
 ·exact h value aK aa s B H x y v u Q I rx ry q hs
 ·exact h' value aK aa s B H x y v u Q I rx ry q hs
def IM(hr:IxR X r)(ha:PE X a ta)(hb:PE X b tb)(hs:PlainIx b):PE X (.Subscript a b pos) (tOp r ta tb):=by
 intro aa s B H Q I h;exact TK (binT ha hb I h λv u s2 x y H2 I2 rx ry q=>hr a b aa s2 B H2 x y v u Q I2 rx ry q (hs _ _))
def rIxL(K:FAa):R2:=λx y H Q=>∃p xs i v,x=.ref p/\y=.int i/\SqL K H p xs/\atI xs i=some v/\Q v H
def rIxT(K:FAa):R2:=λx y H Q=>∃p xs i v,x=.ref p/\y=.int i/\SqT K H p xs/\atI xs i=some v/\Q v H
def LU:IxR X (rIxL X.K):=by
 intro value aK aa s B H x y v u Q I rx ry h hs;obtain⟨p,xs,i,z,rfl,rfl,hq,he,q⟩:=h;cases rx;obtain⟨t,rfl⟩:=ry;obtain⟨ab,r,pl,hz⟩:=I.list hq;obtain⟨j,h1,h2,h3,h4,h5⟩:=z7 he;obtain⟨w,ew,bz⟩:=r.get h2;have hl:=r.length;have hn:=line63;have fin:EP X aa B Q w s:=⟨z,H,I,bz,q⟩;by_cases h0:0<=i
 ·have hj:i.toNat=j:=by
   rw[Tk h0 h5] at h1;exact Mt h1
  exact item_listR pl.isList h0 ⋯ (by rw[hj];simpa using ew) fin hs
 ·have hj:(i+(ab.toArray.size:Int)).toNat=j:=by
   rw[seqIndex_neg ⋯ h4] at h1;rw[v_,←hl];exact Mt h1
  exact Rl (x:=w) pl.isList.typeIs SB.lookup
   (wpAny_getItem_list_neg (Q:=λr s'=>r=w/\EP X aa B Q r s') pl.isList ⋯ (by rw[v_]<;>omega) ⋯ (by rw[hj];simpa using ew) ⟨rfl,fin⟩) hs
def CF:IxR X (rIxT X.K):=by
 intro value aK aa s B H x y v u Q I rx ry h hs;obtain⟨p,xs,i,z,rfl,rfl,hq,he,q⟩:=h;cases rx;obtain⟨t,rfl⟩:=ry;obtain⟨ab,r,pl,hz⟩:=I.tuple hq;obtain⟨j,h1,h2,h3,h4,h5⟩:=z7 he;obtain⟨w,ew,bz⟩:=r.get h2;have hl:=r.length;have hn:=line63;have fin:EP X aa B Q w s:=⟨z,H,I,bz,q⟩
 exact Rl (x:=w) pl.typeIs slot_tuple_getitem.lookup
  (getItem_tuple (j:=j) (Q:=λr s'=>r=w/\EP X aa B Q r s') pl ⋯ ⋯ (by rw[v_,←hl];exact h1) (by simpa using ew) ⟨rfl,fin⟩) hs
def Lq(ab:List b_)(n j:Nat)(u:b_):OK (·.setIfInBounds j u) { cls:=.type "list", data:=.seq ab.toArray n }={ cls:=.type "list", data:=.seq (ab.set j u).toArray n }:=by
 simp[OK]
theorem Inv.lst{H:Hp}{s:e_}{p:h_}(I:Inv X aa B H s)(h:H p=some (.lst xs)):
  ∃(ab:List b_) (n:Nat),Vals xs ab/\s.heap.get? p=some { cls:=.type "list", data:=.seq ab.toArray n }/\xs.length<=B_:=by
 obtain⟨z,ab,n,r,e⟩:=I.hok p _ h;exact⟨ab,n,r,e,z⟩
def Inv.lstUpd{H:Hp}{s:e_}{p:h_}{ys:List V}{n':Nat}{f:Obj->Obj}(I:Inv X aa B H s)(h:H p=some (.lst xs))(ho:s.heap.get? p=some { cls:=.type "list", data:=.seq ab.toArray n })(hf:f { cls:=.type "list", data:=.seq ab.toArray n }={ cls:=.type "list", data:=.seq its'.toArray n' })(r:Vals ys its')(hz:ys.length<=B_)(t:Nat):
  Inv X aa B (upd H p (.lst ys)) { s with heap:=s.heap.update p f,toks:=t }:=by
 have e:(s.heap.update p f).get? p=some { cls:=.type "list", data:=.seq its'.toArray n' }:=by
  rw[ML f ho (by rw[hf]<;>rfl),hf]
 refine I.write (x:=p) (e:=p) (by rw[h];trivial) (.inl rfl) (λb u hb q=>(Mz _ _ (MQ hb)).trans q) ⟨_,e⟩ ?_;exact⟨hz,its',n',r,e⟩
def rSetL:V->V->V->Hp->(Hp->Prop)->Prop:=λo i v H Q=>∃p xs k j,o=.ref p/\i=.int k/\H p=some (.lst xs)/\ixN xs.length k=some j/\Q (upd H p (.lst (xs.set j v)))
def KR:PSet X rSetL:=by
 intro aa s B H o i v ov iv u Q I ro ri rv h;obtain⟨p,xs,k,j,rfl,rfl,hp,hj,q⟩:=h;cases ro;obtain⟨t,rfl⟩:=ri;obtain⟨ab,n,r,ho,hz⟩:=I.lst hp;obtain⟨h1,h2,h3,h4⟩:=AE hj;have hl:=r.length;have hn:=line63
 have I':Inv X aa B (upd H p (.lst (xs.set j v))) { s with heap:=s.heap.update p (OK (·.setIfInBounds j u)) }:=
  I.lstUpd hp ho (Lq ab n j u) (r.set rv j) (by rw[OT];exact hz) s.toks
 by_cases h0:0<=k
 ·have hk:k.toNat=j:=by
   rw[Tk h0 h4] at h1;exact Mt h1
  exact PySem.W.ki_setAt ho h0 ⋯ (by rw[v_,←hl];exact h4) (by rw[hk];exact⟨_,I',q⟩)
 ·have hk:(k+(ab.toArray.size:Int)).toNat=j:=by
   rw[seqIndex_neg ⋯ h3] at h1;rw[v_,←hl];exact Mt h1
  exact PySem.W.ki_setBack ho ⋯ (by rw[v_,←hl];exact h3) ⋯ (by rw[hk];exact⟨_,I',q⟩)
def LC(lo hi:Option Int)(n:Nat):(O3 lo hi none n).1=((HT.sIx n 0 lo:Nat):Int)/\(O3 lo hi none n).2.1=((HT.sIx n n hi:Nat):Int)/\(O3 lo hi none n).2.2=1:=by
 refine⟨?_,?_,rfl⟩
 ·cases lo with
  | none=>simp[O3,HT.sIx]
  | some i =>
   simp only[O3,HT.sIx,getD_none,show(1:Int) > 0 by decide,if_true];by_cases h:i < 0
   ·simp only[h,if_true]<;>omega
   ·simp only[h,if_false]<;>omega
 ·cases hi with
  | none=>simp[O3,HT.sIx]
  | some i =>
   simp only[O3,HT.sIx,getD_none,show(1:Int) > 0 by decide,if_true];by_cases h:i < 0
   ·simp only[h,if_true]<;>omega
   ·simp only[h,if_false]<;>omega
def DG(ab:List b_)(lo hi:Option Int):slicePick ab.toArray lo hi none=((ab.drop (HT.sIx ab.length 0 lo)).take (HT.sIx ab.length ab.length hi - HT.sIx ab.length 0 lo)).toArray:=by
 obtain⟨h1,h2,h3⟩:=LC lo hi ab.toArray.size;unfold slicePick;rw[h1,h2,h3];simp only[sliceRange_one,pick_run,v_]<;>rfl
def rSlL(K:FAa):V->Option Int->Option Int->Hp->VK->Prop:=λx lo hi H Q=>∃a xs,x=.ref a/\SqL K H a xs/\∀p,H p=none->Q (.ref p) (upd H p (.lst (cutV xs lo hi)))
def Iw:SlR X (rSlL X.K):=by
 intro aa s B H x v vl vu lo hi sl Q I rx hs pl pu h;obtain⟨a,xs,rfl,hx,q⟩:=h;cases rx;obtain⟨ab,r,ht,hz⟩:=I.list hx;have au:=r.length;refine⟨"list", _,SB.lookup,ht.isList.typeIs,?_⟩;refine wpAny_getItem_list_slice ht.isList hs pl pu .none (by simp) ?_ (by rw[v_]<;>omega);rw[DG,←au];refine⟨.ref s.heap.objs.size,_,I.laid (t':=s.toks) (o:=.lst (cutV xs lo hi)) (λb ob q=>f_ _ q) (s_ _) ?_,rfl,q _ (I.hok.fresh (s_ _))⟩;exact⟨A_ (Cb xs lo hi) hz,_,0,(r.drop (HT.sIx xs.length 0 lo)).take (HT.sIx xs.length xs.length hi - HT.sIx xs.length 0 lo),r_ _ rfl⟩
def Cg:CallR X (.builtin "len") (λxs H Q=>∃p ys,xs=[.ref p]/\(SqL X.K H p ys\/SqT X.K H p ys)/\Q (.int ys.length) H):=by
 intro aa s B H xs us Q I r h;obtain⟨p,ys,rfl,hq,q⟩:=h;obtain⟨u,rfl,rx⟩:=vals1 r;cases rx;have hn:=line63
 rcases hq with hq | hq
 ·obtain⟨ab,r',pl,hz⟩:=I.list hq;have au:=r'.length;exact Calls.call_len_list pl.isList (by simp only[v_]<;>omega) ⟨.int ys.length,H,I.tok _,⟨s.toks+1,by rw[v_,au]⟩,q⟩
 ·obtain⟨ab,r',pl,hz⟩:=I.tuple hq;have au:=r'.length;exact len_tuple pl (by simp only[v_]<;>omega) ⟨.int ys.length,H,I.tok _,⟨s.toks+1,by rw[v_,au]⟩,q⟩
def CallR.or{f:b_}{r r':List V->Hp->VK->Prop}(h:CallR X f r)(h':CallR X f r'):CallR X f (λxs H Q=>r xs H Q\/r' xs H Q):=by
 intro aa s B H xs us Q I rs q
 rcases q with q | q
 ·exact h aa s B H xs us Q I rs q
 ·exact h' aa s B H xs us Q I rs q
def LN:CallR X (.type "list") (λxs H Q=>∃p ys,xs=[.ref p]/\(SqL X.K H p ys\/SqT X.K H p ys)/\∀l,H l=none->Q (.ref l) (upd H l (.lst ys))):=by
 intro aa s B H xs us Q I r h;obtain⟨p,ys,rfl,hq,q⟩:=h;obtain⟨u,rfl,rx⟩:=vals1 r;cases rx
 have fin:∀(ab:List b_),Vals ys ab->ys.length<=B_->∀(h':Mr) (c':Nat),(∀b o',s.heap.get? b=some o'->h'.get? b=some o') →
   h'.get? s.heap.objs.size=some { cls:=.type "list", dict:=none,data:=.seq ab.toArray c',slots:=#[] }->EP X aa B Q (.ref s.heap.objs.size) { s with heap:=h' }:=λab r' hz h' c' kp e =>
  ⟨.ref s.heap.objs.size,_,I.laid (t':=s.toks) kp (s_ _) (show ObjOk X.prog X.w _ h' _ (.lst ys) from⟨hz,ab,c',r',e⟩),rfl,q _ (I.hok.fresh (s_ _))⟩
 rcases hq with hq | hq
 ·obtain⟨ab,r',pl,hz⟩:=I.list hq;have au:=r'.length;obtain⟨o,ho,hc,n,hd⟩:=pl.isList;exact call_list_seq p (.inl rfl) ho hc hd (λh' c' kp e=>fin ab r' hz h' c' kp e) (by simp only[v_]<;>omega)
 ·obtain⟨ab,r',pl,hz⟩:=I.tuple hq;have au:=r'.length;obtain⟨o,ho,hc,n,hd⟩:=pl;exact call_list_seq p (.inr rfl) ho hc hd (λh' c' kp e=>fin ab r' hz h' c' kp e) (by simp only[v_]<;>omega)
def GI:CallR X (.type "tuple") (λxs H Q=>∃p ys,xs=[.ref p]/\((SqL X.K H p ys/\∀l,H l=none->Q (.ref l) (upd H l (.tup ys)))\/(SqT X.K H p ys/\Q (.ref p) H))):=by
 intro aa s B H xs us Q I r h;obtain⟨p,ys,rfl,h⟩:=h;obtain⟨u,rfl,rx⟩:=vals1 r;cases rx
 rcases h with⟨hq,q⟩ | ⟨hq,q⟩
 ·obtain⟨ab,r',pl,hz⟩:=I.list hq;have au:=r'.length;refine call_tuple_list pl.isList (λh' kp=>?_) (by simp only[v_]<;>omega);have I1:Inv X aa B H { s with heap:=h' }:=I.kept (t':=s.toks) kp
  have I2:Inv X aa B (upd H h'.objs.size (.tup ys)) { s with heap:=h'.push { cls:=.type "tuple", data:=.seq ab.toArray } }:=
   I1.laid (t':=s.toks) (λb o e=>f_ _ e) (s_ _) (show ObjOk X.prog X.w _ _ _ (.tup ys) from⟨hz,ab,r',R8.new _ _⟩)
  exact⟨.ref h'.objs.size,_,I2,rfl,q _ (I1.hok.fresh (s_ _))⟩
 ·obtain⟨ab,r',pl,hz⟩:=I.tuple hq;exact call_tuple_same pl ⟨.ref p,H,I,rfl,q⟩
def tyV(K:FAa)(T:String)(x:V)(H:Hp):Prop:=match x with
 | .str _=>T = "str"
 | .int _=>T = "int"
 | .ref p=>(T = "list"/\∃xs,SqL K H p xs)\/(T = "tuple"/\∃o,K.lookup p=some o/\o.cls=.type "tuple"/\o.dict=none) ∨
   (T = "dict"/\((∃kvs,H p=some (.dK kvs))\/∃kvs,H p=some (.dT kvs)))\/(T = "set"/\∃S n,H p=some (.set S n))
 | _=>False
def sU{H:Hp}{s:e_}{T:String}{x:V}{v:b_}(I:Inv X aa B H s)(r:RelV x v)(ty:tyV X.K T x H):
  s.TypeIs v T/\∀a,v=.ref a->∃ob,s.heap.get? a=some ob/\ob.dict=none:=by
 cases x with
 | str z =>
  obtain⟨t,rfl⟩:=r
  cases(show T = "str" from ty)
  exact⟨typeIs_str s z t,λ_ e=>nomatch e⟩
 | int i =>
  obtain⟨t,rfl⟩:=r
  cases(show T = "int" from ty)
  exact⟨Rm s i t,λ_ e=>nomatch e⟩
 | ref p =>
  cases r
  rcases ty with⟨rfl,xs,hq⟩ | ⟨rfl,o,hk,hc,hd⟩ | ⟨rfl,hk⟩ | ⟨rfl,S,n,hk⟩
  ·obtain⟨ab,_,pl,_⟩:=I.list hq;refine⟨pl.isList.typeIs,λa e=>?_⟩;cases e;obtain⟨o,n,e,c,hd,_⟩:=pl;exact⟨o,e,hd⟩
  ·refine⟨⟨o,I.kIn p o hk,hc⟩,λa e=>?_⟩;cases e;exact⟨o,I.kIn _ o hk,hd⟩
  ·have z:∃o,s.heap.get? p=some o/\o.ExactDict:=by
    rcases hk with⟨kvs,hk⟩ | ⟨kvs,hk⟩
    ·obtain⟨_,_,_,_,o,_,_,e,ex,_⟩:=I.hok p _ hk;exact⟨o,e,ex⟩
    ·obtain⟨_,_,_,_,o,_,_,e,ex,_⟩:=I.hok p _ hk;exact⟨o,e,ex⟩
   obtain⟨o,e,ex⟩:=z;refine⟨⟨o,e,ex.1⟩,λa e2=>?_⟩;cases e2;exact⟨o,e,ex.2.1⟩
  ·obtain⟨o,_,_,_,e,ex,_⟩:=I.hok p _ hk;refine⟨⟨o,e,ex.1⟩,λa e2=>?_⟩;cases e2;exact⟨o,e,ex.2.1⟩
 | _=>exact Ts ty
noncomputable def tBM0(K:FAa)(T:String)(r:V->List V->Hp->VK->Prop)(to:TE):TE:=λB H Q=>to B H λx H1=>tyV K T x H1/\r x [] H1 Q
noncomputable def tBM(K:FAa)(T:String)(r:V->List V->Hp->VK->Prop)(to:TE)(t:TA):TE:=λB H Q=>to B H λx H1=>tyV K T x H1/\t B H1 λxs H2=>r x xs H2 Q
variable{o e:y_}{es:List y_}{t:TA}{name:Str}{T id:String}{r:V->List V->Hp->VK->Prop}
def Hf(pa:TL T)(slot:Slot T name id)(gR:S8 (.builtin id)=pure (.type "method_descriptor"))(hm:MtR X id r)(ho:PE X o to)(aT:Nh o name X.env (MW o X.env)=MW o X.env:=by rfl)(aU:(aj.endLine == ax.line)=true:=by rfl):PE X (.Call (.Attribute o name aj) [] [] ax) (tBM0 X.K T r to):=by
 intro aa s B H Q I h;refine O4 aT aU (thn (ho aa s B H _ I h) λv s1 ⟨x,H1,I1,r1,ty,q1⟩=>?_);obtain⟨h1,h2⟩:=sU I1 r1 ty;exact⟨T,id,pa,slot,gR,h1,h2,Og rfl (PySem.evalArgs_none (hm aa s1 B H1 x [] v [] Q I1 r1 .nil q1))⟩
def Lp(pa:TL T)(slot:Slot T name id)(gR:S8 (.builtin id)=pure (.type "method_descriptor"))(hm:MtR X id r)(ho:PE X o to)(ha:PA X (e::es) t)(aT:Nh o name X.env (MW o X.env)=MW o X.env:=by rfl)(jb:((N4 ax (D_ (e::es) X.env)).all (λx=>!x.1)&&(QY ax (O2 [] X.env)).all (λx=>x.1.isSome)
   &&decide ((e::es).length+([]:List SC).length+(if([]:List SC).isEmpty then 0 else 1) < 30))=true:=by rfl)(aU:(aj.endLine == ax.line)=true:=by rfl)(hs:D_ (e::es) X.env=(false,MW e X.env)::D_ es X.env:=by rfl)(fP:(N4 ax (D_ es X.env)).any (·.1)=false:=by rfl):
  PE X (.Call (.Attribute o name aj) (e::es) [] ax) (tBM X.K T r to t):=by
 intro aa s B H Q I h;refine wpAny_Call_method_late aT jb aU rfl (thn (ho aa s B H _ I h) λv s1 ⟨x,H1,I1,r1,ty,q1⟩=>?_);obtain⟨h1,h2⟩:=sU I1 r1 ty;refine⟨T,id,pa,slot,gR,h1,h2,?_⟩;have hA:=ha ax aa s1 B H1 _ I1 q1;rw[hs] at hA ⊢;refine Og (by show(false||(N4 ax (D_ es X.env)).any (·.1))=false;rw[fP]<;>rfl) (Calls.evalArgs_plain ?_);exact thn hA λus s2 ⟨vs,H2,I2,r2,q2⟩=>hm aa s2 B H2 x vs v us Q I2 r1 r2 q2
end
def MtM(X:Cx)(id:String)(r:V->List V->Hp->VK->Prop):Prop:=
 ∀(aa:List (h_×Obj)) (s:e_) (B:St) (H:Hp) (x:V) (xs:List V) (v:b_) (us:List b_) (Q:VK),Inv X aa B H s->RelV x v->Vals xs us->r x xs H Q →
  u_ (t_ X.prog X.w) X.A (call (.builtin id) (v::us)) (EP X aa B Q) X.xe s
theorem Vals.one:∀{x:V}{us:List b_},Vals [x] us->∃u,us=[u]/\RelV x u
 | _,_,.cons r .nil=>⟨_,rfl,r⟩
theorem Vals.two:∀{x y:V}{us:List b_},Vals [x,y] us->∃u v,us=[u,v]/\RelV x u/\RelV y v
 | _,_,_,.cons r (.cons q .nil)=>⟨_,_,rfl,r,q⟩
theorem Vals.eraseIdx:∀{xs:List V}{us:List b_} (i:Nat),Vals xs us->Vals (xs.eraseIdx i) (us.eraseIdx i)
 | _,_,_,.nil=>.nil
 | _,_,0,.cons _ t=>t
 | _,_,i+1,.cons r t=>.cons r (Vals.eraseIdx i t)
theorem vn{α:Type}:∀(l:List α) (i:Nat),(l.eraseIdx i).length<=l.length
 | [],_=>s_ _
 | _::_,0=>P5 _
 | _::r,i+1=>Q1 (vn r i)
section
variable{X:Cx}{H:Hp}{s:e_}{l:h_}{ys:List V}
def Inv.lset{f:Array b_->Array b_}(I:Inv X aa B H s)(hH:H l=some (.lst xs))(e:s.heap.get? l=some { cls:=.type "list", data:=.seq ab.toArray n })(hf:f ab.toArray=its'.toArray)(hv:Vals ys its')(hz:ys.length<=B_):
  Inv X aa B (upd H l (.lst ys)) { s with heap:=s.heap.update l (OK f),toks:=t' }:=by
 have q:=PySem.IsL.update e f;rw[hf] at q;refine I.write (x:=l) (e:=l) (by rw[hH];exact trivial) (.inl rfl) (λb' u hb hu=>(Mz s.heap (OK f) (MQ hb)).trans hu) ⟨_,q⟩ ?_;exact⟨hz,its',_,hv,q⟩
def Inv.lnew(I:Inv X aa B H s)(hv:Vals ys ab)(hz:ys.length<=B_):
  Inv X aa B (upd H s.heap.objs.size (.lst ys)) { s with heap:=s.heap.push { cls:=.type "list", data:=.seq ab.toArray },toks:=t' }:=
 I.laid (λ_ _ q=>f_ _ q) (s_ _) ⟨hz,ab,0,hv,r_ _ rfl⟩
theorem Inv.fresh(I:Inv X aa B H s):H s.heap.objs.size=none:=I.hok.fresh (s_ _)
def Inv.lstM(I:Inv X aa B H s)(hH:H l=some (.lst xs)):xs.length<=B_/\∃(ab:List b_) (n:Nat),Vals xs ab/\xs.length=ab.length/\s.heap.get? l=some { cls:=.type "list", data:=.seq ab.toArray n }:=by
 obtain⟨z,ab,n,r,e⟩:=I.hok l _ hH;exact⟨z,ab,n,r,r.length,e⟩
def notLongL(h:n<=B_):Tl n=false:=by
 unfold Tl;exact decide_eq_false ⋯
end
section
variable {X:Cx}
def rAppend:V->List V->Hp->VK->Prop:=λx vs H Q=>∃l xs y,x=.ref l/\vs=[y]/\H l=some (.lst xs)/\xs.length < B_/\Q .non (upd H l (.lst (xs++[y])))
theorem AO:MtM X "list.append" rAppend:=by
 intro aa s B H x vs v us Q I rx rv h;obtain⟨l,xs,y,rfl,rfl,hH,hz,q⟩:=h;cases rx;obtain⟨u,rfl,ru⟩:=rv.one;obtain⟨z,ab,n,r,hl,e⟩:=I.lstM hH;refine Qg F.slot_list_append ⟨_,e,rfl⟩ F.entry_list_append (F.args_list_append_2 _ _) (PySem.list_append l ab.toArray n u (by rw[v_];omega)) ⟨e,?_⟩;refine⟨.non,_,I.lset (its':=ab++[u]) hH e (by simp) (r.append (.cons ru .nil)) ?_,rfl,q⟩;rw[g_,Ms];omega
def rExtend:V->List V->Hp->VK->Prop:=λx vs H Q=>∃l b xs zs,x=.ref l/\vs=[.ref b]/\H l=some (.lst xs)/\H b=some (.lst zs)/\xs.length+zs.length<=B_/\Q .non (upd H l (.lst (xs++zs)))
theorem Fz:MtM X "list.extend" rExtend:=by
 intro aa s B H x vs v us Q I rx rv h;obtain⟨l,b,xs,zs,rfl,rfl,hH,hB,hz,q⟩:=h;cases rx;obtain⟨u,rfl,ru⟩:=rv.one;cases ru;obtain⟨z,ab,n,r,hl,e⟩:=I.lstM hH;obtain⟨z2,bn,n2,r2,d8,e2⟩:=I.lstM hB;have hsz:ab.toArray.size+bn.toArray.size<=B_:=by rw[v_,v_];omega
 have gS:¬(!ab.toArray.isEmpty&&Tl (ab.toArray.size+bn.toArray.size))=true:=by
  rw[notLongL hsz,Bool.and_false];exact q_
 refine Qg F.slot_list_extend ⟨_,e,rfl⟩ F.entry_list_extend (F.args_list_extend_2 _ _)
  (AutoSeq1.list_extend_list_list_0 l ab.toArray n b bn.toArray n2 gS (by rw[v_];omega) ⋯) ⟨e,e2,?_⟩
 refine⟨.non,_,I.lset (its':=ab++bn) hH e (by simp) (r.append r2) ?_,rfl,q⟩;rw[g_];omega
def rPopAt:V->List V->Hp->VK->Prop:=λx vs H Q=>∃l xs i k y,x=.ref l/\vs=[.int i]/\H l=some (.lst xs)/\-(2 ^ 63)<=i/\i < 2 ^ 63/\S7 i xs.length=some k/\xs[k]?=some y/\Q y (upd H l (.lst (xs.eraseIdx k)))
theorem ED:MtM X "list.pop" rPopAt:=by
 intro aa s B H x vs v us Q I rx rv h;obtain⟨l,xs,i,k,y,rfl,rfl,hH,h1,h2,hk,hy,q⟩:=h;cases rx;obtain⟨u,rfl,ru⟩:=rv.one;obtain⟨t,rfl⟩:=ru;obtain⟨z,ab,n,r,hl,e⟩:=I.lstM hH;obtain⟨w,hw,bz⟩:=r.get hy
 refine Qg F.slot_list_pop ⟨_,e,rfl⟩ F.entry_list_pop (F.args_list_pop_2 _ _)
  (MeetsSeq.list_pop_at l ab.toArray n i t k w (fitsIndex_both h1 h2) (by rw[v_,←hl];exact hk) (by rw[←PU];exact hw) (by rw[v_];omega)) ⟨e,?_⟩
 refine⟨y,_,I.lset (its':=ab.eraseIdx k) hH e ?_ (r.eraseIdx k) ?_,bz,q⟩
 ·show ab.toArray.eraseIdxIfInBounds k=(ab.eraseIdx k).toArray;rw[Pg]
 ·have:=vn xs k;omega
end
end L2
namespace Att
open PySem PySem.W PySem.Calls PyProof.Rows
def Et{P:Params}{h:Mr}:∀(ns:List Int) (vs:List b_),WellAll P h vs (ns.map WData.int)->Tt vs ns:=by
 intro ns
 induction ns with
 | nil =>
  intro vs w;rw[RT] at w;cases w;exact .nil
 | cons n ns ih =>
  intro vs w;rw[I_] at w;cases w with
  | cons a b =>
   cases a;exact .cons _ _ (ih _ b)
def Dt{l:T7}(hn:l.most=some n){P:Params}{h:Mr}{args:List WData}(dQ:l.row.toRowW.claim.pre args=true)(gT:WellAll P h eN args):
  ∃a vs ns,eN=[b_.ref a]/\args=[WData.list (ns.map WData.int)]/\h.get? a=some { cls:=.type "list", data:=.seq vs.toArray }/\Tt vs ns/\ns.length<=n:=by
 have kJ:T9.hasAll [] args [.list .int]=true:=(pre_splitW dQ).1;have hc:l.pre.holds [] { args:=args }=true:=(pre_splitW dQ).2;obtain⟨d,r,rfl,h1,h2⟩:=hasAllW_cons kJ;obtain rfl:=hasAllW_nil h2;obtain⟨xs,rfl,h3⟩:=hasW_list h1;obtain⟨ns,rfl⟩:=items_int h3
 have au:ns.length<=n:=by
  unfold T7.pre at hc
  have h4:(WTm.not (.lt (.lit (.int (n:Int))) (.len (.arg 0)))).holds [] { args:=[.list (ns.map .int)] }=true:=by
   have h4:=(holds_andW hc).1;rw[hn] at h4;exact h4
  have h5:=condW_of h4 (w_not (w_lt w_lit (w_len_list (w_arg rfl))));rw[c_] at h5;refine Q2 λq=>?_
  have q':(n:Int) < ((ns.length:Nat):Int):=by omega
  first
   | (rw[decide_eq_true q'] at h5;exact absurd h5 (by decide))
   | (simp at h5;omega)
 cases gT with
 | cons w1 w2 =>
  cases w2;cases w1 with
  | list ho cP=>exact⟨_,_,ns,rfl,rfl,ho,Et ns _ cP,au⟩
def IJ(l:T7)(args:List WData):l.row.toRowW.claim.post args (.bool true) args=true:=
 postW_of (r:=l.row.toRowW) (X:=(true == true))
  (show T9.has [] (.bool true) .bool=true by first | rfl | decide | simp[T9.has,T9.arms,T9.armsAll])
  (show(WTm.eq .res (.lit (.bool true))).value [] { args:=args,res:=some (.bool true),after:=args }=some (.bool (true == true)) from w_eq_bool (w_res rfl) w_lit) rfl
def GQ{l:T7}{q:E_}{XP:(Str->Option b_)->Mr->Prop}{YP:Mo->Mr->Prop}{d:DefRec}(hn:l.most=some n)(eO:d.params.defaults=[])(call:∀(w:Mo) (s₀ am:e_) (mg mb:Str->Option b_) (fa:h_) (o:Obj) (pm cd aJ:b_) (a:h_) (vs:List b_) (ns:List Int),
   Ground q bE [] XP w s₀ mg mb am.heap->YP w am.heap →
   am.heap.get? fa=some o->o.data=.func (docDef d.name d.params d.body d.scope pm cd aJ)->am.heap.CodeRec cd d.name->mg d.name=some (.ref fa) →
   am.heap.get? a=some { cls:=.type "list", data:=.seq vs.toArray }->Tt vs ns->ns.length<=n->am.gens=#[] →
   OB (t_ l.prog w) RU (.call (.ref fa) ⟨[.ref a],[]⟩) (λr s'=>r=.ok (.ret (.bool true))/\OldK am.heap s'.heap/\s'.os=am.os/\Qy s'.gens) am):
  WalkO q bE XP YP l.row.toRowW d [] (λf vs=>PySem.call f vs):=by
 intro w s₀ am mg mb G Y fa o pm cd aJ dV kV ho hd cg hD gU hg args eN as dQ nA jc gT jd;obtain rfl:dV=.none:=Dflts.none hD eO;obtain rfl:kV=.none:=Dflts.noKw hD;obtain⟨a,vs,ns,rfl,rfl,eP,dj,au⟩:=Dt hn dQ gT;refine enter_call (Oe (call w s₀ am mg mb fa o pm cd aJ a vs ns G Y ho (fd_plain hd) cg gU eP dj au hg) λr s' hq=>?_);obtain⟨rfl,h2,h3,h4⟩:=hq;exact⟨.inl ⟨.bool true,.bool true,[],rfl,λ_=>rfl,.bool true,IJ l _,λ_=>⟨Sc.nil,λ_ hm=>(nomatch hm)⟩⟩,h2,h3,h4⟩
end Att
namespace L2
open PySem PySem.Spec PyProof.Rows
theorem zV:∀{vs:List b_}{ns:List Int},Tt vs ns->Vals (ns.map V.int) vs
 | _,_,.nil=>.nil
 | _,_,.cons n t h=>.cons ⟨t,rfl⟩ (zV h)
def Only(H:Hp):Prop:=∀b,H b=none\/∃o xs,H b=some (.frz o (.lst xs))
noncomputable def defArgs(s:Nr):Arguments:=match s with
 | .FunctionDef _ a _ _ _ _ _ _ _ _=>a
 | _=>{ posonlyargs:=[],args:=[],vararg:=none,kwonlyargs:=[],kw_defaults:=[],kwarg:=none,defaults:=[] }
noncomputable def defBody(s:Nr):List Nr:=match s with
 | .FunctionDef _ _ b _ _ _ _ _ _ _=>b
 | _=>[]
noncomputable def defScope(s:Nr):M_:=match s with
 | .FunctionDef _ _ _ _ _ _ sc _ _ _=>sc
 | _=>{ kind:=.function,names:=[],isGenerator:=false,isCoroutine:=false }
noncomputable abbrev CX0:CXT:=λ_ _ _ _ _ _=>False
noncomputable abbrev E0:XK:=λ_ _ _=>False
def pass0{X:Cx}:Passes CX0 X E0:=λ_ _ _ _ _ _ _ h=>h.elim
structure Fun(K:FAa)(x qual:Str)(st:Nr)(f:h_)(fd:RB):Prop where
 ex:∃(oc:b_) (od:Option h_) (kV aJ pm:b_) (an:Option h_) (ay ct:b_) (cj:Array (Option b_)),
  fd=fnOf x qual (defArgs st) (defBody st) (defScope st) .none kV aJ pm an ay ct/\K.lookup f=some ⟨oc,od,.func fd,cj⟩/\codeIn K ay qual=true
 kp:QQ K (.ref f)=true
section
variable {P:E_}{w:Mo}{K:FAa}{mg:Str->Option b_}{base:Mr}
theorem Fun.ok{x:Str}{st:Nr}{f:h_}{N:List Str}{k:Nat}(F:Fun K x qual st f fd)(S:FnScope N ps (defScope st))(len:∀vs H Q E,sp vs H Q E->vs.length=ps.length)(dg:∀(ay:b_) (A:Mn) (outer:List Env) (s:e_) (H:Hp) (vs:List V) (Q:VK) (E:XK),Room k (A.deeper (Rj qual (defScope st) s.heap.objs.size f ay))->sp vs H Q E →
   ∃t,PSs (cxOf CX0 P w K mg base N qual (defScope st) f ay A outer s H E).nox (defBody st) t/\t { nx:=λ_ H'=>Q .non H',rt:=Q } (start N vs) H):FnOk P w K mg base CX0 (k+1) f fd ps sp:=by
 obtain⟨oc,od,kV,aJ,pm,an,ay,ct,cj,rfl,lk,cg⟩:=F.ex;refine CQ lk cg S len λA outer s H vs Q E hr cN=>?_
 obtain⟨t,h,q⟩:=dg ay A outer s H vs Q E hr cN;exact⟨t,h.nox,q⟩
theorem Fun.binds{x:Str}{st:Nr}{f:h_}(F:Fun K x qual st f fd)(h:∀(kV aJ pm:b_) (an:Option h_) (ay ct:b_) (us:List b_),us.length=ps.length->bindArgs (fnOf x qual (defArgs st) (defBody st) (defScope st) .none kV aJ pm an ay ct) ⟨us,[]⟩=pure (ps.zip us)):Binds K fd ps []:=by
 obtain⟨oc,od,kV,aJ,pm,an,ay,ct,cj,rfl,lk,cg⟩:=F.ex;exact .all (h kV aJ pm an ay ct)
def D4{x:Str}{st:Nr}{f:h_}{kV aJ pm ay ct:b_}(l:K.lookup f=some ⟨oc,od,.func (fnOf x qual (defArgs st) (defBody st) (defScope st) .none kV aJ pm an ay ct),cj⟩)(c:codeIn K ay qual=true)(k:QQ K (.ref f)=true):Fun K x qual st f (fnOf x qual (defArgs st) (defBody st) (defScope st) .none kV aJ pm an ay ct):=⟨⟨oc,od,kV,aJ,pm,an,ay,ct,cj,rfl,l,c⟩,k⟩
end
def iteF{A oA:Prop}(h:oA):if false=true then A else oA:=by
 rw[if_neg q_];exact h
def iteT{A oA:Prop}(h:A):if true=true then A else oA:=by
 rw[if_pos rfl];exact h
def Same(H H':Hp):Prop:=∀b o,H b=some o->H' b=some o
def Same.refl(H:Hp):Same H H:=λ_ _ h=>h
def Same.trans{H:Hp}(a:Same H H1)(b:Same H1 H2):Same H H2:=λc o h=>b c o (a c o h)
def Same.free{H:Hp}(e:Same H H'){l:h_}(h:H' l=Option.none):H l=Option.none:=by
 cases q:H l with
 | none=>rfl
 | some o =>
  rw[e l o q] at h;cases h
section
variable {κ:Type}[DecidableEq κ]
noncomputable def valV(kvs:List (κ×V))(k:κ):Option V:=(kvs.find? λkv=>decide (kv.1=k)).map (·.2)
noncomputable def putK(kvs:List (κ×V))(k:κ)(v:V):List (κ×V):=
 if(kvs.any λkv=>decide (kv.1=k))=true then kvs.map (λkv=>if kv.1=k then(kv.1,v) else kv) else kvs++[(k,v)]
def uy{p:κ×V}{r:List (κ×V)}{k:κ}(e:p.1=k):valV (p::r) k=some p.2:=by simp[valV,OU,e]
def tV{p:κ×V}{r:List (κ×V)}{k:κ}(e:¬p.1=k):valV (p::r) k=valV r k:=by simp[valV,OU,e]
theorem xI(k:κ):∀kvs:List (κ×V),(kvs.any λkv=>decide (kv.1=k))=(valV kvs k).isSome
 | []=>rfl
 | p::r=>by
  rw[OL];by_cases e:p.1=k
  ·simp only[uy e,decide_eq_true e,Bool.true_or,Sl]
  ·rw[tV e,decide_eq_false e,Bool.false_or];exact xI k r
def vT(kvs:List (κ×V))(k:κ)(v:V):(putK kvs k v).length<=kvs.length+1:=by
 unfold putK;split
 ·rw[c_];omega
 ·rw[g_,G_,List.length_nil];omega
def RelO.isSome_eq{o:Option V}{u:Option b_}(r:RelO o u):o.isSome=u.isSome:=by
 cases o with
 | none=>cases u with
  | none=>rfl
  | some _=>exact(show False from r).elim
 | some _=>cases u with
  | none=>exact(show False from r).elim
  | some _=>rfl
def KV.val{kvs:List (κ×V)}{vs:List (κ×b_)}(r:KV kvs vs)(k:κ):RelO (valV kvs k) (RV vs k):=by
 unfold KV at r
 induction r with
 | nil=>exact M5
 | @cons p q ps qs h t ih =>
  obtain⟨h1,h2⟩:=h;by_cases e:p.1=k
  ·have e':q.1=k:=h1.symm.trans e;have b:RV (q::qs) k=some q.2:=by simp[RV,OU,e']
   rw[uy e,b];exact h2
  ·have e':¬q.1=k:=λz=>e (h1.trans z)
   have b:RV (q::qs) k=RV qs k:=by simp[RV,OU,e']
   rw[tV e,b];exact ih
theorem KV.any{kvs:List (κ×V)}{vs:List (κ×b_)}(r:KV kvs vs)(k:κ):(kvs.any λkv=>decide (kv.1=k))=vs.any λkv=>decide (kv.1=k):=by
 unfold KV at r
 induction r with
 | nil=>rfl
 | cons h t ih=>rw[OL,OL,ih,h.1]
def KV.repl{kvs:List (κ×V)}{vs:List (κ×b_)}(r:KV kvs vs)(k:κ)(ry:RelV y u):
  KV (kvs.map λkv=>if kv.1=k then(kv.1,y) else kv) (vs.map λkv=>if kv.1=k then(kv.1,u) else kv):=by
 unfold KV at r ⊢
 induction r with
 | nil=>exact .nil
 | @cons p q ps qs h t ih =>
  rw[I_,I_];refine .cons ?_ ih;obtain⟨h1,h2⟩:=h;by_cases e:p.1=k
  ·rw[if_pos e,if_pos (h1.symm.trans e)];exact⟨h1,ry⟩
  ·rw[if_neg e,if_neg (λz=>e (h1.trans z))];exact⟨h1,h2⟩
def KV.put{kvs:List (κ×V)}{vs:List (κ×b_)}(r:KV kvs vs)(k:κ)(ry:RelV y u):KV (putK kvs k y) (stored vs k u):=by
 unfold putK stored;rw[r.any k];by_cases e:(vs.any λkv=>decide (kv.1=k))=true
 ·rw[if_pos e,if_pos e];exact r.repl k ry
 ·rw[if_neg e,if_neg e];exact snoc r ⟨rfl,ry⟩
theorem KV.length{kvs:List (κ×V)}{vs:List (κ×b_)}(r:KV kvs vs):kvs.length=vs.length:=Paired.length r
end
def uA{P:E_}{w:Mo}{k:Key}(r:RelV (kV k) u):(mixKind P w).is k u=true:=by
 cases k with
 | inl i=>obtain⟨t,e⟩:=(show ∃t,u=b_.int i t from r);subst e;exact Ch P w i t
 | inr x=>obtain⟨t,e⟩:=(show ∃t,u=b_.str x t from r);subst e;exact Cp P w x t
theorem yh{P:E_}{w:Mo}:∀{ks:List Key}{us:List b_},Vals (ks.map kV) us->ItemsAre (mixKind P w) ks us
 | [],_,r=>by rw[RT] at r;cases r;exact .nil
 | k::ks,_,r=>by
  rw[I_] at r;cases r with
  | cons h t=>exact .cons (uA h) (yh t)
abbrev KT(H:Hp):List (List Key×V)->List (List Key×h_×b_)->Prop:=Paired λp q=>p.1=q.1/\H q.2.1=some (.tup (p.1.map kV))/\RelV p.2 q.2.2
def KT.val{H:Hp}{xs:List (List Key×h_×b_)}(r:KT H kvs xs)(k:List Key):RelO (valV kvs k) ((Tp xs k).map (·.2)):=by
 induction r with
 | nil=>exact M5
 | @cons p q ps qs h t ih =>
  obtain⟨h1,_,h2⟩:=h;by_cases e:p.1=k
  ·have e':q.1=k:=h1.symm.trans e;have b:Tp (q::qs) k=some q.2:=by simp[Tp,OU,e']
   rw[uy e,b];exact h2
  ·have e':¬q.1=k:=λz=>e (h1.trans z)
   have b:Tp (q::qs) k=Tp qs k:=by simp[Tp,OU,e']
   rw[tV e,b];exact ih
def KT.repl{H:Hp}{xs:List (List Key×h_×b_)}(r:KT H kvs xs)(k:List Key)(ry:RelV y u):
  KT H (kvs.map λkv=>if kv.1=k then(kv.1,y) else kv) (xs.map (putAt k u)):=by
 induction r with
 | nil=>exact .nil
 | @cons p q ps qs h t ih =>
  rw[I_,I_];refine .cons ?_ ih;obtain⟨h1,h2,h3⟩:=h;unfold putAt;by_cases e:p.1=k
  ·rw[if_pos e,if_pos (h1.symm.trans e)];exact⟨h1,h2,ry⟩
  ·rw[if_neg e,if_neg (λz=>e (h1.trans z))];exact⟨h1,h2,h3⟩
def KT.put{H:Hp}{xs:List (List Key×h_×b_)}(r:KT H kvs xs)(k:List Key){b:h_}(hb:H b=some (.tup (k.map kV)))(ry:RelV y u):
  KT H (putK kvs k y) (storedH xs k b u):=by
 have e:(kvs.any λkv=>decide (kv.1=k))=(Tp xs k).isSome:=by
  rw[xI,(r.val k).isSome_eq,Option.isSome_map]
 unfold putK storedH;rw[e];by_cases q:(Tp xs k).isSome=true
 ·rw[if_pos q,if_pos q];exact r.repl k ry
 ·rw[if_neg q,if_neg q];exact snoc r ⟨rfl,hb,ry⟩
def KT.keeps{H:Hp}{xs:List (List Key×h_×b_)}(r:KT H kvs xs)(ht:∀b ys,H b=some (.tup ys)->H' b=some (.tup ys)):KT H' kvs xs:=
 Paired.mapP r λ_ _ z=>⟨z.1,ht _ _ z.2.1,z.2.2⟩
section
variable {P:E_}{w:Mo}{H:Hp}{h:Mr}{a:h_}
def AT{u:HO}(ok:HOk P w H h)(e:Rd H a u):ObjOk P w H h a u:=e.ok ok
def t8{kvs:List (Key×V)}(ok:HOk P w H h)(e:Rd H a (.dK kvs)):kvs.length<=B_/\(a == ND)=false/\∃vs,KV kvs vs/\h.DictOf (mixKind P w) a vs:=
 show ObjOk P w H h a (.dK kvs) from AT ok e
def t9{kvs:List (Key×V)}(ok:HOk P w H h)(e:H a=some (.dK kvs)):kvs.length<=B_/\(a == ND)=false/\∃vs,KV kvs vs/\h.DictOf (mixKind P w) a vs:=t8 ok (.inl e)
def vy{ks:List Key}(ok:HOk P w H h)(e:H a=some (.tup (ks.map kV))):(Pp (mixKind P w)).is h ks a:=by
 obtain⟨_,ab,r,o,h1,h2,n,h3⟩:=(show ObjOk P w H h a (.tup (ks.map kV)) from ok a _ e);exact⟨o,ab.toArray,n,h1,h2,h3,by simpa using yh r⟩
def uC(ok:HOk P w H h)(e:Rd H a (.dT kvs)):kvs.length<=B_/\(a == ND)=false ∧
  ∃xs,KT H kvs xs/\h.DictOfH (Pp (mixKind P w)) a xs:=by
 obtain⟨z,y,xs,r,o,es,ep,h1,h2,h3,h4,h5⟩:=(show ObjOk P w H h a (.dT kvs) from AT ok e);refine⟨z,y,xs,r,o,es,ep,h1,h2,h3,h4,λx hx=>?_,h5⟩
 have all:∀{l:List (List Key×V)}{m:List (List Key×h_×b_)},KT H l m->∀x∈m,(Pp (mixKind P w)).is h x.1 x.2.1:=by
  intro l m q
  induction q with
  | nil=>intro x hx;exact nomatch hx
  | @cons p q ps qs hq t ih =>
   intro x hx
   rcases x_.mp hx with e | hx
   ·subst e;exact vy ok (by rw[←hq.1];exact hq.2.1)
   ·exact ih x hx
 exact all r x hx
def BN(ok:HOk P w H h)(e:H a=some (.dT kvs)):kvs.length<=B_/\(a == ND)=false ∧
  ∃xs,KT H kvs xs/\h.DictOfH (Pp (mixKind P w)) a xs:=uC ok (.inl e)
end
def DGet(H:Hp)(a:h_)(y:V)(r:Option V):Prop:=
 (∃kvs k,Rd H a (.dK kvs)/\y=kV k/\r=valV kvs k)\/∃kvs k b,Rd H a (.dT kvs)/\y=.ref b/\H b=some (.tup (k.map kV))/\r=valV kvs k
def DPut(H:Hp)(a:h_)(y v:V)(H':Hp):Prop:=
 (∃kvs k,H a=some (.dK kvs)/\y=kV k/\kvs.length < B_/\H'=upd H a (.dK (putK kvs k v))) ∨
 ∃kvs k b,H a=some (.dT kvs)/\y=.ref b/\H b=some (.tup (k.map kV))/\kvs.length < B_/\H'=upd H a (.dT (putK kvs k v))
section
variable{X:Cx}{H:Hp}{s:e_}{a:h_}{v:V}{r:b_}{o:Option V}{A:Mn}{E:b_->e_->Prop}
def Inv.big(I:Inv X aa B H s):ND < s.heap.objs.size:=by
 have h:MR < s.heap.objs.size:=(I.mod.glob.keeps I.bk).lt;exact Nat.lt_trans (by decide) h
def KN{Q:b_->e_->Prop}(hu:A.units+1 < Ni)(I:Inv X aa B H s)(g:DGet H a y (some v))(ry:RelV y u)(h:∀w' s',Inv X aa B H s'->RelV v w'->Q w' s'):
  u_ (t_ X.prog X.w) A (Rk (.ref a) u) Q E s:=by
 rcases g with⟨kvs,k,e,ey,l⟩ | ⟨kvs,k,b,e,ey,eb,l⟩
 ·subst ey;obtain⟨z,hd,vs,aA,dd⟩:=t8 I.hok e;obtain⟨w',hw,bz⟩:=RelO.some_of (v:=v) (o:=RV vs k) (by rw[l];exact aA.val k);exact wpAny_getItem_of (uA ry) dd.mapOf hw (h w' _ (I.tok _) bz)
 ·subst ey
  cases(show u=b_.ref b from ry)
  obtain⟨z,hd,xs,aA,dd⟩:=uC I.hok e;obtain⟨w',hw,bz⟩:=RelO.some_of (v:=v) (o:=(Tp xs k).map (·.2)) (by rw[l];exact aA.val k);obtain⟨p,hp,gV⟩:=Option.map_eq_some_iff.mp hw;refine wpAny_getItem_heap (Sm hu) (vy I.hok eb) dd hp ?_;rw[gV];exact h w' _ (I.tok _) bz
def xi{ob:HO}(I:Inv X aa B H s)(mu:Mut (H a))(hs:Mr.SameBut a s.heap h')(he:∃q,h'.get? a=some q)(new:ObjOk X.prog X.w (upd H a ob) h' a ob):
  Inv X aa B (upd H a ob) { s with heap:=h',toks:=t' }:=
 I.write (x:=a) (e:=a) mu (.inl rfl) (λb q hb z=>(hs.2 b hb).trans z) he new
def yV{P:E_}{w:Mo}{kvs:List (Key×V)}{vs:List (Key×b_)}(z:kvs.length<=B_)(hd:(a == ND)=false)(aA:KV kvs vs)(dd:h'.DictOf (mixKind P w) a vs):
  ObjOk P w H' h' a (.dK kvs):=⟨z,hd,vs,aA,dd⟩
def Cs{Q:Unit->e_->Prop}(hu:A.units+1 < Ni)(I:Inv X aa B H s)(g:DPut H a y v H')(ry:RelV y u)(rv:RelV v r)(h:∀s',Inv X aa B H' s'->Q () s'):
  u_ (t_ X.prog X.w) A (T5 (.ref a) u r) Q E s:=by
 rcases g with⟨kvs,k,e,ey,l,eH⟩ | ⟨kvs,k,b,e,ey,eb,l,eH⟩
 ·subst ey eH;obtain⟨z,hd,vs,aA,dd⟩:=t9 I.hok e;have hz:vs.length<=B_:=by rw[←aA.length];exact z
  have hl:(putK kvs k v).length<=B_:=by have:=vT kvs k v;omega
  refine wpAny_setItem_pairs (hsz:=hz) (uA ry) dd λh' dk hs=>h _ ?_
  have he:∃q,h'.get? a=some q:=let ⟨q,_,_,hq,_⟩:=dk;⟨q,hq⟩
  exact xi I (by rw[e];exact M5) hs he (yV hl hd (aA.put k rv) dk)
 ·subst ey eH
  cases(show u=b_.ref b from ry)
  obtain⟨z,hd,xs,aA,dd⟩:=BN I.hok e;have hz:xs.length<=B_:=by rw[←Paired.length aA];exact z
  have hl:(putK kvs k v).length<=B_:=by have:=vT kvs k v;omega
  refine wpAny_setItem_heap (hsz:=hz) (Sm hu) (vy I.hok eb) dd λh' dk hs=>h _ ?_
  obtain⟨q,es,ep,hq,h2,h3,h4,_,h5⟩:=dk;refine xi I (by rw[e];exact M5) hs ⟨q,hq⟩ ⟨hl,hd,_,(aA.put k eb rv).keeps λc ys ec=>?_,q,es,ep,hq,h2,h3,h4,h5⟩;rw[oI (Ec ec e (λz=>nomatch z))];exact ec
end
def NoSl(i:y_):Prop:=∀ov iv,RE i false ov iv=operate [ov,iv] (Rk ov iv)
def Hg{prog:E_}{w:Mo}{A:Mn}{E:b_->e_->Prop}{s:e_}{value aK:y_}{T id:String}{Q:b_->e_->Prop}(hl:typeLookup (.type T) "__getitem__"=pure (some (.builtin id)))(hs:NoSl aK)(h:u_ (t_ prog w) A (MW value env) (λo am=>u_ (t_ prog w) A (MW aK env) (λi bm=>bm.TypeIs o T/\u_ (t_ prog w) A (Rk o i) Q E bm) E am) E s):
  u_ (t_ prog w) A (MW (.Subscript value aK pos) env) Q E s:=by
 refine TK (M6 h (λo am je=>M6 je (λi bm eQ=>?_) λ_ _ x=>x) λ_ _ x=>x);obtain⟨hT,eQ⟩:=eQ;unfold Sb;refine a_ ?_;rw[getitemInPython_of_ne hT.not_modules];refine a_ (OQ hT hl ?_)
 have fin:u_ (t_ prog w) A (RE aK false o i) (λr gB=>u_ (t_ prog w) A (letTemporaryGo value o r >>= λ_=>pure r) Q E gB) E bm:=by
  rw[hs o i];exact wpAny_operating (M6 eQ (λr gB jf=>a_ (wpAny_letTemporaryGo (d_ jf))) λ_ _ x=>x)
 first
  | exact d_ (a_ fin)
  | exact a_ (d_ (a_ fin))
  | exact a_ fin
def L4{X:Cx}{H:Hp}{s:e_}{a:h_}{o:Option V}(I:Inv X aa B H s)(g:DGet H a y o):s.TypeIs (.ref a) "dict":=by
 rcases g with⟨kvs,k,e,_,_⟩ | ⟨kvs,k,b,e,_,_,_⟩
 ·obtain⟨_,_,vs,_,dd⟩:=t8 I.hok e;exact dd.typeIs
 ·obtain⟨_,_,xs,_,dd⟩:=uC I.hok e;exact dd.typeIs
noncomputable def tDGet(td ty:TE):TE:=λB H Q=>td B H λx H1=>ty B H1 λy H2=>∃a v,x=.ref a/\DGet H2 a y (some v)/\Q v H2
section
variable{X:Cx}{o i:y_}{td ty:TE}
theorem ER(hu:X.A.units+1 < Ni)(ho:PE X o td)(hi:PE X i ty)(hs:NoSl i):PE X (.Subscript o i pos) (tDGet td ty):=by
 intro aa s B H Q I h;refine Hg PySem.F.slot_dict_getitem.lookup hs (thn (ho aa s B H _ I h) λu s1 ⟨x,H1,I1,rx,q1⟩=>thn (hi aa s1 B H1 _ I1 q1) λiv s2 ⟨y,H2,I2,ry,a,v,ex,g,q2⟩=>?_);subst ex;obtain rfl:u=b_.ref a:=rx;exact⟨L4 I2 g,KN hu I2 g ry λw' s3 I3 bz=>⟨v,H2,I3,bz,q2⟩⟩
end
def zm{P:E_}{w:Mo}{H:Hp}(h:Mr)(hb:ND < h.objs.size):ObjOk P w H (h.push { cls:=.type "dict", data:=.dict #[] }) h.objs.size (.dK []):=
 ⟨Mu _,beq_eq_false_iff_ne.mpr (MQ (My hb)),[],.nil,Mr.DictOf.new h⟩
def Hw{P:E_}{w:Mo}{H:Hp}(h:Mr)(hb:ND < h.objs.size):ObjOk P w H (h.push { cls:=.type "dict", data:=.dict #[] }) h.objs.size (.dT []):=
 ⟨Mu _,beq_eq_false_iff_ne.mpr (MQ (My hb)),[],.nil,_,#[],0,r_ _ rfl,⟨rfl,rfl,rfl⟩,rfl,rfl,N8⟩
def tDNewK:TE:=λ_ H Q=>∀p,H p=none->Q (.ref p) (upd H p (.dK []))
def tDNewT:TE:=λ_ H Q=>∀p,H p=none->Q (.ref p) (upd H p (.dT []))
section
variable{X:Cx}
def HP:PE X (.Dict [] [] pos) tDNewK:=λaa s B H Q I h =>
 wpAny_Dict_empty ⟨.ref s.heap.objs.size,_,I.laid (a:=s.heap.objs.size) (o:=.dK []) (t':=s.toks) (λ_ _ q=>f_ _ q) (s_ _) (zm s.heap I.big),rfl,h _ (I.hok.fresh (s_ _))⟩
def DU:PE X (.Dict [] [] pos) tDNewT:=λaa s B H Q I h =>
 wpAny_Dict_empty ⟨.ref s.heap.objs.size,_,I.laid (a:=s.heap.objs.size) (o:=.dT []) (t':=s.toks) (λ_ _ q=>f_ _ q) (s_ _) (Hw s.heap I.big),rfl,h _ (I.hok.fresh (s_ _))⟩
end
def tPairs:List (TE×TE)->St->Hp->(List (V×V)->Hp->Prop)->Prop
 | [],_,H,Q=>Q [] H
 | (tk,tv)::r,B,H,Q=>tk B H λx H1=>tv B H1 λy H2=>tPairs r B H2 λps H3=>Q ((x,y)::ps) H3
abbrev VV:List (V×V)->List (b_×b_)->Prop:=Paired λp q=>RelV p.1 q.1/\RelV p.2 q.2
def PPs(X:Cx)(pos:Pos)(keys:List (Option y_))(aO:List y_)(cC:List (TE×TE)):Prop:=
 ∀(aa:List (h_×Obj)) (s:e_) (B:St) (H:Hp) (Q:List (V×V)->Hp->Prop),Inv X aa B H s->tPairs cC B H Q →
  u_ (t_ X.prog X.w) X.A (evalPairs (pairTrees keys aO X.env pos)) (λvs s'=>∃ps H',Inv X aa B H' s'/\VV ps vs/\Q ps H') X.xe s
def Ht{X:Cx}:PPs X pos [] [] []:=λaa s B H Q I h=>pairTrees_nil_walk ⟨[],H,I,.nil,h⟩
def GE{X:Cx}{k v:y_}{ks:List (Option y_)}{vs:List y_}{tk tv:TE}(hk:PE X k tk)(hv:PE X v tv)(hr:PPs X pos ks vs cC):
  PPs X pos (some k::ks) (v::vs) ((tk,tv)::cC):=λaa s B H Q I h =>
 pairTrees_cons_walk (thn (hk aa s B H _ I h) λu s1 ⟨x,H1,I1,rx,q1⟩=>thn (hv aa s1 B H1 _ I1 q1) λw2 s2 ⟨y,H2,I2,ry,q2⟩ =>
  thn (hr aa s2 B H2 _ I2 q2) λws s3 ⟨ps,H3,I3,aA,q3⟩=>⟨(x,y)::ps,H3,I3,.cons ⟨rx,ry⟩ aA,q3⟩)
def mergeK(kvs more:List (Key×V)):List (Key×V):=more.foldl (λac kv=>putK ac kv.1 kv.2) kvs
def KV.merge:∀{more:List (Key×V)}{rs:List (Key×b_)}{kvs:List (Key×V)}{vs:List (Key×b_)},KV more rs->KV kvs vs->KV (mergeK kvs more) (merged vs rs):=by
 intro more rs kvs vs r;unfold KV at r
 induction r generalizing kvs vs with
 | nil=>intro q;exact q
 | @cons p q ps qs h t ih =>
  intro r0
  have e:KV (putK kvs p.1 p.2) (stored vs q.1 q.2):=by
   have:=r0.put p.1 h.2;rw[←h.1];exact this
  exact ih e
theorem AA:∀(more kvs:List (Key×V)),(mergeK kvs more).length<=kvs.length+more.length
 | [],kvs=>by show kvs.length<=kvs.length+0;omega
 | p::r,kvs=>by
  have h1:=AA r (putK kvs p.1 p.2);have h2:=vT kvs p.1 p.2;show(mergeK (putK kvs p.1 p.2) r).length<=_;rw[G_];omega
theorem y9{P:E_}{w:Mo}:∀{kvs:List (Key×V)}{ws:List (b_×b_)},VV (kvs.map λkv=>(kV kv.1,kv.2)) ws->∃rs,Carries (mixKind P w) ws rs/\KV kvs rs
 | [],_,r=>by rw[RT] at r;cases r;exact⟨[],M5,.nil⟩
 | p::kvs,_,r=>by
  rw[I_] at r;cases r with
  | @cons a b as bs h t =>
   obtain⟨rs,c,q⟩:=y9 (P:=P) (w:=w) t;obtain⟨b1,b2⟩:=b;exact⟨(p.1,b2)::rs,⟨uA h.1,rfl,c⟩,.cons ⟨rfl,h.2⟩ q⟩
def tDisp(cC:List (TE×TE)):TE:=λB H Q=>∀p,H p=none->tPairs cC B (upd H p (.dK [])) λps H2=>H2 p=some (.dK [])/\∃kvs:List (Key×V),ps=kvs.map (λkv=>(kV kv.1,kv.2))/\kvs.length<=15/\Q (.ref p) (upd H2 p (.dK (mergeK [] kvs)))
def K'{X:Cx}{keys:List (Option y_)}(h:PPs X pos keys aO cC)(cP:keys.all (·.isSome)=true)(hl:keys.length=aO.length)(h0:keys≠[])(gW:keys.length<=15):PE X (.Dict keys aO pos) (tDisp cC):=by
 intro aa s B H Q I q;have hn:=I.hok.fresh (s_ s.heap.objs.size);have I1:=I.laid (a:=s.heap.objs.size) (o:=.dK []) (h':=s.heap.push { cls:=.type "dict", data:=.dict #[] }) (t':=s.toks) (λ_ _ q=>f_ _ q) (s_ _) (zm s.heap I.big);refine wpAny_Dict_walk (knd:=mixKind X.prog X.w) cP hl h0 gW (thn (h aa _ B _ _ I1 (q _ hn)) λws s2 ⟨ps,H2,I2,aA,e,kvs,ep,lk,q2⟩=>?_);subst ep;obtain⟨rs,c,rk⟩:=y9 (P:=X.prog) (w:=X.w) aA;obtain⟨z,hd,nJ,r0,dd⟩:=t9 I2.hok e;cases r0;refine⟨rs,c,dd,λh' dk hs=>⟨.ref s.heap.objs.size,_,?_,rfl,q2⟩⟩
 have hz:(mergeK [] kvs).length<=B_:=by
  have h1:=AA kvs [];rw[List.length_nil] at h1;rw[MS];omega
 have he:∃q,h'.get? s.heap.objs.size=some q:=let ⟨q,_,_,hq,_⟩:=dk;⟨q,hq⟩
 exact xi I2 (by rw[e];exact M5) hs he (yV hz hd (rk.merge .nil) dk)
end L2
set_option maxHeartbeats 4000000
namespace DL
open PySem PySem.Spec PyProof.Rows L2
inductive D where
 | non | bl (b:Bool) | int (i:Int) | str (x:Str) | tup (xs:List D) | lst (xs:List D)
def RdK(K:FAa)(I:Hp)(a:h_)(xs:List V):Prop:=Rd I a (.lst xs)\/∃(ab:List b_) (n:Nat),K.lookup a=some { cls:=.type "list", data:=.seq ab.toArray n }/\Vals xs ab/\ab.length<=B_
def RdK.of{K:FAa}{a:h_}(h:I a=some (.lst xs)):RdK K I a xs:=.inl (.inl h)
def RdK.sq{K:FAa}{a:h_}(h:RdK K I a xs):SqL K I a xs:=by
 rcases h with h | ⟨ab,n,h1,h2,h3⟩
 ·exact .inl h
 ·exact .inr ⟨_,ab.toArray,n,h1,rfl,rfl,rfl,by simpa using h3,by simpa using h2⟩
mutual
def Is(K:FAa)(I:Hp):D->V->Prop
 | .non,v=>v=.non
 | .bl b,v=>v=.bl b
 | .int i,v=>v=.int i
 | .str x,v=>v=.str x
 | .tup ds,v=>∃a xs,v=.ref a/\I a=some (.tup xs)/\IsA K I ds xs
 | .lst ds,v=>∃a xs,v=.ref a/\RdK K I a xs/\IsA K I ds xs
def IsA(K:FAa)(I:Hp):List D->List V->Prop
 | [],xs=>xs=[]
 | d::ds,xs=>∃x r,xs=x::r/\Is K I d x/\IsA K I ds r
end
section
variable{K:FAa}
def Same.rd{a:h_}{o:HO}(e:Same I I')(h:Rd I a o):Rd I' a o:=by
 rcases h with h | ⟨u,h⟩
 ·exact .inl (e _ _ h)
 ·exact .inr ⟨u,e _ _ h⟩
def Same.rdK{a:h_}(e:Same I I')(h:RdK K I a xs):RdK K I' a xs:=by
 rcases h with h | h
 ·exact .inl (Same.rd e h)
 ·exact .inr h
def Same.sqT{a:h_}(e:Same I I')(h:SqT K I a xs):SqT K I' a xs:=by
 rcases h with h | h
 ·exact .inl (Same.rd e h)
 ·exact .inr h
mutual
theorem Is.mono(e:Same I I'):∀{d:D}{v:V},Is K I d v->Is K I' d v
 | .non,_,h=>by rw[Is] at h ⊢;exact h
 | .bl _,_,h=>by rw[Is] at h ⊢;exact h
 | .int _,_,h=>by rw[Is] at h ⊢;exact h
 | .str _,_,h=>by rw[Is] at h ⊢;exact h
 | .tup ds,v,h=>by
  obtain⟨a,xs,e1,e2,e3⟩:=h;exact⟨a,xs,e1,e _ _ e2,IsA.mono e e3⟩
 | .lst ds,v,h=>by
  obtain⟨a,xs,e1,e2,e3⟩:=h;exact⟨a,xs,e1,Same.rdK e e2,IsA.mono e e3⟩
theorem IsA.mono(e:Same I I'):∀{ds:List D}{xs:List V},IsA K I ds xs->IsA K I' ds xs
 | [],_,h=>by rw[IsA] at h ⊢;exact h
 | d::ds,xs,h=>by
  obtain⟨x,r,e1,e2,e3⟩:=h;exact⟨x,r,e1,Is.mono e e2,IsA.mono e e3⟩
end
def IsA.nil:IsA K I [] []:=by rw[IsA]
def IsA.cons{d:D}{ds:List D}{x:V}{xs:List V}(h:Is K I d x)(t:IsA K I ds xs):IsA K I (d::ds) (x::xs):=by
 rw[IsA];exact⟨x,xs,rfl,h,t⟩
def IsA.nil_inv(h:IsA K I [] xs):xs=[]:=by rw[IsA] at h;exact h
def IsA.cons_inv{d:D}{ds:List D}(h:IsA K I (d::ds) xs):∃x r,xs=x::r/\Is K I d x/\IsA K I ds r:=by rw[IsA] at h;exact h
theorem IsA.length:∀{ds:List D}{xs:List V},IsA K I ds xs->ds.length=xs.length
 | [],xs,h=>by rw[h.nil_inv]<;>rfl
 | d::ds,xs,h=>by
  obtain⟨x,r,rfl,_,t⟩:=h.cons_inv;simp[IsA.length t]
theorem IsA.get:∀{ds:List D}{xs:List V}{i:Nat}{d:D},IsA K I ds xs->ds[i]?=some d->∃x,xs[i]?=some x/\Is K I d x
 | [],xs,i,d,h,e=>by simp at e
 | c::ds,xs,0,d,h,e=>by
  obtain⟨x,r,rfl,hx,t⟩:=h.cons_inv;simp at e;subst e;exact⟨x,rfl,hx⟩
 | c::ds,xs,i+1,d,h,e=>by
  obtain⟨x,r,rfl,hx,t⟩:=h.cons_inv;obtain⟨y,e1,e2⟩:=IsA.get (i:=i) t (by simpa using e);exact⟨y,by simpa using e1,e2⟩
def IsA.one{d:D}(h:IsA K I [d] xs):∃x,xs=[x]/\Is K I d x:=by
 obtain⟨x,r,rfl,hx,t⟩:=h.cons_inv;rw[t.nil_inv];exact⟨x,rfl,hx⟩
def IsA.two{d e:D}(h:IsA K I [d,e] xs):∃x y,xs=[x,y]/\Is K I d x/\Is K I e y:=by
 obtain⟨x,r,rfl,hx,t⟩:=h.cons_inv;obtain⟨y,rfl,hy⟩:=t.one;exact⟨x,y,rfl,hx,hy⟩
def oM{i:Int}{v:V}(h:Is K I (.int i) v):v=.int i:=by rw[Is] at h;exact h
def pA{i:Bool}{v:V}(h:Is K I (.bl i) v):v=.bl i:=by rw[Is] at h;exact h
def pO{i:Str}{v:V}(h:Is K I (.str i) v):v=.str i:=by rw[Is] at h;exact h
def qa{v:V}(h:Is K I .non v):v=.non:=by rw[Is] at h;exact h
def wE{ds:List D}{v:V}(h:Is K I (.tup ds) v):∃a xs,v=.ref a/\I a=some (.tup xs)/\IsA K I ds xs:=by rw[Is] at h;exact h
def o7{ds:List D}{v:V}(h:Is K I (.tup ds) v):∃a xs,v=.ref a/\SqT K I a xs/\IsA K I ds xs:=by
 obtain⟨a,xs,e,h1,h2⟩:=wE h;exact⟨a,xs,e,SqT.of h1,h2⟩
def pz{ds:List D}{v:V}(h:Is K I (.lst ds) v):∃a xs,v=.ref a/\RdK K I a xs/\IsA K I ds xs:=by rw[Is] at h;exact h
theorem Is.int(i:Int):Is K I (.int i) (.int i):=by rw[Is]
theorem Is.bl(i:Bool):Is K I (.bl i) (.bl i):=by rw[Is]
theorem Is.str(i:Str):Is K I (.str i) (.str i):=by rw[Is]
theorem Is.non:Is K I .non .non:=by rw[Is]
theorem Is.tup{ds:List D}{a:h_}(h:I a=some (.tup xs))(t:IsA K I ds xs):Is K I (.tup ds) (.ref a):=by rw[Is];exact⟨a,xs,rfl,h,t⟩
theorem Is.lst{ds:List D}{a:h_}(h:RdK K I a xs)(t:IsA K I ds xs):Is K I (.lst ds) (.ref a):=by rw[Is];exact⟨a,xs,rfl,h,t⟩
end
section
variable{H:Hp}
def pW{H:Hp}{p:h_}(h:H p=none)(o:HO):Same H (upd H p o):=λb u q=>by rw[oI (qI q h)];exact q
def Il{I H:Hp}{p:h_}(h:Same I H)(o:HO):Same (upd I p o) (upd H p o):=λb u q=>by
 by_cases e:b=p
 ·subst e;rw[oK] at q ⊢;exact q
 ·rw[oI e] at q ⊢;exact h b u q
def qX{α:Type}{l:List α}{i:Nat}{a b:α}(h:(l.set i a)[j]?=some b):(j=i/\b=a/\i < l.length)\/(j≠i/\l[j]?=some b):=by
 by_cases e:j=i
 ·subst e;by_cases hl:j < l.length
  ·rw[Os hl] at h;cases h;exact .inl ⟨rfl,rfl,hl⟩
  ·rw[Nv (by rw[OT];omega)] at h;cases h
 ·rw[OP (MQ e)] at h;exact .inr ⟨e,h⟩
end
end DL
variable{ys ds:List DL.D}{d:DL.D}
namespace DL
open PySem PySem.Spec PyProof.Rows L2
section
variable {X:Cx}{e:y_}
def PE.imp{t t':TE}(h:PE X e t)(f:∀B H Q,t' B H Q->t B H Q):PE X e t':=λaa s B H Q I q=>h aa s B H Q I (f B H Q q)
def PT.imp{t t':TT}(h:PT X e t)(f:∀B H Q,t' B H Q->t B H Q):PT X e t':=λaa s B H Q I q=>h aa s B H Q I (f B H Q q)
def PW.imp{t t':TT}(h:PW X e t)(f:∀B H Q,t' B H Q->t B H Q):PW X e t':=λwh aa s B H Q I q=>h wh aa s B H Q I (f B H Q q)
def PA.imp{es:List y_}{t t':TA}(h:PA X es t)(f:∀B H Q,t' B H Q->t B H Q):PA X es t':=λpos aa s B H Q I q=>h pos aa s B H Q I (f B H Q q)
end
section
variable {a b c:y_}
noncomputable def lim:Nat:=1000000
def ql(h:n<=lim):n<=B_:=A_ h (by rw[MS];decide)
def o3{α:Type}{c:Prop}[Decidable c]{a b:α}(h:(if c then some a else none)=some b):c/\b=a:=by
 by_cases hc:c
 ·rw[if_pos hc] at h;exact⟨hc,(Mt h).symm⟩
 ·rw[if_neg hc] at h;cases h
end
section
variable {X:Cx}
def PS.imp{st:Nr}{t t':TS}(h:PS X st t)(f:∀E B H,t' E B H->t E B H):PS X st t':=λaa s B H E I q=>h aa s B H E I (f E B H q)
def PSs.imp{st:List Nr}{t t':TS}(h:PSs X st t)(f:∀E B H,t' E B H->t E B H):PSs X st t':=λaa s B H E I q=>h aa s B H E I (f E B H q)
def PG.imp{t t':TG}(h:PG X tg t)(f:∀v B H Q,t' v B H Q->t v B H Q):PG X tg t':=λaa s B H v u Q I r q=>h aa s B H v u Q I r (f v B H Q q)
def PGs.imp{t t':TGs}(h:PGs X fQ t)(f:∀v B H Q,t' v B H Q->t v B H Q):PGs X fQ t':=λaa s B H v u Q I r q=>h aa s B H v u Q I r (f v B H Q q)
def PI.imp{t t':TI}(h:PI X tg iter t)(f:∀B H Q,t' B H Q->t B H Q):PI X tg iter t':=λaa s B H R I q=>h aa s B H R I (f B H R q)
end
section
variable {X:Cx}{e:y_}
def xZ{H:Hp}{s:e_}{l:h_}(I:Inv X aa B H s)(hH:RdK X.K H l xs):xs.length<=B_/\∃(ab:List b_) (n:Nat),Vals xs ab/\xs.length=ab.length/\s.heap.get? l=some { cls:=.type "list", data:=.seq ab.toArray n }:=by
 rcases hH with hH | ⟨ab,n,h1,h2,h3⟩
 ·obtain⟨z,ab,n,r,e⟩:=hH.ok I.hok;exact⟨z,ab,n,r,r.length,e⟩
 ·exact⟨by rw[h2.length];exact h3,ab,n,h2,h2.length,I.kIn l _ h1⟩
end
def getMap{α β:Type}{f:α->β}{l:List α}{i:Nat}{b:β}(h:(l.map f)[i]?=some b):∃a,l[i]?=some a/\b=f a:=by
 rw[Mx] at h;cases e:l[i]? with
 | none=>rw[e] at h;cases h
 | some a=>rw[e] at h;exact⟨a,rfl,(Mt h).symm⟩
def C8{α:Type}{l:List α}{i:Nat}{a:α}(h:(l.map some++Mm n (none:Option α))[i]?=some (some a)):l[i]?=some a:=by
 by_cases hi:i < (l.map some).length
 ·rw[M9 hi] at h;obtain⟨b,e1,e2⟩:=getMap h;cases e2;exact e1
 ·rw[MT ⋯,N7] at h;split at h<;>cases h
noncomputable def relab(sc br:M_):M_:={ sc with names:=sc.names.map λ(n,k)=>if(k == .free&&br.kind == .function&&br.names.lookup n == some .cell) then(n,.cell) else(n,k) }
noncomputable def clo(cells:List (Str×h_)):List (Str×MK)->List (Str×h_)->List (Str×h_)
 | [],ac=>ac
 | (n,k)::r,ac=>if k == .free then clo cells r ((n,(cells.lookup n).getD 0)::ac) else clo cells r ac
theorem BK{env:Env}(f:Str×MK->List (Str×h_)->Sem (ForInStep (List (Str×h_))))(hf:∀name kind cs,f (name,kind) cs=if kind == .free then(do let a ←cellOf env name;pure (.yield ((name,a)::cs))) else pure (.yield cs)):
  ∀(names:List (Str×MK)) (ac:List (Str×h_)),(∀n,(n,MK.free)∈names->∃c,env.cells.lookup n=some c)->(forIn names ac f:Sem _)=pure (clo env.cells names ac)
 | [],ac,_=>by rw[List.forIn_nil];rfl
 | (n,k)::r,ac,h=>by
  rw[OV,hf];unfold clo;have ih:=λbU=>BK f hf r bU (λn hn=>h n (n_ _ hn))
  by_cases hk:(k == MK.free)=true
  ·rw[if_pos hk,if_pos hk];have bA:k=.free:=by simpa using hk
   subst bA;obtain⟨c,hc⟩:=h n p_;have e:cellOf env n=pure c:=by unfold cellOf;rw[hc]
   rw[e,hc];exact ih _
  ·rw[if_neg hk,if_neg hk];exact ih _
def yU(h:∀n,(n,MK.free)∈scope.names->∃c,env.cells.lookup n=some c):closureFor scope env=pure (clo env.cells scope.names []):=by
 unfold closureFor;dsimp only;rw[BK (env:=env) _ (λname kind cs=>by cases hk:kind == MK.free<;>simp[hk]) scope.names [] h];rfl
theorem wK{cells:List (Str×h_)}:∀{names:List (Str×MK)}{ac:List (Str×h_)}{x:Str}{c:h_},(x,c)∈clo cells names ac->(x,c)∈ac\/((x,MK.free)∈names/\c=(cells.lookup x).getD 0)
 | [],ac,x,c,h=>.inl h
 | (n,k)::r,ac,x,c,h=>by
  unfold clo at h;by_cases hk:(k == MK.free)=true
  ·rw[if_pos hk] at h;have bA:k=.free:=by simpa using hk
   subst bA
   rcases wK h with z | ⟨z1,z2⟩
   ·rcases x_.mp z with z | z
    ·cases z;exact .inr ⟨p_,rfl⟩
    ·exact .inl z
   ·exact .inr ⟨n_ _ z1,z2⟩
  ·rw[if_neg hk] at h
   rcases wK h with z | ⟨z1,z2⟩
   ·exact .inl z
   ·exact .inr ⟨n_ _ z1,z2⟩
theorem ww{cells:List (Str×h_)}:∀{names:List (Str×MK)}{ac:List (Str×h_)}{x:Str},((x,MK.free)∈names\/∃c,ac.lookup x=some c)->∃c,(clo cells names ac).lookup x=some c
 | [],ac,x,h=>by
  rcases h with h | h
  ·cases h
  ·exact h
 | (n,k)::r,ac,x,h=>by
  unfold clo
  have push:∀c0:h_,(∃c,ac.lookup x=some c)->∃c,((n,c0)::ac).lookup x=some c:=λc0 ⟨c,hc⟩=>by
   rw[N0];cases x == n
   ·exact⟨c,hc⟩
   ·exact⟨c0,rfl⟩
  by_cases hk:(k == MK.free)=true
  ·rw[if_pos hk];refine ww ?_
   rcases h with h | h
   ·rcases x_.mp h with z | z
    ·cases z;exact .inr ⟨_,by rw[N0,beq_self_eq_true]⟩
    ·exact .inl z
   ·exact .inr (push _ h)
  ·rw[if_neg hk];refine ww ?_
   rcases h with h | h
   ·rcases x_.mp h with z | z
    ·cases z;exact absurd (by rfl) hk
    ·exact .inl z
   ·exact .inr h
def PTs(X:Cx)(aI:List y_)(t:TT):Prop:=
 ∀(aa:List (h_×Obj)) (s:e_) (B:L2.St) (H:Hp) (Q:Bool->Hp->Prop),Inv X aa B H s->t B H Q →
  u_ (t_ X.prog X.w) X.A (forIn aI true λc r=>if r=true then do let ok ←SY c X.env (MW c X.env);pure (TM ok) else pure (TM r)) (TP X aa B Q) X.xe s
def KF{X:Cx}:PTs X [] (λ_ H Q=>Q true H):=λaa s B H Q I h=>wpAny_tests_nil ⟨H,I,h⟩
def Kg{X:Cx}{c:y_}{t:TT}(h:PT X c t):PTs X [c] t:=λaa s B H Q I q=>wpAny_tests_one (h aa s B H Q I q)
abbrev calm(P:E_)(w:Mo)(A:Mn){α:Type}(m:Sem α)(Q:α->e_->Prop)(s:e_):Prop:=u_ (t_ P w) A m Q (λ_ _=>False) s
def calm.on{P:E_}{w:Mo}{A:Mn}{α β:Type}{m:Sem α}{f:α->Sem β}{Q:α->e_->Prop}{K:β->e_->Prop}{E:b_->e_->Prop}{s:e_}(h:calm P w A m Q s)(k:∀a s',Q a s'->u_ (t_ P w) A (f a) K E s'):u_ (t_ P w) A (m >>= f) K E s:=
 a_ (M6 h k λ_ _ no=>no.elim)
def TurnMeets(P:E_)(w:Mo)(A:Mn)(src fR:b_)(tg aF:y_)(aI:List y_)(env:Env)(Tf out:e_->Prop)(s:e_):Prop:=
 calm P w A (Qc src) (λdr s=>match dr with
  | none=>out s
  | some v=>calm P w A (PQ tg src v) (λ_ s=>calm P w A (Rg tg env v) (λ_ s =>
    calm P w A (forIn aI true λc r=>if r=true then do let ok ←SY c env (MW c env);pure (TM ok) else pure (TM r)) (λyes s =>
     cond yes (calm P w A (MW aF env) (λx s=>calm P w A (call (.builtin "list.append") [fR,x]) (λ_ s=>Tf s) s) s) (Tf s)) s) s) s) s
def Jj{P:E_}{w:Mo}{A:Mn}{out:TB->e_->Prop}{s:e_}{gX:y_}{sc:M_}{at':Pos}{src fR:b_}(W:Nat->e_->Prop)(eR:∀left s,W left s->TurnMeets P w A src fR tg aF aI env (λs'=>∃less,less < left/\W less s') (out (.ok .next)) s)(left:Nat)(start:W left s):
  OB (t_ P w) A (.compLoop (.ListComp aF [⟨tg,gX,aI,0⟩] sc at') 0 src fR env) out s:=by
 refine codeAny_loop rfl W (λleft s here=>?_) left start;have turn:=eR left s here;refine wpAny_noted ?_;refine a_ (R9 (turn.on λdr s1 h1=>?_));cases dr with
 | none=>exact d_ h1
 | some v=>exact calm.on h1 λ_ _ h2=>calm.on h2 λ_ _ h3=>calm.on h3 λyes s4 h4=>match yes,h4 with
  | false,h4=>d_ (And.intro rfl h4)
  | true,h4=>a_ (calm.on h4 λ_ _ h5=>calm.on h5 λ_ _ h6=>d_ (d_ (And.intro rfl h6)))
def Clear(X:Cx)(aa:List (h_×Obj))(H:Hp)(C:h_):Prop:=H C=none/\C≠X.env.locals/\X.s₀.heap.objs.size<=C/\(∀x c,X.env.cells.lookup x=some c->c≠C)/\∀p∈X.pn++aa,p.1≠C
def Inv.clear{X:Cx}{H:Hp}{s:e_}{C:h_}(I:Inv X aa B H s)(c:Clear X aa H C)(hs:Mr.SameBut C s.heap h'):Inv X aa B H { s with heap:=h' }:=
 I.turned (t':=s.toks) (λb o hb e=>(hs.2 b hb).trans e) c.1 c.2.1 (.inr c.2.2.1) c.2.2.2.1 c.2.2.2.2
def CompW(m:Nat)(J:It)(g:TG)(tt:TT)(te:TE)(B:L2.St)(H1:Hp)(p:h_)(Q:VK):Prop:=
 ∃W:Nat->Nat->L2.St->Hp->Prop,(∃n,W 0 n (Mm m none++B) (upd H1 p (.lst [])))/\∀i n ak H',W i n ak H' →
  (J.stop i H'/\Q (.ref p) H')\/(J.go i H'/\∀x H2,J.yld i H' x H2->g x ak H2 λbb H3=>tt bb H3 λb H4 =>
   if b=true then te bb H4 λy H5=>∃ac,H5 p=some (.lst ac)/\ac.length < B_/\∃n',n' < n/\W (i+1) n' bb (upd H5 p (.lst (ac++[y])))
   else ∃n',n' < n/\W (i+1) n' bb H4)
section
variable {m:Nat}{g:TG}{tt:TT}{te:TE}{wi:TI}
noncomputable def tComp(m:Nat)(wi:TI)(g:TG)(tt:TT)(te:TE):TE:=λB H Q=>wi B H λJ H1=>∀p,H1 p=none->CompW m J g tt te B H1 p Q
end
section
variable {m:Nat}
def FQ{α:Type}{l:List (Option α)}{m i:Nat}{a:α}(h:(Mm m (none:Option α)++l)[i]?=some (some a)):m<=i/\l[i - m]?=some (some a):=by
 by_cases hi:m<=i
 ·rw[MT (by rw[Mw];exact hi),Mw] at h;exact⟨hi,h⟩
 ·rw[M9 (by rw[Mw];omega),N7] at h;split at h<;>cases h
def Dx{α:Type}{l:List (Option α)}{m i:Nat}(hi:m<=i):(Mm m (none:Option α)++l)[i]?=l[i - m]?:=by
 rw[MT (by rw[Mw];exact hi),Mw]
end
mutual
noncomputable def deq:D->D->Bool
 | .non,.non=>true
 | .bl a,.bl b=>a == b
 | .bl a,.int j=>(if a then(1:Int) else 0) == j
 | .int i,.bl b=>i == (if b then(1:Int) else 0)
 | .int i,.int j=>i == j
 | .str x,.str y=>x == y
 | .tup xs,.tup ys=>deqA xs ys
 | .lst xs,.lst ys=>deqA xs ys
 | _,_=>false
noncomputable def deqA:List D->List D->Bool
 | [],[]=>true
 | x::xs,y::ys=>deq x y&&deqA xs ys
 | _,_=>false
end
mutual
noncomputable def dep:D->Nat
 | .tup xs=>depA xs+1
 | .lst xs=>depA xs+1
 | _=>0
noncomputable def depA:List D->Nat
 | []=>0
 | x::xs=>max (dep x) (depA xs)
end
mutual
theorem tf:∀a:D,deq a a=true
 | .non=>by rw[deq]
 | .bl b=>by rw[deq];exact beq_self_eq_true b
 | .int b=>by rw[deq];exact beq_self_eq_true b
 | .str b=>by rw[deq];exact beq_self_eq_true b
 | .tup xs=>by rw[deq];exact sv xs
 | .lst xs=>by rw[deq];exact sv xs
theorem sv:∀a:List D,deqA a a=true
 | []=>by rw[deqA]
 | x::xs=>by rw[deqA,tf x,sv xs];rfl
end
theorem pV:∀{xs:List D}{x:D},x∈xs->dep x<=depA xs
 | y::ys,x,h=>by
  rw[depA]
  rcases x_.mp h with rfl | h
  ·omega
  ·have:=pV h;omega
theorem tU:∀(xs ys:List D),((MO (min xs.length ys.length)).all (λj=>deq (xs.getD j .non) (ys.getD j .non))&&(xs.length == ys.length))=deqA xs ys
 | [],[]=>by rw[deqA];rfl
 | [],y::ys=>by rw[deqA]<;>simp
 | x::xs,[]=>by rw[deqA]<;>simp
 | x::xs,y::ys=>by
  have ih:=tU xs ys;have e:min (x::xs).length (y::ys).length=min xs.length ys.length+1:=by simp only[G_];omega
  rw[deqA,←ih,e,Oh,Nw,RW]
  have e2:((x::xs).length == (y::ys).length)=(xs.length == ys.length):=by
   cases h:xs.length == ys.length
   ·simp at h ⊢;omega
   ·simp at h ⊢;omega
  rw[e2,Bool.and_assoc];rfl
def LM{xs:List D}(h:xs.length≠ys.length):deqA xs ys=false:=by
 rw[←tU];have:(xs.length == ys.length)=false:=by simpa using h
 rw[this,Bool.and_false]
section
variable{X:Cx}{H:Hp}{s:e_}
def IsA.getU{K:FAa}{us:List b_}(h:IsA K I ds xs)(r:Vals xs us)(hj:j < us.toArray.size):∃v,RelV v us.toArray[j]/\Is K I (ds.getD j .non) v:=by
 have h1:=h.length;have h2:=r.length;have aP:j < us.length:=by simpa using hj
 have hd:ds[j]?=some ds[j]:=i_ ⋯;obtain⟨v,e1,e2⟩:=h.get hd;obtain⟨u,e3,e4⟩:=r.get e1
 have e5:us.toArray[j]=u:=by
  rw[i_ aP] at e3;simpa using e3
 refine⟨v,by rw[e5];exact e4,?_⟩;rw[C_,hd];exact e2
def rdL{a:h_}{K:FAa}(h:RdK K H a xs):SqL K H a xs:=h.sq
mutual
theorem rc(I:Inv X aa B H s):∀{a b:D}{v:V},Is X.K H a v->Is X.K H b v->a=b
 | .non,b,v,h,h'=>by
  have e:=qa h;subst e;cases b<;>first | rfl | (rw[Is] at h';obtain⟨_,_,e,_⟩:=h';cases e) | (rw[Is] at h';cases h')
 | .bl x,b,v,h,h'=>by
  have e:=pA h;subst e;cases b<;>first | (rw[Is] at h';obtain⟨_,_,e,_⟩:=h';cases e) | (rw[Is] at h';cases h';rfl) | (rw[Is] at h';cases h')
 | .int x,b,v,h,h'=>by
  have e:=oM h;subst e;cases b<;>first | (rw[Is] at h';obtain⟨_,_,e,_⟩:=h';cases e) | (rw[Is] at h';cases h';rfl) | (rw[Is] at h';cases h')
 | .str x,b,v,h,h'=>by
  have e:=pO h;subst e;cases b<;>first | (rw[Is] at h';obtain⟨_,_,e,_⟩:=h';cases e) | (rw[Is] at h';cases h';rfl) | (rw[Is] at h';cases h')
 | .tup ds,b,v,h,h'=>by
  obtain⟨p,xs,rfl,h1,h2⟩:=o7 h;cases b with
  | tup es =>
   obtain⟨p',dy,e,h3,h4⟩:=o7 h';cases e;have:=I.tuple_inj h1 h3;subst this;rw[wv I h2 h4]
  | lst es =>
   obtain⟨p',dy,e,h3,h4⟩:=pz h';cases e;obtain⟨i1,_,t1,_⟩:=I.tuple h1;obtain⟨i2,_,t2,_⟩:=I.list (rdL h3);exact absurd rfl (ne_of_list_tuple t2.isList t1)
  | _=>rw[Is] at h';cases h'
 | .lst ds,b,v,h,h'=>by
  obtain⟨p,xs,rfl,h1,h2⟩:=pz h;cases b with
  | lst es =>
   obtain⟨p',dy,e,h3,h4⟩:=pz h';cases e;have:=I.list_inj (rdL h1) (rdL h3);subst this;rw[wv I h2 h4]
  | tup es =>
   obtain⟨p',dy,e,h3,h4⟩:=o7 h';cases e;obtain⟨i1,_,t1,_⟩:=I.tuple h3;obtain⟨i2,_,t2,_⟩:=I.list (rdL h1);exact absurd rfl (ne_of_list_tuple t2.isList t1)
  | _=>rw[Is] at h';cases h'
theorem wv(I:Inv X aa B H s):∀{a b:List D}{v:List V},IsA X.K H a v->IsA X.K H b v->a=b
 | [],b,v,h,h'=>by
  have e:=h.nil_inv;subst e;cases b with
  | nil=>rfl
  | cons d r=>obtain⟨_,_,e,_⟩:=h'.cons_inv;cases e
 | d::ds,b,v,h,h'=>by
  obtain⟨x,r,rfl,h1,h2⟩:=h.cons_inv;cases b with
  | nil=>have:=h'.nil_inv;cases this
  | cons e es =>
   obtain⟨x',r',e',h3,h4⟩:=h'.cons_inv;cases e';rw[rc I h1 h3,wv I h2 h4]
end
open PySem.SeqAt in
def Bt(I:Inv X aa B H s){A:Mn}(hu:A.units < Ni){a b:D}{x:V}{v:b_}(ha:Is X.K H a x)(hb:Is X.K H b y)(ru:RelV x u)(rv:RelV y v)(ht:∀xs ys,a=.tup xs->b=.tup ys->RcAt A s u v (deq a b)/\TZ A s u v (deq a b)/\S_ A s u v (!deq a b))(hl:∀xs ys,a=.lst xs->b=.lst ys->RcAt A s u v (deq a b)/\TZ A s u v (deq a b)/\S_ A s u v (!deq a b)):RcAt A s u v (deq a b)/\TZ A s u v (deq a b)/\S_ A s u v (!deq a b):=by
 cases a with
 | non =>
  have e:=qa ha;subst e;cases ru;cases b with
  | non=>have e:=qa hb;subst e;cases rv;rw[deq];exact⟨.none_none,.same _,.none_none⟩
  | bl j=>have e:=pA hb;subst e;cases rv;rw[deq]<;>first | exact⟨.none_bool _,.none_bool _,.none_bool _⟩ | (intros;contradiction)
  | int j=>have e:=oM hb;subst e;obtain⟨t,rfl⟩:=rv;rw[deq]<;>first | exact⟨.none_int _ _,.none_int _ _,.none_int _ _⟩ | (intros;contradiction)
  | str j=>have e:=pO hb;subst e;obtain⟨t,rfl⟩:=rv;rw[deq]<;>first | exact⟨.none_str _ _,.none_str _ _,.none_str _ _⟩ | (intros;contradiction)
  | tup j =>
   obtain⟨p,xs,rfl,h1,h2⟩:=o7 hb;cases rv;obtain⟨ab,_,t,_⟩:=I.tuple h1;rw[deq]<;>first | exact⟨.none_tuple t hu,.none_tuple t hu,.none_tuple t hu⟩ | (intros;contradiction)
  | lst j =>
   tm_at"h";rw[deq]<;>first | exact⟨.none_list t hu,.none_list t hu,.none_list t hu⟩ | (intros;contradiction)
 | bl i =>
  have e:=pA ha;subst e;cases ru;cases b with
  | non=>have e:=qa hb;subst e;cases rv;rw[deq]<;>first | exact⟨.bool_none _,.bool_none _,.bool_none _⟩ | (intros;contradiction)
  | bl j=>have e:=pA hb;subst e;cases rv;rw[deq];exact⟨.bool_bool _ _,.bool_bool _ _,.bool_bool _ _⟩
  | int j=>have e:=oM hb;subst e;obtain⟨t,rfl⟩:=rv;rw[deq];exact⟨.bool_int _ _ _,.bool_int _ _ _,.bool_int _ _ _⟩
  | str j=>have e:=pO hb;subst e;obtain⟨t,rfl⟩:=rv;rw[deq]<;>first | exact⟨.bool_str _ _ _,.bool_str _ _ _,.bool_str _ _ _⟩ | (intros;contradiction)
  | tup j =>
   obtain⟨p,xs,rfl,h1,h2⟩:=o7 hb;cases rv;obtain⟨ab,_,t,_⟩:=I.tuple h1;rw[deq]<;>first | exact⟨.bool_tuple _ t hu,.bool_tuple _ t hu,.bool_tuple _ t hu⟩ | (intros;contradiction)
  | lst j =>
   tm_at"h";rw[deq]<;>first | exact⟨.bool_list _ t hu,.bool_list _ t hu,.bool_list _ t hu⟩ | (intros;contradiction)
 | int i =>
  have e:=oM ha;subst e;obtain⟨t0,rfl⟩:=ru;cases b with
  | non=>have e:=qa hb;subst e;cases rv;rw[deq]<;>first | exact⟨.int_none _ _,.int_none _ _,.int_none _ _⟩ | (intros;contradiction)
  | bl j=>have e:=pA hb;subst e;cases rv;rw[deq];exact⟨.int_bool _ _ _,.int_bool _ _ _,.int_bool _ _ _⟩
  | int j=>have e:=oM hb;subst e;obtain⟨t,rfl⟩:=rv;rw[deq];exact⟨.int_int _ _ _ _,.int_int _ _ _ _,.int_int _ _ _ _⟩
  | str j=>have e:=pO hb;subst e;obtain⟨t,rfl⟩:=rv;rw[deq]<;>first | exact⟨.int_str _ _ _ _,.int_str _ _ _ _,.int_str _ _ _ _⟩ | (intros;contradiction)
  | tup j =>
   obtain⟨p,xs,rfl,h1,h2⟩:=o7 hb;cases rv;obtain⟨ab,_,t,_⟩:=I.tuple h1;rw[deq]<;>first | exact⟨.int_tuple _ _ t hu,.int_tuple _ _ t hu,.int_tuple _ _ t hu⟩ | (intros;contradiction)
  | lst j =>
   tm_at"h";rw[deq]<;>first | exact⟨.int_list _ _ t hu,.int_list _ _ t hu,.int_list _ _ t hu⟩ | (intros;contradiction)
 | str i =>
  have e:=pO ha;subst e;obtain⟨t0,rfl⟩:=ru;cases b with
  | non=>have e:=qa hb;subst e;cases rv;rw[deq]<;>first | exact⟨.str_none _ _,.str_none _ _,.str_none _ _⟩ | (intros;contradiction)
  | bl j=>have e:=pA hb;subst e;cases rv;rw[deq]<;>first | exact⟨.str_bool _ _ _,.str_bool _ _ _,.str_bool _ _ _⟩ | (intros;contradiction)
  | int j=>have e:=oM hb;subst e;obtain⟨t,rfl⟩:=rv;rw[deq]<;>first | exact⟨.str_int _ _ _ _,.str_int _ _ _ _,.str_int _ _ _ _⟩ | (intros;contradiction)
  | str j=>have e:=pO hb;subst e;obtain⟨t,rfl⟩:=rv;rw[deq];exact⟨.str_str _ _ _ _,.str_str _ _ _ _,.str_str _ _ _ _⟩
  | tup j =>
   obtain⟨p,xs,rfl,h1,h2⟩:=o7 hb;cases rv;obtain⟨ab,_,t,_⟩:=I.tuple h1;rw[deq]<;>first | exact⟨.str_tuple _ _ t hu,.str_tuple _ _ t hu,.str_tuple _ _ t hu⟩ | (intros;contradiction)
  | lst j =>
   tm_at"h";rw[deq]<;>first | exact⟨.str_list _ _ t hu,.str_list _ _ t hu,.str_list _ _ t hu⟩ | (intros;contradiction)
 | tup i =>
  obtain⟨q,ys,rfl,g1,g2⟩:=o7 ha;cases ru;obtain⟨aQ,_,t',_⟩:=I.tuple g1;cases b with
  | non=>have e:=qa hb;subst e;cases rv;rw[deq]<;>first | exact⟨.tuple_none t' hu,.tuple_none t' hu,.tuple_none t' hu⟩ | (intros;contradiction)
  | bl j=>have e:=pA hb;subst e;cases rv;rw[deq]<;>first | exact⟨.tuple_bool _ t' hu,.tuple_bool _ t' hu,.tuple_bool _ t' hu⟩ | (intros;contradiction)
  | int j=>have e:=oM hb;subst e;obtain⟨t,rfl⟩:=rv;rw[deq]<;>first | exact⟨.tuple_int _ _ t' hu,.tuple_int _ _ t' hu,.tuple_int _ _ t' hu⟩ | (intros;contradiction)
  | str j=>have e:=pO hb;subst e;obtain⟨t,rfl⟩:=rv;rw[deq]<;>first | exact⟨.tuple_str _ _ t' hu,.tuple_str _ _ t' hu,.tuple_str _ _ t' hu⟩ | (intros;contradiction)
  | tup j=>exact ht _ _ rfl rfl
  | lst j =>
   tm_at"h";rw[deq]<;>first | exact⟨.tuple_list t' t hu,.tuple_list t' t hu,.tuple_list t' t hu⟩ | (intros;contradiction)
 | lst i =>
  obtain⟨q,ys,rfl,g1,g2⟩:=pz ha;cases ru;obtain⟨aQ,_,t',_⟩:=I.list (rdL g1);have t':=t'.isList;cases b with
  | non=>have e:=qa hb;subst e;cases rv;rw[deq]<;>first | exact⟨.list_none t' hu,.list_none t' hu,.list_none t' hu⟩ | (intros;contradiction)
  | bl j=>have e:=pA hb;subst e;cases rv;rw[deq]<;>first | exact⟨.list_bool _ t' hu,.list_bool _ t' hu,.list_bool _ t' hu⟩ | (intros;contradiction)
  | int j=>have e:=oM hb;subst e;obtain⟨t,rfl⟩:=rv;rw[deq]<;>first | exact⟨.list_int _ _ t' hu,.list_int _ _ t' hu,.list_int _ _ t' hu⟩ | (intros;contradiction)
  | str j=>have e:=pO hb;subst e;obtain⟨t,rfl⟩:=rv;rw[deq]<;>first | exact⟨.list_str _ _ t' hu,.list_str _ _ t' hu,.list_str _ _ t' hu⟩ | (intros;contradiction)
  | lst j=>exact hl _ _ rfl rfl
  | tup j =>
   obtain⟨p,xs,rfl,h1,h2⟩:=o7 hb;cases rv;obtain⟨ab,_,t,_⟩:=I.tuple h1;rw[deq]<;>first | exact⟨.list_tuple t' t hu,.list_tuple t' t hu,.list_tuple t' t hu⟩ | (intros;contradiction)
open PySem.SeqAt in
def qU(I:Inv X aa B H s):∀(n:Nat) (A:Mn),A.units+n < Ni->∀(a b:D) (x y:V) (u v:b_),dep a<=n\/dep b<=n->Is X.K H a x->Is X.K H b y->RelV x u->RelV y v->RcAt A s u v (deq a b)/\TZ A s u v (deq a b)/\S_ A s u v (!deq a b):=by
 intro n
 induction n with
 | zero =>
  intro A hu a b x y u v hd ha hb ru rv;refine Bt I ⋯ ha hb ru rv (λxs ys e1 e2=>?_) (λxs ys e1 e2=>?_)<;>(subst e1;subst e2;rw[dep,dep] at hd;omega)
 | succ n ih =>
  intro A hu a b x y u v hd ha hb ru rv;have dz:A.in1.units+n < Ni:=by show A.units+1+n < Ni;omega
  refine Bt I ⋯ ha hb ru rv (λds es e1 e2=>?_) (λds es e1 e2=>?_)
  ·subst e1;subst e2;obtain⟨p,xs,rfl,h1,h2⟩:=o7 ha;obtain⟨q,ys,rfl,h3,h4⟩:=o7 hb;cases ru;cases rv;obtain⟨ab,r1,t1,_⟩:=I.tuple h1;obtain⟨aQ,r2,t2,_⟩:=I.tuple h3;have l1:ab.toArray.size=ds.length:=by rw[v_,←r1.length,h2.length]
   have l2:aQ.toArray.size=es.length:=by rw[v_,←r2.length,h4.length]
   have hk:∀j (g1:j < ab.toArray.size) (g2:j < aQ.toArray.size),TZ A.in1 s ab.toArray[j] aQ.toArray[j] (deq (ds.getD j .non) (es.getD j .non)):=λj g1 g2=>by
    obtain⟨v1,q1,q2⟩:=h2.getU r1 g1;obtain⟨v2,q3,q4⟩:=h4.getU r2 g2;refine(ih A.in1 dz _ _ _ _ _ _ ?_ q2 q4 q1 q3).2.1
    have m1:ds.getD j .non∈ds:=by
     rw[C_,i_ ⋯];exact Nf _
    have m2:es.getD j .non∈es:=by
     rw[C_,i_ ⋯];exact Nf _
    have k1:=pV m1;have k2:=pV m2;rw[dep,dep] at hd;omega
   have re:((MO (min ab.toArray.size aQ.toArray.size)).all (λj=>deq (ds.getD j .non) (es.getD j .non))&&ab.toArray.size == aQ.toArray.size)=deqA ds es:=by
    rw[l1,l2];exact tU ds es
   have R1:=RcAt.tuples (A:=A) t1 t2 ⋯ hk;have R3:=S_.tuples (A:=A) t1 t2 ⋯ hk;rw[re] at R1 R3;have ed:deq (.tup ds) (.tup es)=deqA ds es:=by rw[deq]
   rw[ed];refine⟨R1,?_,R3⟩;by_cases hpq:p=q
   ·subst hpq;have:=rc I ha hb;cases this;rw[sv];exact .same _
   ·exact .of_refs hpq R1
  ·subst e1;subst e2;obtain⟨p,xs,rfl,h1,h2⟩:=pz ha;obtain⟨q,ys,rfl,h3,h4⟩:=pz hb;cases ru;cases rv;obtain⟨ab,r1,t1,_⟩:=I.list (rdL h1);obtain⟨aQ,r2,t2,_⟩:=I.list (rdL h3);have t1:=t1.isList;have t2:=t2.isList;have l1:ab.toArray.size=ds.length:=by rw[v_,←r1.length,h2.length]
   have l2:aQ.toArray.size=es.length:=by rw[v_,←r2.length,h4.length]
   have ed:deq (.lst ds) (.lst es)=deqA ds es:=by rw[deq]
   rw[ed]
   have fin:RcAt A s (.ref p) (.ref q) (deqA ds es)/\S_ A s (.ref p) (.ref q) (!deqA ds es):=by
    by_cases hl:ds.length=es.length
    ·have hk:∀j (g1:j < ab.toArray.size) (g2:j < aQ.toArray.size),TZ A.in1 s ab.toArray[j] aQ.toArray[j] (deq (ds.getD j .non) (es.getD j .non)):=λj g1 g2=>by
      obtain⟨v1,q1,q2⟩:=h2.getU r1 g1;obtain⟨v2,q3,q4⟩:=h4.getU r2 g2;refine(ih A.in1 dz _ _ _ _ _ _ ?_ q2 q4 q1 q3).2.1
      have m1:ds.getD j .non∈ds:=by
       rw[C_,i_ ⋯];exact Nf _
      have m2:es.getD j .non∈es:=by
       rw[C_,i_ ⋯];exact Nf _
      have k1:=pV m1;have k2:=pV m2;rw[dep,dep] at hd;omega
     have re:(MO ab.toArray.size).all (λj=>deq (ds.getD j .non) (es.getD j .non))=deqA ds es:=by
      rw[←tU ds es,l1,hl,Nat.min_self,beq_self_eq_true,Bool.and_true]
     have R1:=RcAt.lists (A:=A) t1 t2 ⋯ ⋯ hk;have R3:=S_.lists (A:=A) t1 t2 ⋯ ⋯ hk;rw[re] at R1 R3;exact⟨R1,R3⟩
    ·rw[LM hl];have cn:(ab.toArray.size != aQ.toArray.size)=true:=by rw[l1,l2];simpa using hl
     exact⟨.lists_lengths t1 t2 cn ⋯,.lists_lengths t1 t2 cn ⋯⟩
   refine⟨fin.1,?_,fin.2⟩;by_cases hpq:p=q
   ·subst hpq;have:=rc I ha hb;cases this;rw[sv];exact .same _
   ·exact .of_refs hpq fin.1
def rEqD(K:FAa)(neg:Bool):R2:=λx y H Q=>∃a b,Is K H a x/\Is K H b y/\(dep a<=100\/dep b<=100)/\Q (.bl (if neg then !deq a b else deq a b)) H
def Jo(hu:X.A.units+100 < Ni):OpR X (MX .Eq) (rEqD X.K false):=by
 tm_at"g";obtain⟨a,b,h1,h2,h3,q⟩:=h;exact(qU I 100 X.A hu a b x y v u h3 h1 h2 rx ry).1 _ _ _ _ ⟨.bl (deq a b),H,I,rfl,q⟩
def K3(hu:X.A.units+100 < Ni):OpR X (MX .NotEq) (rEqD X.K true):=by
 tm_at"g";obtain⟨a,b,h1,h2,h3,q⟩:=h;exact(qU I 100 X.A hu a b x y v u h3 h1 h2 rx ry).2.2 _ _ _ _ ⟨.bl (!deq a b),H,I,rfl,q⟩
def rInD(K:FAa)(neg:Bool):R2:=λx y H Q=>∃a ds,Is K H a x/\(Is K H (.lst ds) y\/Is K H (.tup ds) y)/\(dep a<=99)/\Q (.bl (if neg then !ds.any (λd=>deq d a) else ds.any λd=>deq d a)) H
def Cd{K:FAa}{us:List b_}{f:D->Bool}{e:b_->Bool}(h:IsA K H ds xs)(r:Vals xs us)(hf:∀d v u,d∈ds->Is K H d v->RelV v u->e u=f d):us.any e=ds.any f:=by
 induction ds generalizing xs us with
 | nil=>have:=h.nil_inv;subst this;cases r;rfl
 | cons d ds ih =>
  obtain⟨x,xr,rfl,h1,h2⟩:=h.cons_inv;cases r with
  | cons r1 r2 =>
   rw[OL,OL,hf d _ _ p_ h1 r1,ih h2 r2 λd v u hd=>hf d v u (n_ _ hd)]
def y6(hu:X.A.units+100 < Ni){aa:List (h_×Obj)}{B:L2.St}{H:Hp}{s:e_}{x:V}{v:b_}{Q:VK}(I:Inv X aa B H s)(rx:RelV x v)(ry:RelV y u)(h:rInD X.K neg x y H Q):
  ∃(ab:Array b_) (e:b_->Bool) (l:h_),u=.ref l/\(s.heap.IsList l ab\/s.heap.IsTuple l ab)/\(∀z,z∈ab->PySem.SeqAt.EqAt X.A.in1 s z v (e z))/\Q (.bl (if neg then !ab.any e else ab.any e)) H:=by
 obtain⟨a,ds,h1,h2,h3,q⟩:=h;have dz:X.A.in1.units+99 < Ni:=by show X.A.units+1+99 < Ni;omega
 -- every item has ab data: e reads it gY
 have key:∀(xs:List V) (ab:List b_),IsA X.K H ds xs->Vals xs ab->∃e:b_->Bool,(∀z,z∈ab.toArray->PySem.SeqAt.EqAt X.A.in1 s z v (e z))/\ab.toArray.any e=ds.any λd=>deq d a:=by
  intro xs ab ha r
  have ex:∀z:b_,∃b:Bool,∀d w,d∈ds->Is X.K H d w->RelV w z->b=deq d a:=λz=>by
   by_cases hz:∃d w,d∈ds/\Is X.K H d w/\RelV w z
   ·obtain⟨d,w,hd,hi,hr⟩:=hz;refine⟨deq d a,λd' w' bp aL gZ=>?_⟩;have:=RelV.inj hr gZ;subst this;rw[rc I hi aL]
   ·exact⟨false,λd w hd hi hr=>absurd ⟨d,w,hd,hi,hr⟩ hz⟩
  refine⟨λz=>(ex z).choose,λz hz=>?_,?_⟩
  ·have fS:z∈ab:=by simpa using hz
   obtain⟨j,hj,ej⟩:=List.mem_iff_getElem.mp fS;obtain⟨w,q1,q2⟩:=ha.getU r (j:=j) (by simpa using hj)
   have jg:RelV w z:=by
    have:ab.toArray[j]'(by simpa using hj)=z:=by simpa using ej
    rw[←this];exact q1
   have hm:ds.getD j .non∈ds:=by
    have l1:=ha.length;have l2:=r.length;rw[C_,i_ ⋯];exact Nf _
   show PySem.SeqAt.EqAt X.A.in1 s z v (ex z).choose;rw[(ex z).choose_spec _ w hm q2 jg];exact(qU I 99 X.A.in1 dz _ a w x z v (.inr h3) q2 h1 jg rx).2.1
  ·have:ab.toArray.any (λz=>(ex z).choose)=ab.any (λz=>(ex z).choose):=by simp
   rw[this];exact Cd ha r λd w z hd hi hr=>(ex z).choose_spec d w hd hi hr
 rcases h2 with h2 | h2
 ·obtain⟨l,xs,rfl,g1,g2⟩:=pz h2;cases ry;obtain⟨ab,r,t,_⟩:=I.list (rdL g1);obtain⟨e,k1,k2⟩:=key xs ab g2 r;exact⟨ab.toArray,e,l,rfl,.inl t.isList,k1,by rw[k2];exact q⟩
 ·obtain⟨l,xs,rfl,g1,g2⟩:=o7 h2;cases ry;obtain⟨ab,r,t,_⟩:=I.tuple g1;obtain⟨e,k1,k2⟩:=key xs ab g2 r;exact⟨ab.toArray,e,l,rfl,.inr t,k1,by rw[k2];exact q⟩
def DQ(hu:X.A.units+100 < Ni):OpR X (MX .In) (rInD X.K false):=by
 tm_at"g";obtain⟨ab,e,l,rfl,hl,he,q⟩:=y6 hu I rx ry h
 rcases hl with hl | hl
 ·exact PySem.SeqAt.in_listAt e hl he ⟨.bl (ab.any e),H,I,rfl,q⟩
 ·exact PySem.SeqAt.in_tupleAt e hl he ⟨.bl (ab.any e),H,I,rfl,q⟩
def Hm(hu:X.A.units+100 < Ni):OpR X (MX .NotIn) (rInD X.K true):=by
 tm_at"g";obtain⟨ab,e,l,rfl,hl,he,q⟩:=y6 hu I rx ry h
 rcases hl with hl | hl
 ·exact PySem.SeqAt.notIn_listAt e hl he ⟨.bl (!ab.any e),H,I,rfl,q⟩
 ·exact PySem.SeqAt.notIn_tupleAt e hl he ⟨.bl (!ab.any e),H,I,rfl,q⟩
end
end DL
set_option exponentiation.threshold 2000
namespace DL
open PySem PySem.Spec PyProof.Rows L2
section
variable {X:Cx}{a b e:y_}
def CDivW(i j:Int):Prop:=0 < j/\j < 2 ^ 200
def Gh:OpR X (NG .FloorDiv) (rI CDivW λi j=>.int (i / j)):=opI λi j _ _ _ _ _ hc q=>by
 have h1:(0:Int) < j:=hc.1
 have h2:j.natAbs < 2 ^ 200:=by
  have:=hc.2;omega
 have h4:j.natAbs.log2 < 9000:=by
  have h5:j.natAbs.log2 < 200:=(Nat.log2_lt ⋯).mpr h2;omega
 refine floordiv_int ⋯ ?_ (.inl (PyProof.noPylong_of_log2 h4));rw[Int.fdiv_eq_ediv_of_nonneg _ (Int.le_of_lt h1)];exact q
def hu100{A:Mn}{k:Nat}(hr:Room k A):A.units+100 < Ni:=by have:=hr.un;omega
def rCatTT(K:FAa):R2:=λx y H Q=>∃a b xs ys,x=.ref a/\y=.ref b/\SqT K H a xs/\SqT K H b ys/\xs.length+ys.length<=B_ ∧
 (xs=[]->Q (.ref b) H)/\(xs≠[]->ys=[]->Q (.ref a) H)/\(xs≠[]->ys≠[]->∀p,H p=none->Q (.ref p) (upd H p (.tup (xs++ys))))
def Es:OpR X (NG .Add) (rCatTT X.K):=by
 tm_at"g";obtain⟨a,b,xs,ys,rfl,rfl,ha,hb,hz,q0,q1,q2⟩:=h;cases rx;cases ry;obtain⟨ab,r1,p1,_⟩:=I.tuple ha;obtain⟨bn,r2,p2,_⟩:=I.tuple hb;by_cases hx:xs=[]
 ·subst hx;cases r1;obtain⟨⟨cls,dd,data,sl⟩,ho,hc,n,hd⟩:=id p1;obtain⟨⟨i9,fK,data2,fL⟩,dh,fM,n2,fN⟩:=id p2;subst hc hd fM fN
  exact SA ⟨_,ho,rfl⟩ ⟨_,dh,rfl⟩ QZ R_ RC Rs (Q0 _ _)
   (tuple_addW0 a b _ bn.toArray n n2 dd fK sl fL (by simp)) ⟨ho,dh,⟨.ref b,H,I,rfl,q0 rfl⟩⟩
 ·exact FR aa s B H (.ref a) (.ref b) _ _ Q I rfl rfl ⟨a,b,xs,ys,rfl,rfl,ha,hb,hx,hz,q1 hx,q2 hx⟩
def rCatR(K:FAa):R2:=λx y H Q=>∃l b xs zs,x=.ref l/\y=.ref b/\RdK K H l xs/\RdK K H b zs/\xs.length+zs.length<=B_/\∀p,H p=none->Q (.ref p) (upd H p (.lst (xs++zs)))
def GL:OpR X (NG .Add) (rCatR X.K):=by
 tm_at"g";obtain⟨l,b,xs,zs,rfl,rfl,hH,hB,hz,q⟩:=h;cases rx;cases ry;obtain⟨z,ab,n,r,hl,e⟩:=xZ I hH;obtain⟨z2,bn,n2,r2,d8,e2⟩:=xZ I hB;refine PySem.P.add_list e e2 ?_ (by rw[v_,v_];omega);have ea:ab.toArray++bn.toArray=(ab++bn).toArray:=by simp
 rw[ea];exact⟨.ref _,_,I.lnew (t':=s.toks) (r.append r2) (by rw[g_];omega),rfl,q _ I.fresh⟩
end
structure Kd where
 it:Mr->h_->h_->Nat->Prop
 sq:Mr->h_->Array b_->Prop
 nm:String
structure KdOk(k:Kd):Prop where
 itAt:∀{h h':Mr}{i l:h_}{n:Nat},k.it h i l n->(∀o,h.get? i=some o->h'.get? i=some o)->k.it h' i l n
 sqAt:∀{h h':Mr}{l:h_}{xs:Array b_},k.sq h l xs->(∀o,h.get? l=some o->h'.get? l=some o)->k.sq h' l xs
 itLt:∀{h:Mr}{i l:h_}{n:Nat},k.it h i l n->i < h.objs.size
 sqLt:∀{h:Mr}{l:h_}{xs:Array b_},k.sq h l xs->l < h.objs.size
 itObj:∀{h:Mr}{i l:h_}{n:Nat},k.it h i l n->∃o,h.get? i=some o/\∀v,o.data≠.cell v
 iter:∀{prog:E_}{w:Mo}{A:Mn}{E:b_->e_->Prop}{s:e_}{l:h_}{xs:Array b_}{Q:b_->e_->Prop},k.sq s.heap l xs →
  Q (.ref s.heap.objs.size) { s with heap:=s.heap.push { cls:=.type k.nm,data:=.fields #[.ref l,.int 0 0] } }->u_ (t_ prog w) A (Ry (.ref l)) Q E s
 new:∀{h:Mr}{l:h_},k.it (h.push { cls:=.type k.nm,data:=.fields #[.ref l,.int 0 0] }) h.objs.size l 0
 item:∀{prog:E_}{w:Mo}{A:Mn}{E:b_->e_->Prop}{s:e_}{i l:h_}{n:Nat}{xs:Array b_}{x:b_}{Q:b_->e_->Prop},k.it s.heap i l n->k.sq s.heap l xs->xs[n]?=some x →
  (∀h',k.it h' i l (n+1)->Mr.SameBut i s.heap h'->Q x { s with heap:=h' })->u_ (t_ prog w) A (T_ (.ref i)) Q E s
 stop:∀{prog:E_}{w:Mo}{A:Mn}{E:b_->e_->Prop}{s:e_}{i l:h_}{n:Nat}{xs:Array b_}{Q:b_->e_->Prop},A.handled=none->k.it s.heap i l n->k.sq s.heap l xs->xs[n]?=none →
  (∀h' e,Mr.ExtBut i s.heap h'->(∃o,h'.get? e=some o/\o.cls=.type "StopIteration")->E (.ref e) { s with heap:=h' })->u_ (t_ prog w) A (T_ (.ref i)) Q E s
noncomputable def kdL:Kd:=⟨λh i l n=>h.IsListIter i l n,λh l xs=>h.IsList l xs, "list_iterator"⟩
noncomputable def kdT:Kd:=⟨λh i l n=>h.IsTupleIter i l n,λh l xs=>h.IsTuple l xs, "tuple_iterator"⟩
def G7:KdOk kdL where
 itAt:=λh k=>h.at k
 sqAt:=λh k=>h.at k
 itLt:=λh=>by obtain⟨_,e,_⟩:=h;exact Mq e
 sqLt:=λh=>by obtain⟨_,e,_⟩:=h;exact Mq e
 itObj:=λh=>by obtain⟨o,e,_,d⟩:=h;exact⟨o,e,λv z=>by rw[d] at z;cases z⟩
 iter:=λh q=>NX h q
 new:=⟨_,r_ _ rfl,rfl,rfl⟩
 item:=λh1 h2 h3 q=>wpAny_nextOf_list_item h1 h2 h3 q
 stop:=λhh h1 h2 h3 q=>wpAny_nextOf_list_end hh h1 h2 h3 q
section
variable {prog:E_}{w:Mo}{A:Mn}{E:b_->e_->Prop}{s:e_}
def Jz{α:Type}{Q:α->e_->Prop}(hh:A.handled=none)(k:∀(g:Mr) (x:h_),(∀b o,s.heap.get? b=some o->g.get? b=some o)->(∃o,g.get? x=some o/\o.cls=.type "StopIteration")->E (.ref x) { s with heap:=g }):
  u_ (t_ prog w) A (stopIteration (α:=α)) Q E s:=by
 refine a_ (a_ (K_ (a_ (NH (a:=b_.none) (by first | rfl | (simp only[Qh];rfl)) (K_ ?_ (by size_fits)))) (by size_fits)));refine a_ (Sd ?_);rw[hh];exact a_ (d_ (Tq (k _ _ (λb o e=>f_ _ (f_ _ e)) ⟨_,r_ _ rfl,rfl⟩)))
theorem AH{at' tp:h_}{i:Nat}{Q:b_->e_->Prop}(hi:s.heap.IsTupleIter at' tp i)(hT:s.heap.IsTuple tp cells)(one:∀v,cells[i]?=some v->∀g:Mr,g.IsTupleIter at' tp (i+1)->Mr.SameBut at' s.heap g->Q v { s with heap:=g })(non:cells[i]?=none->A.handled=none/\∀(g:Mr) (x:h_),Mr.ExtBut at' s.heap g->(∃o,g.get? x=some o/\o.cls=.type "StopIteration")->E (.ref x) { s with heap:=g }):
  u_ (t_ prog w) A (T_ (.ref at')) Q E s:=by
 have ty:=hi.typeIs;obtain⟨oi,gi,ci,di⟩:=hi;obtain⟨ot,gt,ct,nt,dt⟩:=hT;refine a_ (MU (name:=Qf "__next__") ty Qi (MI Qi ty F.entry_tuple_iterator_next ?_ (F.args_tuple_iterator_next_1 _)));refine a_ (NH (a:=(b_.ref at',[])) rfl ?_);refine a_ (NZ (i:=0) gi di (x:=.ref tp) rfl (wpAny_ite_split (λno=>absurd no q_) λ_=>?_));refine a_ (NZ (i:=1) gi di (x:=.int i 0) rfl (a_ (NA gt dt ?_)));dsimp only;rw[MC];cases hv:cells[i]? with
 | some v =>
  refine a_ (N9 gi di (by simp) (d_ ⟨v,rfl,d_ (one v hv _ ?_ (Mr.SameBut.update ..))⟩));have low:=N_ di;exact⟨_,ML _ gi (Oo (low _)),(O_ ..).trans ci,by rw[low];simp[Qd]⟩
 | none =>
  obtain⟨hh,k⟩:=non hv;refine a_ (Pr (a_ (N9 gi di (by simp) (Jz hh λg x keep is=>k g x (λb o ne e=>keep b o ((Mr.SameBut.update ..).extBut b o ne e)) is))))
end
def Hb:KdOk kdT where
 itAt:=λh k=>by obtain⟨o,e,r⟩:=h;exact⟨o,k o e,r⟩
 sqAt:=λh k=>by obtain⟨o,e,r⟩:=h;exact⟨o,k o e,r⟩
 itLt:=λh=>by obtain⟨_,e,_⟩:=h;exact Mq e
 sqLt:=λh=>by obtain⟨_,e,_⟩:=h;exact Mq e
 itObj:=λh=>by obtain⟨o,e,_,d⟩:=h;exact⟨o,e,λv z=>by rw[d] at z;cases z⟩
 iter:=λh q=>Sj h q
 new:=⟨_,r_ _ rfl,rfl,rfl⟩
 item:=λh1 h2 h3 q=>AH h1 h2 (λv e g=>by rw[h3] at e;cases e;exact q g) λe=>by rw[h3] at e;cases e
 stop:=λhh h1 h2 h3 q=>AH h1 h2 (λv e=>by rw[h3] at e;cases e) λ_=>⟨hh,q⟩
def vv{X:Cx}{H:Hp}{s:e_}{T:h_}{o:HO}(I:Inv X aa B H s)(aN:∀b∈ch,FpOk X aa H b)(k:∀b u,b∉ch->s.heap.get? b=some u->h'.get? b=some u)(hT:s.heap.objs.size<=T)(new:ObjOk X.prog X.w (upd H T o) h' T o):Inv X aa B (upd H T o) { s with heap:=h',toks:=t' }:=by
 have hf:=I.hok.fresh hT;have ne:∀{b u},H b=some u->b≠T:=λ{b u} e=>qI e hf
 have bK:∀{b u},H b=some u->b∉ch:=λ{b u} e z=>by have:=(aN b z).1;rw[e] at this;cases this
 refine I.step (g':=s.gens) (d':=s.drawn) (ch:=ch) (λb hb=>⟨(aN b hb).2.2.2.1,(aN b hb).2.1,(aN b hb).2.2.2.2.1,(aN b hb).2.2.2.2.2⟩) (λb u _ _ hc e _=>k b u hc e) (λb u _ _ hc e _=>⟨u.slots,k b u hc e⟩) (λb u hc e n=>?_)
  (λb u hc e=>⟨u,k b u hc e⟩) (λb xs e=>by rw[oI (ne e)];exact e) (λb u v e=>by rw[oI (ne e)];exact e) (λb ps e=>⟨#[],by rw[oI (ne e),e];simp⟩) (λm hm=>?_) (λb u e=>?_) I.bare
 ·have nb:b≠T:=λz=>by have:=Mq e;rw[z] at this;exact absurd (J_ this hT) (NT _)
  rw[oI nb];exact n
 ·obtain⟨ob,es,ep,ho,r⟩:=hm;exact⟨ob,es,ep,k _ ob (λz=>(aN _ z).2.1 rfl) ho,r⟩
 ·by_cases hb:b=T
  ·subst hb;rw[oK] at e;cases e;exact new
  ·rw[oI hb] at e;refine(I.hok b u e).stay (λc v hc q=>k c v ?_ q) (λc q=>by rw[oI (ne q)];exact q) λc xs q=>by rw[oI (ne q)];exact q
   rcases hc with z | z
   ·rw[z];exact bK e
   ·exact bK z
def AQ{X:Cx}{H:Hp}{s:e_}(I:Inv X aa B H s)(aN:∀b∈ch,FpOk X aa H b)(k:∀b u,b∉ch->s.heap.get? b=some u->h'.get? b=some u):Inv X aa B H { s with heap:=h',toks:=t' }:=by
 have bK:∀{b u},H b=some u->b∉ch:=λ{b u} e z=>by have:=(aN b z).1;rw[e] at this;cases this
 refine I.step (g':=s.gens) (d':=s.drawn) (ch:=ch) (λb hb=>⟨(aN b hb).2.2.2.1,(aN b hb).2.1,(aN b hb).2.2.2.2.1,(aN b hb).2.2.2.2.2⟩) (λb u _ _ hc e _=>k b u hc e) (λb u _ _ hc e _=>⟨u.slots,k b u hc e⟩) (λb u hc e n=>n)
  (λb u hc e=>⟨u,k b u hc e⟩) (λb xs e=>e) (λb u v e=>e) (λb ps e=>⟨#[],by rw[e];simp⟩) (λm hm=>?_) (λb u e=>?_) I.bare
 ·obtain⟨ob,es,ep,ho,r⟩:=hm;exact⟨ob,es,ep,k _ ob (λz=>(aN _ z).2.1 rfl) ho,r⟩
 ·refine(I.hok b u e).stay (λc v hc q=>k c v ?_ q) (λc q=>q) λc xs q=>q
  rcases hc with z | z
  ·rw[z];exact bK e
  ·exact bK z
section
variable {X:Cx}{k:Kd}
structure KdRd(K:FAa)(k:Kd)(rd:Hp->h_->List V->Prop):Prop where
 of:∀{X:Cx}{aa:List (h_×Obj)}{B:L2.St}{H:Hp}{s:e_}{a:h_}{xs:List V},X.K=K->Inv X aa B H s->rd H a xs->∃ab:List b_,Vals xs ab/\k.sq s.heap a ab.toArray
 inj:∀{X:Cx}{aa:List (h_×Obj)}{B:L2.St}{H:Hp}{s:e_}{a:h_}{xs ys:List V},X.K=K->Inv X aa B H s->rd H a xs->rd H a ys->xs=ys
def Ka(K:FAa):KdRd K kdL (λH a xs=>SqL K H a xs) where
 of:=λe I h=>by subst e;obtain⟨ab,r,t,_⟩:=I.list h;exact⟨ab,r,t.isList⟩
 inj:=λe I h h'=>by subst e;exact I.list_inj h h'
def Lc(K:FAa):KdRd K kdT (λH a xs=>SqT K H a xs) where
 of:=λe I h=>by subst e;obtain⟨ab,r,t,_⟩:=I.tuple h;exact⟨ab,r,t⟩
 inj:=λe I h h'=>by subst e;exact I.tuple_inj h h'
end
section
variable {c e:y_}
section
variable {k:Kd}
def drawsK(ok:KdOk k){prog:E_}{w:Mo}{A:Mn}(hh:A.handled=none)(it l:h_)(cn:l≠it)(ae:Array b_):Draws prog w A it [it,l] ae.size (λi v=>ae[i]?=some v) (λi h=>k.it h it l i/\k.sq h l ae) where
 live:=λi h st=>by obtain⟨o,e,_⟩:=ok.itObj st.1;exact⟨o,e⟩
 frame:=λi h h' st kk=>⟨ok.itAt st.1 λo e=>kk _ (by simp) o e,ok.sqAt st.2 λo e=>kk _ (by simp) o e⟩
 item:=λi s Q E hi st hQ=>ok.item st.1 st.2 (x:=ae[i]) (by simp[hi]) λh' h1 h2=>hQ _ h' s.toks (by simp[hi]) ⟨h1,ok.sqAt st.2 λo e=>h2.extBut _ _ cn e⟩ h2
 done:=λs Q E st hE=>ok.stop hh st.1 st.2 (by simp) hE
def Fk(ok:KdOk k)(l:h_)(ae:Array b_):
  Uf (NE.«enumerate.__new__» ⟨[.type "enumerate", .ref l],[]⟩) (λ_ R s=>k.sq s.heap l ae ∧
   R (.ok (.ret (.ref (s.heap.push { cls:=.type k.nm,data:=.fields #[.ref l,.int 0 0] }).objs.size)))
    { s with heap:=(s.heap.push { cls:=.type k.nm,data:=.fields #[.ref l,.int 0 0] }).push { cls:=.type "enumerate", data:=.fields #[.none,.bool false,.ref s.heap.objs.size,Qd 0,.none,.none] } }):=
 .of_wp λprog w A R s h=>by
  obtain⟨hp,gn,dw,tk,os⟩:=s;obtain⟨hl,h⟩:=h;have eS:=sub_enumerate;have hL:k.sq (e_.heap ⟨hp,gn,dw,tk,os⟩) l ae:=hl
  wp_walk using ok.iter hL
  refine wpAny_stack_any λframes=>d_ ?_
  split
  next c _ _ _ _ _=>cases c == type "enumerate"<;>(wp_walk using ok.iter hL;exact⟨_,rfl,h⟩)
  next=>wp_walk using ok.iter hL;exact⟨_,rfl,h⟩
end
end
section
variable {prog:E_}{w:Mo}{A:Mn}{E:b_->e_->Prop}{s:e_}{k:Kd}
noncomputable abbrev en1(k:Kd)(h:Mr)(l:h_):Mr:=h.push { cls:=.type k.nm,data:=.fields #[.ref l,.int 0 0] }
abbrev en2(k:Kd)(h:Mr)(l:h_):Mr:=(en1 k h l).push { cls:=.type "enumerate", data:=.fields #[.none,.bool false,.ref h.objs.size,Qd 0,.none,.none] }
theorem Fb(ok:KdOk k){l:h_}{Q:b_->e_->Prop}(hL:k.sq s.heap l ae)(made:∀n g,n=s.heap.objs.size->IsEnum g (n+1) n 0 .none->k.it g n l 0->(∀b o,s.heap.get? b=some o->g.get? b=some o)->Q (.ref (n+1)) { s with heap:=g }):
  u_ (t_ prog w) A (call (type "enumerate") ([l].map b_.ref)) Q E s:=by
 have bV:(en1 k s.heap l).objs.size=s.heap.objs.size+1:=Na ..;have at2:(en2 k s.heap l).get? (en1 k s.heap l).objs.size=some _:=r_ _ rfl;rw[bV] at at2;refine callType_new F.called_enumerate (by decide) (F.typeCall_enumerate_1 _) (F.newCall_enumerate_1 _) (λobj=>F.args_object_init_2 obj _) F.entry_enumerate_new (Fk ok l ae) ⟨hL,?_⟩;have put:Q (.ref (s.heap.objs.size+1)) { s with heap:=en2 k s.heap l }:=made _ _ rfl at2 (ok.itAt ok.new λo e=>f_ _ e) λb o x=>f_ _ (f_ _ x)
 rw[←bV] at put at2;exact⟨⟨_,at2,rfl⟩,put⟩
end
section
variable {X:Cx}{a b e:y_}{k:Kd}
def Ite(rd:Hp->h_->List V->Prop)(l:h_):It:=
 ⟨λi H=>∃xs x,rd H l xs/\xs[i]?=some x,λi H v H'=>∃p x,H p=none/\v=.ref p/\H'=upd H p (.tup [.int i,x])/\(∀xs,rd H l xs->xs[i]?=some x),λi H=>∃xs,rd H l xs/\xs.length<=i⟩
theorem Fi{P:E_}{w:Mo}{K:FAa}{tp:Pos}{rd:Hp->h_->List V->Prop}(ok:KdOk k)(kr:KdRd K k rd){z it l:h_}(g0:z≠it)(cD:l≠it)(kK:z≠l):
  Turn P w K (.Tuple aE x1 tp) (Ite rd l) [z,it] z (λi h=>(∃old,IsEnum h z it i old)/\k.it h it l i) where
 mem:=by simp
 obj:=λi h st b hb=>by
  obtain⟨⟨old,a1⟩,a2⟩:=st;rw[x_,m_] at hb
  rcases hb with rfl | rfl
  ·exact⟨_,a1,λv q=>by cases(show RA _=QX v from q)⟩
  ·exact ok.itObj a2
 keep:=λi h h' st kk=>by
  obtain⟨⟨old,a1⟩,a2⟩:=st;exact⟨⟨old,kk _ (by simp) _ a1⟩,ok.itAt a2 λo e=>kk _ (by simp) o e⟩
 item:=by
  tm_at"e";subst hP hw;obtain⟨⟨old,a1⟩,a2⟩:=st;obtain⟨xs,x,g1,g3⟩:=hg;obtain⟨ab,r1,t1⟩:=kr.of hK I g1;obtain⟨u1,e1,e2⟩:=r1.get g3
  have au:i < ab.toArray.size:=by
   have:=(j_.mp e1).1;simpa using this
  have D:=drawsK ok (prog:=X.prog) (w:=X.w) (A:=X.A.in1) (I.ok.hd hc) it l cD ab.toArray;refine wpAny_pyNext_enum_itemD D a1 ⟨a2,t1⟩ au g0 (by simp[g0,kK]) λy h' tk b0 b1 b2 b3 b4 b5=>?_
  have hy:y=u1:=by
   have cQ:ab.toArray[i]?=some u1:=by simpa using e1
   have jh:ab.toArray[i]?=some y:=b0;rw[cQ] at jh;cases jh;rfl
  subst hy;refine⟨.ref s.heap.objs.size,rfl,wpAny_letOwnedTupleGo_enum b1 λh2 c1 c2=>?_⟩;have eT:z≠s.heap.objs.size:=My (Mq a1);have kL:it≠s.heap.objs.size:=My (ok.itLt a2)
  have kk:∀b u,b∉[z,it]->s.heap.get? b=some u->h2.get? b=some u:=λb u hb e=>by
   simp only[x_,Px,or_false,not_or] at hb;exact c2.extBut _ _ hb.1 (b5 b u hb.1 hb.2 e)
  have pT:=c2.extBut _ _ (MQ eT) b3;have I1:Inv X aa B (upd H s.heap.objs.size (.tup [.int i,x])) { s with heap:=h2,toks:=tk+1 }:=vv (t':=tk+1) I hf kk (s_ _) ⟨by show 2<=B_;rw[MS];decide,[.int i tk,y],.cons ⟨_,rfl⟩ (.cons e2 .nil),⟨_,pT,rfl,_,rfl⟩⟩;have fr:=I.hok.fresh (s_ s.heap.objs.size);refine⟨.ref s.heap.objs.size,_,I1,rfl,⟨s.heap.objs.size,x,fr,rfl,rfl,λzs hz=>by rw[kr.inj hK I hz g1];exact g3⟩,⟨⟨y,c1⟩,ok.itAt b2.1 λo e=>c2.extBut _ _ g0.symm e⟩,λb hb=>?_⟩;have g6:=(hf b hb).1
  have nb:b≠s.heap.objs.size:=by
   rw[x_,m_] at hb
   rcases hb with rfl | rfl
   ·exact eT
   ·exact kL
  rw[oI nb];exact g6
 done:=by
  tm_at"e";subst hP hw;obtain⟨⟨old,a1⟩,a2⟩:=st;obtain⟨xs,g1,g3⟩:=hg;obtain⟨ab,r1,t1⟩:=kr.of hK I g1;have cE:=r1.length;have hT:s.TypeIs (.ref z) "enumerate":=⟨_,a1,rfl⟩;have hx:ab.toArray[i]?=none:=by simp;omega
  refine a_ (OM (MU (name:=Qf "__next__") hT Ru (MI Ru hT F.entry_enumerate_next (a_ (NH (a:=(b_.ref z,[])) rfl (a_ (NZ (i:=2) a1 rfl (x:=.ref it) rfl ?_)))) (F.args_enumerate_next_1 _))));refine a_ (ok.stop (I.ok.hd hc) a2 t1 hx λh' x eU eV=>?_);obtain⟨o,ho,g9⟩:=eV;refine a_ (NO (T:= "StopIteration") (b:=true) ⟨o,ho,g9⟩ Qj ?_);refine d_ ⟨rfl,AQ (t':=s.toks) I hf λb u hb e=>?_⟩;simp only[x_,Px,or_false,not_or] at hb;exact eU b u hb.2 e
 self:=λ_ _ _ _ _ st h=>by obtain⟨⟨old,a1⟩,_⟩:=st;exact SD a1 h
def Gz{rd:Hp->h_->List V->Prop}(ok:KdOk k)(kr:KdRd X.K k rd){tp:Pos}{H:Hp}{s:e_}{R:It->Hp->Prop}{l:h_}(I:Inv X aa B H s)(h1:rd H l xs)(q:R (Ite rd l) H):
  u_ (t_ X.prog X.w) X.A (call (.type "enumerate") [.ref l]) (λv s1=>u_ (t_ X.prog X.w) X.A (Ry v) (PIE X aa B (.Tuple aE x1 tp) R) X.xe s1) X.xe s:=by
 obtain⟨ab,r1,t1⟩:=kr.of rfl I h1;refine Fb ok t1 λn h' hn a1 a4 a6=>SD a1 ?_
 subst hn;have I1:Inv X aa B H { s with heap:=h' }:=I.kept (t':=s.toks) a6;have lt:=ok.sqLt t1;refine⟨s.heap.objs.size+1,[s.heap.objs.size+1,s.heap.objs.size],_,_,H,rfl,I1,Fi ok kr (Nat.succ_ne_self _) (My lt) (O8 (Nz lt)),⟨⟨_,a1⟩,a4⟩,λb hb=>?_,q⟩;rw[x_,m_] at hb;have up:∀n,FpOk X aa H (s.heap.objs.size+n):=λn=>I.fpOk (Pa _ _) (I.hok.fresh (Pa _ _))
 rcases hb with rfl | rfl
 ·exact up 1
 ·exact up 0
theorem wq:∀{bs:List Bool}{us:List b_},Vals (bs.map .bl) us->us=bs.map .bool
 | [],us,h=>by cases h;rfl
 | b::bs,us,h=>by
  cases h with
  | cons r t=>rw[wq t];cases r;rfl
def Fw(bs:List Bool):(MO bs.length).all (λi=>bs.getD i true)=bs.all id:=by
 induction bs with
 | nil=>rfl
 | cons b bs ih =>
  rw[G_,Oh,Nw,RW,Nw]
  congr 1
def KC(bs:List Bool):(MO bs.length).any (λi=>bs.getD i true)=bs.any id:=by
 induction bs with
 | nil=>rfl
 | cons b bs ih =>
  rw[G_,Oh,OL,SE,OL]
  congr 1
def Hr(hc:X.calm=true):CallR X (.builtin "all") (λxs H Q=>∃(p:h_) (bs:List Bool),xs=[.ref p]/\SqL X.K H p (bs.map .bl)/\Q (.bl (bs.all id)) H):=by
 intro aa s B H xs us Q I r h;obtain⟨p,bs,rfl,hq,q⟩:=h;obtain⟨u,rfl,ru⟩:=vals1 r;cases ru;obtain⟨ab,rv,t,hz⟩:=I.list hq;have:=wq rv;subst this;have lt:p < s.heap.objs.size:=by obtain⟨_,e,_⟩:=t.isList;exact Mq e
 refine call_all_walk (NX t.isList ?_);refine⟨s.heap.objs.size,_,_,_,_,_,λi=>bs.getD i true,rfl,Sn (A:=X.A.in1) (I.ok.hd hc) s.heap.objs.size p (My lt) _,⟨⟨_,r_ _ rfl,rfl,rfl⟩,t.isList.push _⟩,?_,?_⟩
 ·intro i v s' Q' E' hv hQ;have bx:(bs.map b_.bool)[i]?=some v:=by simpa using hv
  obtain⟨b,e1,rfl⟩:=getMap bx;have hQ:Q' (bs.getD i true) s':=hQ;rw[C_,e1] at hQ;exact Nc hQ
 ·intro h' tk kk;have e1:(bs.map b_.bool).toArray.size=bs.length:=by simp
  rw[e1,Fw];refine⟨.bl (bs.all id),H,I.kept λb o e=>kk b o (by simp only[m_];exact My (Mq e)) (f_ _ e),rfl,q⟩
def E5(hc:X.calm=true):CallR X (.builtin "any") (λxs H Q=>∃(p:h_) (bs:List Bool),xs=[.ref p]/\SqL X.K H p (bs.map .bl)/\Q (.bl (bs.any id)) H):=by
 intro aa s B H xs us Q I r h;obtain⟨p,bs,rfl,hq,q⟩:=h;obtain⟨u,rfl,ru⟩:=vals1 r;cases ru;obtain⟨ab,rv,t,hz⟩:=I.list hq;have:=wq rv;subst this;have lt:p < s.heap.objs.size:=by obtain⟨_,e,_⟩:=t.isList;exact Mq e
 refine call_any_walk (NX t.isList ?_);refine⟨s.heap.objs.size,_,_,_,_,_,λi=>bs.getD i true,rfl,Sn (A:=X.A.in1) (I.ok.hd hc) s.heap.objs.size p (My lt) _,⟨⟨_,r_ _ rfl,rfl,rfl⟩,t.isList.push _⟩,?_,?_⟩
 ·intro i v s' Q' E' hv hQ;have bx:(bs.map b_.bool)[i]?=some v:=by simpa using hv
  obtain⟨b,e1,rfl⟩:=getMap bx;have hQ:Q' (bs.getD i true) s':=hQ;rw[C_,e1] at hQ;exact Nc hQ
 ·intro h' tk kk;have e1:(bs.map b_.bool).toArray.size=bs.length:=by simp
  rw[e1,KC];refine⟨.bl (bs.any id),H,I.kept λb o e=>kk b o (by simp only[m_];exact My (Mq e)) (f_ _ e),rfl,q⟩
end
def Ct{P:E_}{w:Mo}{K:FAa}{mg mb:Str->Option b_}{CX:CXT}{k:Nat}{a:h_}{x:Str}(KX:K.In am.heap)(bu:am.heap.Ns MR mg)(hb:am.heap.Ns Rf mb)(kM:∀x:Str,x ≠ "__name__"->mb x=NW x)(ji:am.heap.NoLimit)(hg:am.gens=#[])(ha:am.heap.get? a=some { cls:=.type "list", data:=.seq vs.toArray })(hi:Tt vs ns)(hl:ns.length<=B_)(hr:Room k RU)(F:∀base:Mr,K.In base->base.Ns MR mg->FnOk P w K mg base CX k fa fd [x] sp)(hU:∀(s:e_) (u:b_),Sz s fd ⟨[u],[]⟩ [(x,u)])(cN:∀H:Hp,Only H->RdK K H a (ns.map V.int)->sp [.ref a] H (λv _=>v=.bl true) λ_ _ _=>False)(hV:∀H e s',CX [] H am (λ_ _ _=>False) e s'->False):
  OB (t_ P w) RU (.call (.ref fa) ⟨[.ref a],[]⟩) (λr s'=>r=.ok (.ret (.bool true))/\OldK am.heap s'.heap/\s'.os=am.os/\Qy s'.gens) am:=by
 have rv:=zV hi;have jj:=hi.length
 -- from an abstract heap in which nothing but the script may be bL
 have gC:∀H:Hp,Only H->RdK K H a (ns.map V.int)->HOk P w H am.heap->(∀b,H b≠none->b=a)->(H a≠none->K.lookup a=none) →
   OB (t_ P w) RU (.call (.ref fa) ⟨[.ref a],[]⟩) (λr s'=>r=.ok (.ret (.bool true))/\OldK am.heap s'.heap/\s'.os=am.os/\Qy s'.gens) am:=by
  intro H hO hS hok hA hK;have cR:∀{b:h_}{o:Obj},am.heap.get? b=some o->H b=none->(hidT am.heap H).get? b=some o:=λe n=>Kw e n
  have eK:∀{b:h_}{o:Obj}{es:Array P8}{ep:Nat},am.heap.get? b=some o->o.data=.dict es ep->H b=none:=λ{b o es ep} e d=>by
   cases q:H b with
   | none=>rfl
   | some u =>
    have e':b=a:=hA b (by rw[q];simp);subst e';rw[ha] at e;cases e;have d':seq vs.toArray _=Data.dict es ep:=d;cases d'
  have fT:∀{b:h_}{m:Str->Option b_},am.heap.Ns b m->(hidT am.heap H).Ns b m:=λ{b m} ⟨o,es,ep,e,d,r⟩=>⟨o,es,ep,cR e (eK e d),d,r⟩
  have jk:K.In (hidT am.heap H):=λb o e=>cR (KX b o e) (by
   cases q:H b with
   | none=>rfl
   | some u =>
    have e':b=a:=hA b (by rw[q];simp);subst e'
    rw[hK (by rw[q];simp)] at e;cases e)
  have hM:Mod K mg (hidT am.heap H):=⟨jk,fT bu,⟨mb,fT hb,kM⟩,let ⟨mc,h1,h2⟩:=ji;⟨mc,fT h1,h2⟩⟩;have e0:Env0 P w K mg (hidT am.heap H) RU [] am H:=⟨rfl,hM,λb o e=>J5 e,TC (Du _ _),trivial,λb hb=>absurd (show b∈([]:List h_) from hb) (by simp),hok,.of_eq hg⟩;refine Oe ((F _ jk (fT bu)).run RU [] am H ⟨[.ref a],[]⟩ [.ref a] [.ref a] _ _ hr e0 (hU am (.ref a)) (.cons rfl .nil) (cN H hO hS)) λr s' h=>?_
  cases r with
  | error e=>exact(hV H e s' h).elim
  | ok fl =>
   cases fl with
   | next=>exact Ts h
   | brk=>exact Ts h
   | cont=>exact Ts h
   | ret u =>
    obtain⟨v,H',os,bare,un,jl,r',q⟩:=h;have q':v=.bl true:=q;subst q';obtain rfl:u=b_.bool true:=r';refine⟨rfl,OldK.of_keep λb o e=>?_,os,bare⟩;cases q:H b with
    | none=>exact un.keep b o e q (by intro z;exact absurd (show b∈([]:List h_) from z) (by simp)) (by simp)
    | some u =>
     rcases hO b with z | ⟨ob,xs,z⟩
     ·rw[q] at z;cases z
     ·have z2:=un.frzs b ob _ z;obtain⟨e1,_⟩:=hok b _ z;obtain⟨e2,_⟩:=jl b _ z2;rw[e] at e1;cases e1;exact e2
 cases hk:K.lookup a with
 | some o =>
  -- the script is one of the module's own objects
  have e:=KX a o hk;rw[ha] at e;cases e;refine gC (λ_=>none) (λ_=>.inl rfl) (.inr ⟨vs,_,hk,rv,by rw[jj];exact hl⟩) (λb u z=>by have z':(none:Option HO)=some u:=z;cases z') (λb z=>absurd rfl z) λz=>absurd rfl z
 | none =>
  refine gC (λb=>if b=a then some (.frz { cls:=.type "list", data:=.seq vs.toArray } (.lst (ns.map V.int))) else none) (λb=>?_) (.inl (.inr ⟨{ cls:=.type "list", data:=.seq vs.toArray },if_pos rfl⟩)) (λb u z=>?_) (λb z=>?_) λ_=>hk
  ·by_cases hb:b=a
   ·exact .inr ⟨_,_,if_pos hb⟩
   ·exact .inl (if_neg hb)
  ·by_cases hb:b=a
   ·have z':=(if_pos hb).symm.trans z;cases z';subst hb;exact⟨ha,by rw[c_];exact hl,vs,_,rv,ha⟩
   ·have z':=(if_neg hb).symm.trans z;cases z'
  ·by_cases hb:b=a
   ·exact hb
   ·exact absurd (if_neg hb) z
def IE{l:PySem.W.OpenLaw}{k:Nat}{q:E_}{XP:(Str->Option b_)->Mr->Prop}{YP:Mo->Mr->Prop}{d:DefRec}{K:Params->FAa}{CX:Mo->CXT}{sp:Mo->Sp}{x:Str}(hn:l.most=some n)(fJ:n<=B_)(eO:d.params.defaults=[])(hr:Room k RU)(hY:∀(w:Mo) (h:Mr),YP w h->(K w.params).In h)(F:∀(w:Mo) (mg:Str->Option b_) (fa:h_) (h:Mr),(K w.params).In h->h.Ns MR mg->mg d.name=some (.ref fa) →
   ∃fd:RB,(∀(s:e_) (u:b_),Sz s fd ⟨[u],[]⟩ [(x,u)]) ∧
    ∀base:Mr,(K w.params).In base->base.Ns MR mg->FnOk l.prog w (K w.params) mg base (CX w) k fa fd [x] (sp w))(cN:∀(w:Mo) (H:Hp) (a:h_) (ns:List Int),ns.length<=n->Only H->RdK (K w.params) H a (ns.map V.int)->sp w [.ref a] H (λv _=>v=.bl true) λ_ _ _=>False)(hV:∀(w:Mo) (H:Hp) (s:e_) (e:b_) (s':e_),CX w [] H s (λ_ _ _=>False) e s'->False):
  PySem.W.WalkO q bE XP YP l.row.toRowW d [] (λf vs=>PySem.call f vs):=by
 refine Att.GQ hn eO λw s₀ am mg mb fa o pm cd aJ a vs ns G Y ho hd cg gU eP dj au hg=>?_
 have KX:=hY w _ Y;obtain⟨fd,hb,hF⟩:=F w mg fa _ KX G.T.g gU;exact Ct KX G.T.g G.T.b G.T.builtins G.T.nolimit hg eP dj (A_ au fJ) hr hF hb (λH hO hS=>cN w H a ns au hO hS) λH e s'=>hV w H am e s'
inductive Ki where
 | iT | sT | bT | tT | lT
noncomputable def Ki.nm:Ki->String
 | .iT => "int"
 | .sT => "str"
 | .bT => "bool"
 | .tT => "tuple"
 | .lT => "list"
noncomputable def isiB:Ki->D->Bool
 | .iT,.int _=>true
 | .iT,.bl _=>true
 | .sT,.str _=>true
 | .bT,.bl _=>true
 | .tT,.tup _=>true
 | .lT,.lst _=>true
 | _,_=>false
section
variable {X:Cx}
def HR{k:Ki}{h:Mr}{a:h_}{ab:Array b_}{prog:E_}{w:Mo}{A:Mn}{E:b_->e_->Prop}{s:e_}{Q:b_->e_->Prop}(hl:s.heap.IsList a ab)(q:∀t,Q (.bool (isiB k (.lst ds))) { s with toks:=t }):u_ (t_ prog w) A (call (.builtin "isinstance") [.ref a,.type k.nm]) Q E s:=by
 cases k
 ·exact PySem.IsiPair.isList_int hl (λ_ _ z=>z) (q _)
 ·exact PySem.IsiPair.isList_str hl (λ_ _ z=>z) (q _)
 ·exact PySem.IsiPair.isList_bool hl (λ_ _ z=>z) (q _)
 ·exact PySem.IsiPair.isList_tuple hl (λ_ _ z=>z) (q _)
 ·exact PySem.IsiPair.isList_list hl (λ_ _ z=>z) (q _)
def LD{k:Ki}{h:Mr}{a:h_}{ab:Array b_}{prog:E_}{w:Mo}{A:Mn}{E:b_->e_->Prop}{s:e_}{Q:b_->e_->Prop}(hl:s.heap.IsTuple a ab)(q:∀t,Q (.bool (isiB k (.tup ds))) { s with toks:=t }):u_ (t_ prog w) A (call (.builtin "isinstance") [.ref a,.type k.nm]) Q E s:=by
 cases k
 ·exact PySem.IsiPair.isTuple_int hl (λ_ _ z=>z) (q _)
 ·exact PySem.IsiPair.isTuple_str hl (λ_ _ z=>z) (q _)
 ·exact PySem.IsiPair.isTuple_bool hl (λ_ _ z=>z) (q _)
 ·exact PySem.IsiPair.isTuple_tuple hl (λ_ _ z=>z) (q _)
 ·exact PySem.IsiPair.isTuple_list hl (λ_ _ z=>z) (q _)
def CK(k:Ki):CallR X (.builtin "isinstance") (λxs H Q=>∃d x,xs=[x,.ty k.nm]/\Is X.K H d x/\Q (.bl (isiB k d)) H):=by
 intro aa s B H xs us Q I r h;obtain⟨d,x,rfl,hd,q⟩:=h;cases r with
 | cons rx r =>
  cases r with
  | cons rt r =>
   cases r;cases rt;have fin:∀t,EP X aa B Q (.bool (isiB k d)) { s with toks:=t }:=λt=>⟨.bl _,H,I.tok _,rfl,q⟩
   cases d with
   | non =>
    cases(show x=.non from by rw[Is] at hd;exact hd)
    cases rx;cases k
    ·exact PySem.IsiPair.NoneType_int (fin _)
    ·exact PySem.IsiPair.NoneType_str (fin _)
    ·exact PySem.IsiPair.NoneType_bool (fin _)
    ·exact PySem.IsiPair.NoneType_tuple (fin _)
    ·exact PySem.IsiPair.NoneType_list (fin _)
   | bl b =>
    cases pA hd;cases rx;cases k
    ·exact bool_int (fin _)
    ·exact bool_str (fin _)
    ·exact bool_bool (fin _)
    ·exact PySem.IsiPair.bool_tuple (fin _)
    ·exact bool_list (fin _)
   | int i =>
    cases oM hd;obtain⟨t,rfl⟩:=rx;cases k
    ·exact PySem.IsiPair.int_int (fin _)
    ·exact int_str (fin _)
    ·exact int_bool (fin _)
    ·exact int_tuple (fin _)
    ·exact int_list (fin _)
   | str y =>
    cases(show x=.str y from by rw[Is] at hd;exact hd)
    obtain⟨t,rfl⟩:=rx;cases k
    ·exact str_int (fin _)
    ·exact str_str (fin _)
    ·exact str_bool (fin _)
    ·exact str_tuple (fin _)
    ·exact str_list (fin _)
   | tup ds =>
    obtain⟨a,xs,rfl,h1,h2⟩:=o7 hd;cases rx;obtain⟨ab,_,t,_⟩:=I.tuple h1;exact LD (h:=s.heap) t fin
   | lst ds =>
    obtain⟨a,xs,rfl,h1,h2⟩:=pz hd;cases rx;obtain⟨ab,_,t,_⟩:=I.list h1.sq;exact HR (h:=s.heap) t.isList fin
end
end DL
namespace PySem.SeqAt
def RcLtAt(A:Mn)(s:e_)(y x:b_)(b:Bool):Prop:=
 ∀(prog:E_) (w:Mo) (E:b_->e_->Prop) (Q:b_->e_->Prop),Q (.bool b) s->u_ (t_ prog w) A (richCompare .Lt y x) Q E s
noncomputable def ltFrom(e lt:Nat->Bool)(d:Bool):List Nat->Bool
 | []=>d
 | i::r=>if e i then ltFrom e lt d r else lt i
def Lx(u v:h_)(us vs:Array b_)(p q:Nat)(du dv:Option h_)(ku kv:Array (Option b_))(e lt:Nat->Bool):
  Uf (NE.«tuple.__lt__» ⟨[.ref u,.ref v],[]⟩) (λA out s=>(s.heap.get? u=some ⟨.type "tuple", du,.seq us p,ku⟩/\s.heap.get? v=some ⟨.type "tuple", dv,.seq vs q,kv⟩) ∧
    (∀j (h1:j < us.size) (h2:j < vs.size),TZ A.in1 s us[j] vs[j] (e j)/\(e j=false->RcLtAt A.in1 s us[j] vs[j] (lt j)))/\out (.ok (.ret (.bool (ltFrom e lt (decide (us.size < vs.size)) (MO (min us.size vs.size)))))) s):=
 .of_wp λprog w A out s TN=>by
  obtain⟨hp,gn,dw,tk,os⟩:=s;obtain⟨⟨gu,gv⟩,eX,told⟩:=TN;obtain⟨eY,hs⟩:∃eY:Nat->Prop,eY=λi=>out (.ok (.ret (.bool (ltFrom e lt (decide (us.size < vs.size)) ((MO (min us.size vs.size)).drop i))))) ⟨hp,gn,dw,tk,os⟩:=⟨_,rfl⟩
  have gD:=AutoSeq1.sub_tuple_tuple;have len:(us.toList.zip vs.toList).length=min us.size vs.size:=by rw[OW];rfl
  wp_walk using Nj gu,Nj gv,wpAny_forIn_list _ (λleft dr now=>dr.1=none/\now=⟨hp,gn,dw,tk,os⟩/\∃i,left=(us.toList.zip vs.toList).drop i/\eY i) _
  case turn =>
   rintro⟨y,x⟩ left dr now ⟨aD,rfl,i,at',say⟩
   have here:i < min us.size vs.size:=by
    rw[←len];exact Nat.lt_of_not_le λno=>by rw[Oi no] at at';exact List.cons_ne_nil _ _ at'
   have k1:i < us.size:=by omega
   have k2:i < vs.size:=by omega
   have fU:=OI (l:=us.toList.zip vs.toList) (i:=i) (len▸here);rw[←at',List.getElem_zip] at fU;obtain⟨yx,tail⟩:=List.cons.inj fU;obtain⟨rfl,rfl⟩:=Prod.mk.inj yx;rw[hs] at say;have gE:=OI (l:=MO (min us.size vs.size)) (i:=i) (by simpa using here);rw[List.getElem_range] at gE;rw[gE,ltFrom] at say;have two:=eX i k1 k2;refine a_ (two.1 prog w _ _ ?_);cases like:e i with
   | true =>
    rw[like,if_pos rfl] at say
    wp_walk
    exact⟨rfl,rfl,i+1,tail,by rw[hs];exact say⟩
   | false =>
    rw[like,if_neg q_] at say;refine a_ (Pr (a_ (two.2 like prog w _ _ ?_)))
    wp_walk
    exact⟨_,rfl,say⟩
  case fin =>
   rintro⟨dr,_⟩ now ⟨aD,rfl,i,at',say⟩;cases aD
   have cx:min us.size vs.size<=i:=by
    rw[←len];exact List.drop_eq_nil_iff.mp at'.symm
   rw[hs] at say;rw[Oi (by simpa using cx),ltFrom] at say
   wp_walk
   exact⟨_,rfl,by simpa[NE.Tuple.tupleCompareSizes] using say⟩
  case h=>exact⟨rfl,rfl,0,rfl,by rw[hs];exact told⟩
theorem RcLtAt.tuples{A:Mn}{s:e_}{u v:h_}{us vs:Array b_}{e lt:Nat->Bool}(hu:s.heap.IsTuple u us)(hv:s.heap.IsTuple v vs)(room:A.units < Ni)(eX:∀j (h1:j < us.size) (h2:j < vs.size),TZ A.in1 s us[j] vs[j] (e j)/\(e j=false->RcLtAt A.in1 s us[j] vs[j] (lt j))):RcLtAt A s (.ref u) (.ref v) (ltFrom e lt (decide (us.size < vs.size)) (MO (min us.size vs.size))):=by
 obtain⟨⟨_,du,_,ku⟩,gu,rfl,p,rfl⟩:=hu;obtain⟨⟨_,dv,_,kv⟩,gv,rfl,q,rfl⟩:=hv;exact λprog w E Q h=>richCompare_meets_room (op:=.Lt) ⟨_,gu,rfl⟩ ⟨_,gv,rfl⟩ F.slot_tuple_lt F.entry_tuple_lt (F.args_tuple_lt_2 _ _) (Lx u v us vs p q du dv ku kv e lt) ⟨⟨gu,gv⟩,eX,b_.noConfusion,h⟩ room
def RcLtAt.int_int{A:Mn}{s:e_}(a:Int)(t:Tok)(b:Int)(u:Tok):RcLtAt A s (.int a t) (.int b u) (decide (a < b)):=λprog w E Q h=>PyProof.Rows.lt_int h
end PySem.SeqAt
namespace DL
open PySem PySem.Spec PyProof.Rows L2
section
variable{X:Cx}{a b e:y_}
noncomputable def rngV(n:Nat):List V:=(MO n).map λ(k:Nat)=>V.int (0+(k:Int))
theorem vx:∀{xs:List V}{us:List b_},xs.length=us.length->(∀(i:Nat) x u,xs[i]?=some x->us[i]?=some u->RelV x u)->Vals xs us
 | [],[],_,_=>.nil
 | [],_::_,h,_=>by cases h
 | _::_,[],h,_=>by cases h
 | x::xs,u::us,h,k=>.cons (k 0 x u rfl rfl) (vx (Nat.succ.inj h) λi y v e f=>k (i+1) y v e f)
def CM{p p2 bH:Pos}(hc:X.calm=true)(hl:Gl X "list")(dA:X.mg "list"=none)(hg:Gl X "range")(hm:X.mg "range"=none)(ha:PA X [a] ta)(hs:D_ [a] X.env=[(false,MW a X.env)]:=by rfl)(aH:D_ [.Call (.Name "range" p2) [a] [] bH] X.env=[(false,MW (.Call (.Name "range" p2) [a] [] bH) X.env)]:=by rfl):
  PE X (.Call (.Name "list" p) [.Call (.Name "range" p2) [a] [] bH] [] pos) (λB H Q=>ta B H λvs H1=>∃j:Int,vs=[.int j]/\-1000000<=j/\j<=1000000/\∀l,H1 l=none->Q (.ref l) (upd H1 l (.lst (rngV j.toNat)))):=by
 intro aa s B H Q I h;refine T3 (pM I hl dA boot_list (MA ?_ aH rfl));refine OR (T3 (pM I hg hm Tz (MA (thn (ha bH aa s B H _ I h) λus s1 ⟨vs,H1,I1,r1,q1⟩=>?_) hs rfl)));obtain⟨j,rfl,q1,q2,q⟩:=q1;obtain⟨u,rfl,t,rfl⟩:=vals1 r1;refine call_range_1 (O9 ?_);have size:rangeSize 0 j 1=j.toNat:=by rw[rangeSize_one];split<;>omega
 refine call_list_range (I1.ok.hd hc) (IsRange.new ..) (small_one (by decide) (by decide) ⋯ ⋯) size ⋯ λg tk ac c' keep at' ae=>?_
 refine⟨.ref _,_,I1.laid (t':=tk) (λb o e=>keep b o (f_ _ e)) ?_ (o:=.lst (rngV j.toNat)) ⟨?_,ac.toList,c',?_,at'⟩,rfl,q _ ?_⟩
 ·exact O7 (by show _ < (Mr.push _ _).objs.size;rw[Na];exact Nb _)
 ·show(rngV j.toNat).length<=B_;rw[rngV,c_,MD,MS];omega
 ·refine vx (by rw[rngV,c_,MD,MP,ae.1]) λi x u e f=>?_
  rw[PU] at f;obtain⟨t',rfl⟩:=ae.2 i u f;obtain⟨k,e1,rfl⟩:=getMap e;obtain⟨k1,k2⟩:=j_.mp e1;subst k2;exact⟨t',by simp⟩
 ·refine I1.hok.fresh (O7 ?_);rw[Na];exact Nb _
end
section
variable {prog:E_}{w:Mo}{A:Mn}{E:b_->e_->Prop}{s:e_}
def SlotAt(P:Nat->b_->Prop)(bt:Nat->Nat->Bool)(j:Nat)(cells:Array b_):Prop:=match j with
 | 0=>cells=#[]
 | j+1=>∃b,cells=#[b,b]/\P (OD bt j) b
theorem EJ{it S:h_}{wr:List h_}{P:Nat->b_->Prop}{St:Nat->Mr->Prop}{Fit:e_->Prop}{out:TB->e_->Prop}(W:Walks prog w A.in1 it fp wr n P St)(gF:S∉fp)(less:∀s,Fit s->∀i j vi vj,P i vi->P j vj->PySem.SeqAt.RcLtAt A.in1 s vi vj (bt i j))(stay:∀s h' tk,Fit s->(∀b o,b∉wr->b≠S->s.heap.get? b=some o->h'.get? b=some o)->Fit { s with heap:=h',toks:=tk })(eZ:0 < n)(fin:∀v s,P (OD bt (n - 1)) v->Fit s->out (.ok (.ret v)) s):∀(left:Nat) (s:e_) (cells:Array b_) (c j:Nat),j+left=n->St j s.heap->Fit s->SlotAt P bt j cells->s.heap.get? S=some { cls:=.type "list", dict:=none,data:=.seq cells c,slots:=#[] } →
   OB (t_ prog w) A (.builtin "min.loop" ⟨[.ref it,.none,.ref S],[]⟩) out s:=by
 have apart:S∉wr:=λh=>gF (W.sub _ h)
 have dB:∀{g:Mr}{f:Obj->Obj}{b:h_}{o:Obj},b≠S->g.get? b=some o->(g.update S f).get? b=some o:=λne e=>(Mz _ _ (MQ ne)).trans e
 have loop:(toString "min"++toString ".loop":String) = "min.loop":=by decide
 intro left
 induction left with
 | zero =>
  intro s cells c j len st hW dR slot;obtain⟨m,rfl⟩:∃m,j=m+1:=⟨j - 1,⋯⟩;obtain⟨b,rfl,dS⟩:=dR;refine MN F.entry_min_loop ?_;refine a_ (m:=seqItems? (.ref S)) (NA slot rfl (a_ (m:=tryCatch (Qc (.ref it)) _) (RF (W.done s _ _ (len▸st) λg tk kk=>?_))));refine a_ (m:=Tc S λ_=>#[]) (NL (kk S _ apart slot) rfl (a_ (Py (d_ (fin b _ (by rw[←len];exact dS) (stay s _ tk hW λx o n1 n2 e=>dB n2 (kk x o n1 e)))))))
 | succ left ih =>
  intro s cells c j len st hW dR slot;refine MN F.entry_min_loop ?_;rw[NF OE _];refine a_ (m:=seqItems? (.ref S)) (NA slot rfl (a_ (m:=tryCatch (Qc (.ref it)) _) (RF (W.item j s _ _ ⋯ st λv g tk hX fV kk=>?_))));have bW:=kk S _ apart slot;have fb:=stay s g tk hW λx o n1 _ e=>kk x o n1 e
  have next:∀(f:Obj->Obj) (bJ:Array b_) (c':Nat),(g.update S f).get? S=some { cls:=.type "list", dict:=none,data:=.seq bJ c',slots:=#[] }->SlotAt P bt (j+1) bJ →
    OB (t_ prog w) A (.builtin "min.loop" ⟨[.ref it,.none,.ref S],[]⟩) out { s with heap:=g.update S f,toks:=tk }:=λf bJ c' here is =>
   ih _ bJ c' (j+1) ⋯ (W.frame _ _ _ fV λb hb o e=>dB (λz=>gF (z▸hb)) e) (stay { s with heap:=g,toks:=tk } _ tk fb λx o _ n2 e=>dB n2 e) is here
  cases j with
  | zero =>
   cases dR;refine a_ (m:=Tc S λ_=>#[v,v]) (NL bW rfl ?_);exact d_ ⟨MZ OE _,next _ _ _ (ML _ bW rfl) ⟨v,rfl,hX⟩⟩
  | succ m =>
   obtain⟨b,rfl,dS⟩:=dR;refine a_ (m:=tryCatch (OA [v,v] (richCompare .Lt v b >>= _)) _) (RF (MV (a_ (less _ fb (m+1) (OD bt m) v b hX dS prog w _ _ (a_ (MV (Nc (a_ (Py (d_ ?_))))))))));cases hb:bt (m+1) (OD bt m) with
   | true =>
    refine a_ (NL bW rfl (a_ (Py ?_)));exact d_ ⟨MZ OE _,next _ _ _ (ML _ bW rfl) ⟨v,rfl,by rw[OD,hb];exact hX⟩⟩
   | false =>
    refine a_ (Py ?_);exact d_ ⟨MZ OE _,ih _ _ c (m+2) ⋯ fV fb ⟨b,rfl,by rw[OD,hb];exact dS⟩ bW⟩
theorem Bo(bt:Nat->Nat->Bool):∀k,OD bt k<=k
 | 0=>s_ _
 | k+1=>by
  rw[OD];split
  ·exact s_ _
  ·exact Pt (Bo bt k)
theorem Jw{p:h_}{Q:b_->e_->Prop}(hh:A.handled=none)(L:s.heap.IsList p ae)(eZ:0 < ae.size)(less:∀h' tk,(∀b o,s.heap.get? b=some o->h'.get? b=some o)->∀i j vi vj,ae[i]?=some vi->ae[j]?=some vj->PySem.SeqAt.RcLtAt A.in1 { s with heap:=h',toks:=tk } vi vj (bt i j))(fin:∀v h' tk,ae[OD bt (ae.size - 1)]?=some v->(∀b o,s.heap.get? b=some o->h'.get? b=some o)->Q v { s with heap:=h',toks:=tk }):u_ (t_ prog w) A (call (.builtin "min") [.ref p]) Q E s:=by
 have low:p < s.heap.objs.size:=by obtain⟨_,e,_⟩:=L;exact Mq e
 refine call_function_tree F.kind_min F.plain_min F.entry_min (F.args_min1 _) ?_;refine a_ (NH (a:=[none,none]) rfl (a_ (d_ (a_ (NX L (a_ (K_ ?_)))))));have loop:(toString "min"++toString ".loop":String) = "min.loop":=by decide
 have W:=Sn (prog:=prog) (w:=w) (A:=A.in1) hh s.heap.objs.size p (My low) ae;have bV:∀o:Obj,(s.heap.push o).objs.size=s.heap.objs.size+1:=λo=>Na ..
 refine d_ ⟨MZ OE _,EJ (Fit:=λs'=>∃h' tk,s'={ s with heap:=h',toks:=tk }/\∀b o,s.heap.get? b=some o->h'.get? b=some o) (bt:=bt) W ?_ ?_ ?_ eZ ?_ ae.size _ #[] 0 0 (TQ _) ⟨⟨_,f_ _ (r_ _ rfl),rfl,rfl⟩,(L.push _).push _⟩ ⟨_,_,rfl,λb o e=>f_ _ (f_ _ e)⟩ rfl (r_ _ rfl)⟩
 ·rw[bV];intro z;rw[x_,m_] at z
  rcases z with z | z
  ·exact absurd z (Nat.succ_ne_self _)
  ·exact absurd z (O8 (Nz low))
 ·rintro _ ⟨g,tk,rfl,keep⟩ i j vi vj hi hj;exact less g tk keep i j vi vj hi hj
 ·rintro _ h' tk ⟨g,cT,rfl,keep⟩ k;refine⟨h',tk,rfl,λb o e=>k b o (λz=>?_) (λz=>?_) (keep b o e)⟩
  ·rw[m_] at z;exact My (Mq e) z
  ·rw[bV] at z;have:=Mq e;rw[z] at this;exact absurd this (Ua.mpr (P5 _))
 ·rintro v _ hv ⟨g,tk,rfl,keep⟩;exact fin v g tk hv keep
end
section
variable {X:Cx}{a b e:y_}
noncomputable def prD(p:Int×Int):D:=.tup [.int p.1,.int p.2]
noncomputable def ltP(p q:Int×Int):Bool:=if p.1 == q.1 then decide (p.2 < q.2) else decide (p.1 < q.1)
noncomputable def prsD:List D->Option (List (Int×Int))
 | []=>some []
 | .tup [.int a,.int b]::ds=>match prsD ds with
  | some ps=>some ((a,b)::ps)
  | none=>none
 | _=>none
def Hc:∀(ds:List D) (ps:List (Int×Int)),prsD ds=some ps->ds=ps.map prD:=by
 intro ds
 fun_induction prsD ds with
 | case1=>intro ps h;cases h;rfl
 | case2 a b ds qs e ih=>intro ps h;cases h;rw[ih qs e];rfl
 | case3 a b ds e ih=>intro ps h;cases h
 | case4 ds=>intro ps h;cases h
def btP(ps:List (Int×Int))(i j:Nat):Bool:=ltP (ps.getD i (0,0)) (ps.getD j (0,0))
def minP(ps:List (Int×Int)):Int×Int:=ps.getD (OD (btP ps) (ps.length - 1)) (0,0)
open PySem.SeqAt in
def CD{A:Mn}{s:e_}{u v:h_}{p q:Int×Int}{t1 t2 t3 t4:Tok}(room:A.units < Ni)(hu:s.heap.IsTuple u #[.int p.1 t1,.int p.2 t2])(hv:s.heap.IsTuple v #[.int q.1 t3,.int q.2 t4]):RcLtAt A s (.ref u) (.ref v) (ltP p q):=by
 have:=RcLtAt.tuples (e:=λk=>if k=0 then p.1 == q.1 else p.2 == q.2) (lt:=λk=>if k=0 then decide (p.1 < q.1) else decide (p.2 < q.2)) hu hv room (λj h1 h2=>?_)
 ·have e:ltFrom (λk=>if k=0 then p.1 == q.1 else p.2 == q.2) (λk=>if k=0 then decide (p.1 < q.1) else decide (p.2 < q.2)) (decide (2 < 2)) [0,1]=ltP p q:=by
   simp only[ltFrom,ltP];by_cases z:p.1=q.1
   ·by_cases z2:p.2=q.2<;>simp[z,z2]
   ·simp[z]
  rw[←e];exact this
 ·match j,h1,h2 with
  | 0,_,_=>exact⟨TZ.int_int _ _ _ _,λ_=>RcLtAt.int_int _ _ _ _⟩
  | 1,_,_=>exact⟨TZ.int_int _ _ _ _,λ_=>RcLtAt.int_int _ _ _ _⟩
  | k+2,h,_=>exact absurd h (by simp)
def Lw(hc:X.calm=true)(hu:X.A.units+100 < Ni):CallR X (.builtin "min") (λxs H Q=>∃(p:h_) (zs:List V) (ps:List (Int×Int)),xs=[.ref p]/\SqL X.K H p zs/\ps≠[]/\zs.length=ps.length ∧
  (∀(i:Nat) z,zs[i]?=some z->∃q,z=.ref q/\SqT X.K H q [.int (ps.getD i (0,0)).1,.int (ps.getD i (0,0)).2])/\∀z,zs[OD (btP ps) (ps.length - 1)]?=some z->Q z H):=by
 intro aa s B H xs us Q I r h;obtain⟨p,zs,ps,rfl,hq,ne,len,eR,q⟩:=h;obtain⟨u,rfl,ru⟩:=vals1 r;cases ru;obtain⟨ab,rv,t,hz⟩:=I.list hq;have ln:=rv.length;have sz:ab.toArray.size=ps.length:=by rw[v_,←ln,len]
 have tup:∀i v,ab.toArray[i]?=some v->∃q t1 t2,v=.ref q/\s.heap.IsTuple q #[.int (ps.getD i (0,0)).1 t1,.int (ps.getD i (0,0)).2 t2]:=λi v hv=>by
  have bx:ab[i]?=some v:=by simpa using hv
  have hi:i < zs.length:=by rw[ln];exact(j_.mp bx).1
  obtain⟨q,e1,e2⟩:=eR i zs[i] (i_ hi);obtain⟨w,e3,e4⟩:=rv.get (i_ hi);rw[bx] at e3;cases e3;rw[e1] at e4;cases e4;obtain⟨aQ,r2,t2,_⟩:=I.tuple e2;obtain⟨u1,u2,rfl,⟨k1,rfl⟩,⟨k2,rfl⟩⟩:=r2.two;exact⟨q,k1,k2,rfl,t2⟩
 refine Jw (bt:=btP ps) (I.ok.hd hc) t.isList (by rw[sz];exact Pb.mpr ne) (λg tk keep i j vi vj hi hj=>?_) λv g tk hv keep=>?_
 ·obtain⟨q1,t1,t2,rfl,T1⟩:=tup i vi hi;obtain⟨q2,t3,t4,rfl,T2⟩:=tup j vj hj;have up:∀{q:h_}{us:Array b_},s.heap.IsTuple q us->g.IsTuple q us:=λT=>by obtain⟨o,e,r⟩:=T;exact⟨o,keep _ o e,r⟩
  exact CD (by show X.A.units+1 < Ni;omega) (up T1) (up T2)
 ·rw[sz] at hv;have bx:ab[OD (btP ps) (ps.length - 1)]?=some v:=by simpa using hv
  have hi:OD (btP ps) (ps.length - 1) < zs.length:=by rw[ln];exact(j_.mp bx).1
  obtain⟨w,e3,e4⟩:=rv.get (i_ hi);rw[bx] at e3;cases e3;exact⟨_,H,I.kept keep,e4,q _ (i_ hi)⟩
end
end DL
namespace DL
open PySem PySem.W PyProof.Rows
structure Ord(lt:Nat->Nat->Bool):Prop where
 as:∀a b,lt a b=true->lt b a=false
 tr:∀a b c,lt b a=false->lt c b=false->lt c a=false
section
variable{lt:Nat->Nat->Bool}{s:e_}
def askIn(n:Nat)(lt:Nat->Nat->Bool):Nat->Nat->(Bool->e_->Prop)->e_->Prop:=λi j C s=>i < n/\j < n/\C (lt i j) s
noncomputable def gt(p:Array Nat)(i:Nat):Nat:=p.getD i 0
def Pm(n:Nat)(p:Array Nat):Prop:=p.Perm (MO n).toArray
def Dn(lt:Nat->Nat->Bool)(p:Array Nat)(m:Nat):Prop:=∀i j,i < j->j < m->lt (gt p i) (gt p j)=false
def Up(lt:Nat->Nat->Bool)(p:Array Nat)(m:Nat):Prop:=∀i j,i < j->j < m->lt (gt p j) (gt p i)=false
def Eqs(lt:Nat->Nat->Bool)(p:Array Nat)(a b:Nat):Prop:=∀i j,a<=i->i < b->a<=j->j < b->lt (gt p i) (gt p j)=false
theorem Pm.size{p:Array Nat}(h:Pm n p):p.size=n:=by
 have:=h.size_eq;simpa using this
def Pm.bd{p:Array Nat}(h:Pm n p)(pos:0 < n)(i:Nat):gt p i < n:=by
 unfold gt;by_cases hi:i < p.size
 ·have:p[i]∈(MO n).toArray:=h.mem_iff.mp (NK hi);rw[Ug,dif_pos hi];simpa using this
 ·rw[Ug,dif_neg hi];exact pos
def ut{p:Array Nat}{i:Nat}:gt p i=p[i]?.getD 0:=by
 exact NR ..
def qB{p:Array Nat}{i:Nat}(hj:j<=p.size)(k:Nat):gt (SF p i j) k=if i<=k/\k < j then gt p (i+j - 1 - k) else gt p k:=by
 rw[ut,ut,ut];unfold SF;rw[getElem?_mirror_all hj];split<;>rfl
def BX{p:Array Nat}{src d:Nat}(hs:src < p.size)(hd:d<=src)(k:Nat):gt (bubble p src d) k=if k=src - d then gt p src else if src - d < k/\k<=src then gt p (k - 1) else gt p k:=by
 simp only[ut];rw[getElem?_bubble hs d hd];split
 ·rfl
 ·split<;>rfl
def Pm.rev{p:Array Nat}(h:Pm n p)(i j:Nat):Pm n (SF p i j):=trans (mirror_perm _ _ _ _) h
theorem tq{α:Type}{jm:Nat->Nat->(Bool->e_->Prop)->e_->Prop}{Q:α->e_->Prop}{P:α->Prop}(hc:∀i j C,i < n->j < n->C (lt i j) s->jm i j C s)(hq:∀a,P a->Q a s):∀t:KasT α,t.kasWp (askIn n lt) (λa _=>P a) s->t.kasWp jm Q s
 | .ret a,h=>hq a h
 | .ask i j k,⟨h1,h2,h3⟩=>hc i j _ h1 h2 (tq hc hq (k (lt i j)) h3)
def sB{α β:Type}{t:KasT α}{f:α->KasT β}{P:α->Prop}{Q:β->Prop}(h:t.kasWp (askIn n lt) (λa _=>P a) s)(k:∀a,P a->(f a).kasWp (askIn n lt) (λb _=>Q b) s):(t.bind f).kasWp (askIn n lt) (λb _=>Q b) s:=by
 rw[KasT.kasWp_bind];exact tq (λi j C h1 h2 h3=>⟨h1,h2,h3⟩) (λa ha=>k a ha) t h
variable (O:Ord lt)(two:2<=n)
include O
theorem Ord.irr(a:Nat):lt a a=false:=by
 cases h:lt a a with
 | false=>rfl
 | true=>rw[←h];exact O.as a a h
theorem Ord.lt_le{a b c:Nat}(h1:lt a b=true)(h2:lt c b=false):lt a c=true:=by
 cases h:lt a c with
 | true=>rfl
 | false =>
  -- c<=a,b<=c
  have:=O.tr b c a h2 h;rw[this] at h1;cases h1
include two
theorem xp{p:Array Nat}(hp:Pm n p):∀(f m:Nat),1<=m->(kas_asc p f m).kasWp (askIn n lt) (λm' _=>m<=m'/\m'<=m+f/\(∀k,m<=k->k < m'->lt (gt p k) (gt p (k - 1))=false)/\(m' < m+f->lt (gt p m') (gt p (m' - 1))=true)) s
 | 0,m,_=>by
  exact⟨s_ _,s_ _,λk h1 h2=>by omega,λh=>by omega⟩
 | f+1,m,hm=>by
  refine⟨hp.bd ⋯ m,hp.bd ⋯ (m - 1),?_⟩;cases h:lt (p.getD m 0) (p.getD (m - 1) 0) with
  | true =>
   exact⟨s_ _,⋯,λk h1 h2=>by omega,λ_=>h⟩
  | false =>
   refine tq (λi j C h1 h2 h3=>⟨h1,h2,h3⟩) (λm' h'=>?_) _ (xp hp f (m+1) ⋯);obtain⟨a1,a2,a3,a4⟩:=h';refine⟨⋯,⋯,λk h1 h2=>?_,λh'=>a4 ⋯⟩;by_cases z:k=m
   ·rw[z];exact h
   ·exact a3 k ⋯ h2
omit two in
theorem Up.of_steps{p:Array Nat}{m m':Nat}(hm:Up lt p m)(st:∀k,m<=k->k < m'->1<=k->lt (gt p k) (gt p (k - 1))=false):Up lt p m':=by
 intro i j
 induction j with
 | zero=>intro h;omega
 | succ j ih =>
  intro cq hj;by_cases z:j+1 < m
  ·exact hm i (j+1) cq z
  ·have s1:=st (j+1) ⋯ hj ⋯;by_cases e:i=j
   ·rw[e];exact s1
   ·exact O.tr _ _ _ (ih ⋯ ⋯) s1
omit two O in
theorem Dn.up{p:Array Nat}{m:Nat}(hm:m<=p.size)(h:Dn lt p m):Up lt (SF p 0 m) m:=by
 intro i j cq hj;rw[qB hm,qB hm,if_pos ⟨Mu _,hj⟩,if_pos ⟨Mu _,⋯⟩];exact h _ _ ⋯ ⋯
omit two O in
theorem Dn.turn{p:Array Nat}{m a:Nat}(hm:m<=p.size)(h:Dn lt p m)(e:Eqs lt p a m):Dn lt (SF p a m) m:=by
 intro i j cq hj;rw[qB hm,qB hm];by_cases h1:a<=i
 ·rw[if_pos ⟨h1,⋯⟩,if_pos ⟨⋯,hj⟩];exact e _ _ ⋯ ⋯ ⋯ ⋯
 ·rw[if_neg ⋯];by_cases h2:a<=j
  ·rw[if_pos ⟨h2,hj⟩];exact h _ _ ⋯ ⋯
  ·rw[if_neg ⋯];exact h _ _ cq hj
omit two in
theorem Dn.next{p:Array Nat}{m:Nat}(h:Dn lt p m)(hm:1<=m)(st:lt (gt p (m - 1)) (gt p m)=false):Dn lt p (m+1):=by
 intro i j cq hj;by_cases z:j < m
 ·exact h i j cq z
 ·have:j=m:=by omega
  subst this;by_cases e:i=j - 1
  ·rw[e];exact st
  ·exact O.tr _ _ _ st (h i (j - 1) ⋯ ⋯)
theorem uM:∀(f:Nat) (p:Array Nat) (m q:Nat),Pm n p->1<=m->m+f<=n->q < m->Dn lt p m->Eqs lt p (m - (q+1)) m →
  (kas_desc f p m q).kasWp (askIn n lt) (λr _=>Pm n r.1/\1<=r.2.1/\r.2.1<=n/\r.2.2 < r.2.1/\Dn lt r.1 r.2.1/\Eqs lt r.1 (r.2.1 - (r.2.2+1)) r.2.1) s
 | 0,p,m,q,hp,h1,h2,h3,h4,h5=>by
  exact⟨hp,h1,(by show m<=n;omega),h3,h4,h5⟩
 | f+1,p,m,q,hp,h1,h2,h3,h4,h5=>by
  have one:∀(p':Array Nat),Pm n p'->Eqs lt p' (m+1 - (0+1)) (m+1):=λp' _ i j a b c d=>by
   have:i=m:=by omega
   have:j=m:=by omega
   subst i;subst j;exact O.irr _
  refine⟨hp.bd ⋯ m,hp.bd ⋯ (m - 1),?_⟩;cases h:lt (p.getD m 0) (p.getD (m - 1) 0) with
  | true =>
   have st:lt (gt p (m - 1)) (gt p m)=false:=O.as _ _ h;split
   ·have sz:m<=p.size:=by rw[hp.size];omega
    refine uM f _ (m+1) 0 (hp.rev _ _) ⋯ ⋯ ⋯ (Dn.next O (h4.turn sz h5) h1 ?_) (one _ (hp.rev _ _));rw[qB sz,qB sz,if_pos ⟨⋯,⋯⟩,if_neg ⋯];refine O.tr _ _ _ st ?_;exact h5 _ _ ⋯ ⋯ ⋯ ⋯
   ·exact uM f _ (m+1) 0 hp ⋯ ⋯ ⋯ (Dn.next O h4 h1 st) (one _ hp)
  | false =>
   refine⟨hp.bd ⋯ (m - 1),hp.bd ⋯ m,?_⟩;cases h':lt (p.getD (m - 1) 0) (p.getD m 0) with
   | true =>
    exact⟨hp,h1,(by show m<=n;omega),h3,h4,h5⟩
   | false =>
    refine uM f p (m+1) (q+1) hp ⋯ ⋯ ⋯ (Dn.next O h4 h1 h') λi j a b c d=>?_
    have up:∀i,m - (q+1)<=i->i < m->lt (gt p i) (gt p m)=false:=λi x y=>O.tr _ _ _ h' (h5 i (m - 1) x y ⋯ ⋯)
    have dn:∀i,m - (q+1)<=i->i < m->lt (gt p m) (gt p i)=false:=λi x y=>O.tr _ _ _ (h5 (m - 1) i ⋯ ⋯ x y) h
    by_cases zi:i=m
    ·by_cases zj:j=m
     ·rw[zi,zj];exact O.irr _
     ·rw[zi];exact dn j ⋯ ⋯
    ·by_cases zj:j=m
     ·rw[zj];exact up i ⋯ ⋯
     ·exact h5 i j ⋯ ⋯ ⋯ ⋯
theorem AM{p:Array Nat}{m:Nat}(hp:Pm n p)(h1:1<=m)(h2:m<=n)(h:Dn lt p m):(kas_tail3 m n p).kasWp (askIn n lt) (λr _=>1<=r.1/\r.1<=n/\Pm n r.2/\Up lt r.2 r.1) s:=by
 refine sB (xp O two (hp.rev 0 m) (n - m) m h1) λm' ⟨a1,a2,a3,_⟩=>?_
 have up:=h.up (by rw[hp.size];exact h2);exact⟨⋯,⋯,hp.rev 0 m,Up.of_steps O up λk x y _=>a3 k x y⟩
theorem yk{p:Array Nat}{m:Nat}(hp:Pm n p)(h1:1<=m)(h2:m < n)(h:Dn lt p (m+1)):(kas_descPart m n p).kasWp (askIn n lt) (λr _=>1<=r.1/\r.1<=n/\Pm n r.2/\Up lt r.2 r.1) s:=by
 refine sB (uM O two (n - (m+1)) p (m+1) 0 hp ⋯ ⋯ ⋯ h λi j a b c d=>?_) λr ⟨b1,b2,b3,b4,b5,b6⟩=>?_
 ·have:i=m:=by omega
  have:j=m:=by omega
  subst i;subst j;exact O.irr _
 ·split
  ·exact AM O two (b1.rev _ _) b2 b3 (b5.turn (by rw[b1.size];exact b3) b6)
  ·exact AM O two b1 b2 b3 b5
theorem IX{p:Array Nat}(hp:Pm n p):(kas_count n p).kasWp (askIn n lt) (λr _=>1<=r.1/\r.1<=n/\Pm n r.2/\Up lt r.2 r.1) s:=by
 refine sB (xp O two hp (n - 1) 1 (s_ _)) λm ⟨a1,a2,a3,a4⟩=>?_
 have up1:Up lt p m:=Up.of_steps O (m:=1) (λi j x y=>by omega) λk x y z=>a3 k x y
 split
 ·exact⟨a1,⋯,hp,up1⟩
 ·rename_i ne;have ne:m≠n:=by simpa using ne
  have cy:=a4 ⋯;split
  ·refine⟨hp.bd ⋯ 0,hp.bd ⋯ (m - 1),?_⟩;cases h:lt (p.getD 0 0) (p.getD (m - 1) 0) with
   | true =>
    exact⟨a1,⋯,hp,up1⟩
   | false =>
    have all:Eqs lt p 0 m:=λi j x1 x2 y1 y2=>by
     -- the first is not less than the cy,jn they rise
     have l0:∀i,i < m->lt (gt p i) (gt p 0)=false:=λi x=>by
      by_cases z:i=0
      ·rw[z];exact O.irr _
      ·exact up1 0 i ⋯ x
     have lz:∀j,j < m->lt (gt p (m - 1)) (gt p j)=false:=λj x=>by
      by_cases z:j=m - 1
      ·rw[z];exact O.irr _
      ·exact up1 j (m - 1) ⋯ ⋯
     -- i against j: i<=cy<=first<=j,whichever
     have f1:lt (gt p i) (gt p (m - 1))=false:=O.tr _ _ _ h (l0 i x2);exact O.tr _ _ _ (lz j y2) f1
    have sz:m<=p.size:=by rw[hp.size];omega
    have all2:Dn lt (SF p 0 m) m:=Dn.turn sz (λi j x y=>all i j (Mu _) ⋯ (Mu _) y) all;refine yk O two (hp.rev _ _) a1 ⋯ (Dn.next O all2 a1 ?_);rw[qB sz,qB sz,if_pos ⟨Mu _,⋯⟩,if_neg ⋯];refine O.tr _ _ _ (O.as _ _ cy) ?_;exact all _ _ (Mu _) ⋯ (Mu _) ⋯
  ·have:m=1:=by omega
   subst this;exact yk O two hp (s_ _) ⋯ (Dn.next O (λi j x y=>by omega) (s_ _) (O.as _ _ cy))
theorem vh{p:Array Nat}{k:Nat}(hp:Pm n p)(hk:k < n)(up:Up lt p k):∀(f l r:Nat),l<=r->r<=k->r - l<=f->(∀i,i < l->lt (gt p k) (gt p i)=false)->(∀i,r<=i->i < k->lt (gt p k) (gt p i)=true) →
  (kas_place p k f l r).kasWp (askIn n lt) (λl' _=>l'<=k/\(∀i,i < l'->lt (gt p k) (gt p i)=false)/\∀i,l'<=i->i < k->lt (gt p k) (gt p i)=true) s
 | 0,l,r,h1,h2,h3,h4,h5=>by
  exact⟨⋯,h4,λi x y=>h5 i ⋯ y⟩
 | f+1,l,r,h1,h2,h3,h4,h5=>by
  rw[kas_place];split
  ·exact⟨⋯,h4,λi x y=>h5 i ⋯ y⟩
  ·refine⟨hp.bd ⋯ k,hp.bd ⋯ _,?_⟩;cases h:lt (p.getD k 0) (p.getD ((l+r) / 2) 0) with
   | true =>
    refine vh hp hk up f l ((l+r) / 2) ⋯ ⋯ ⋯ h4 λi x y=>?_
    by_cases z:i=(l+r) / 2
    ·rw[z];exact h
    ·exact O.lt_le h (up _ _ ⋯ y)
   | false =>
    refine vh hp hk up f ((l+r) / 2+1) r ⋯ ⋯ ⋯ (λi x=>?_) h5;by_cases z:i=(l+r) / 2
    ·rw[z];exact h
    ·exact O.tr _ _ _ (up i ((l+r) / 2) ⋯ ⋯) h
theorem y0:∀(f:Nat) (p:Array Nat) (k:Nat),Pm n p->Up lt p k->1<=k->k+f=n->(kas_bin f p k).kasWp (askIn n lt) (λp' _=>Pm n p'/\Up lt p' n) s
 | 0,p,k,hp,up,h1,h2=>by
  have:k=n:=by omega
  subst this;exact⟨hp,up⟩
 | f+1,p,k,hp,up,h1,h2=>by
  refine sB (vh O two hp ⋯ up k 0 k (Mu _) (s_ _) ⋯ (λi h=>by omega) λi x y=>by omega) λl ⟨c1,c2,c3⟩=>?_
  refine y0 f _ (k+1) (trans (bubble_perm _ _ _) hp) (λi j cq hj=>?_) ⋯ ⋯;have hk:k < p.size:=by rw[hp.size];omega
  rw[BX hk ⋯,BX hk ⋯,show k - (k - l)=l by omega];by_cases j1:j=l
  ·rw[if_pos j1,if_neg ⋯,if_neg ⋯];exact c2 i ⋯
  ·rw[if_neg j1];by_cases j2:l < j/\j<=k
   ·rw[if_pos j2];by_cases i1:i=l
    ·rw[if_pos i1];exact O.as _ _ (c3 (j - 1) ⋯ ⋯)
    ·rw[if_neg i1];by_cases i2:l < i/\i<=k
     ·rw[if_pos i2];exact up _ _ ⋯ ⋯
     ·rw[if_neg i2];exact up _ _ ⋯ ⋯
   ·rw[if_neg j2,if_neg ⋯,if_neg ⋯];exact up _ _ cq ⋯
theorem Dy:(kas_sort n).kasWp (askIn n lt) (λp _=>Pm n p/\Up lt p n) s:=by
 refine sB (IX O two (p:=(MO n).toArray) (Array.Perm.refl _)) λr ⟨a1,a2,a3,a4⟩=>?_
 split
 ·refine y0 O two _ _ _ a3 ?_ ⋯ ⋯;rw[Nat.max_eq_left a1];exact a4
 ·have:r.1=n:=by omega
  rw[this] at a4;exact⟨a3,a4⟩
end
end DL
namespace DL
open PySem PySem.W PySem.Spec PyProof.Rows
section
variable {prog:E_}{w:Mo}{A:Mn}{E:b_->e_->Prop}{s:e_}
noncomputable def byP(vs:List b_)(p:Array Nat):List b_:=p.toList.map λi=>vs.getD i b_.none
def L8(vs:List b_):byP vs (MO vs.length).toArray=vs:=by
 unfold byP;refine Pz (by simp) λi h1 h2=>?_
 simp[h2]
def HW{p:Array Nat}(h:Pm vs.length p):(byP vs p).length=vs.length:=by
 unfold byP;rw[c_,MP,h.size]
def KeptBut(a:h_)(h h':Mr):Prop:=∀b o,b≠a->h.get? b=some o->h'.get? b=some o
def Gy{a:h_}{e:Nat}{κ:SortKind}{lt:Nat->Nat->Bool}{P:PySem.Fin->e_->Prop}(ho:s.heap.get? a=some (Qk "list" vs.toArray e))(fW:vs.length < 64)(O:Ord lt)(kind:∀h' Q,KeptBut a s.heap h'->2<=vs.length->Q κ { s with heap:=h' }->u_ (t_ prog w) A (keyKind' vs.toArray) Q E { s with heap:=h' })(less:∀h' i j C,KeptBut a s.heap h'->i < vs.length->j < vs.length->C (lt i j) { s with heap:=h' }->u_ (t_ prog w) A (keyLt' κ (vs.getD i b_.none) (vs.getD j b_.none)) C (λ_ _=>False) { s with heap:=h' })(fin:∀p h' c,Pm vs.length p->Up lt p vs.length->KeptBut a s.heap h'->h'.get? a=some (Qk "list" (byP vs p).toArray c)->P (.done (.ret .none)) { s with heap:=h' }):
  u_ (t_ prog w) A (NE.«list.sort» ⟨[.ref a],[]⟩) P E s:=by
 have line:64<=B_:=by rw[MS];decide
 obtain⟨g1,hZ⟩:∃g1,g1=s.heap.update a (OK λ_=>(#[]:Array b_)):=⟨_,rfl⟩;obtain⟨e1,o1⟩:∃e1,g1.get? a=some (Qk "list" #[] e1):=⟨_,by rw[hZ];exact get?_update_seq ho _⟩;have k1:KeptBut a s.heap g1:=λb o ne x=>by rw[hZ];exact(Mz _ _ (MQ ne)).trans x
 obtain⟨g2,h9⟩:∃g2,g2=(g1.push (Qk "tuple" vs.toArray 0)).push (Qk "list" #[] 0):=⟨_,rfl⟩;have o2:g2.get? a=some (Qk "list" #[] e1):=by rw[h9];exact f_ _ (f_ _ o1)
 have k2:KeptBut a s.heap g2:=λb o ne x=>by rw[h9];exact f_ _ (f_ _ (k1 b o ne x))
 have gG:∀ic,(2<=vs.length->ic=κ)->u_ (t_ prog w) A ((if vs.toArray.size < 2 then pure () else sortRuns').run (SortSt.mk' ic (vs.toArray.zip vs.toArray) #[] 7 none))
   (λr s'=>s'={ s with heap:=g2 }/\∃p,Pm vs.length p/\Up lt p vs.length/\(arrOf r.2).map (·.2)=(byP vs p).toArray/\failedOf r.2=none) E { s with heap:=g2 }:=λic kN=>by
  rcases TR vs.length 2 with dC | big
  ·rw[if_pos (by rw[v_];exact dC)];refine d_ ⟨rfl,(MO vs.length).toArray,Array.Perm.refl _,λi j x y=>by omega,?_,rfl⟩;rw[L8];show((vs.toArray.zip vs.toArray).map (·.2))=_;refine ext (by simp) λi h1 h2=>by simp
  ·rw[if_neg (by rw[v_];omega),kN big];refine kat_run (ks:=vs) (vs:=vs) (G:=λp s'=>(Pm vs.length p/\Up lt p vs.length)/\s'={ s with heap:=g2 }) (Q:=λst s'=>s'={ s with heap:=g2 }/\∃p,Pm vs.length p/\Up lt p vs.length/\(arrOf st).map (·.2)=(byP vs p).toArray/\failedOf st=none) rfl big fW ?_ ?_
   ·rintro p st s' hz ii aD ⟨⟨hp,up⟩,rfl⟩;exact⟨rfl,p,hp,up,kat_snds rfl ii,aD⟩
   ·exact tq (P:=λp=>Pm vs.length p/\Up lt p vs.length) (λi j C h1 h2 h3=>less g2 i j C k2 h1 h2 h3) (λp hp=>⟨hp,rfl⟩) _ (Dy O big)
 rw[list_sort_plain];refine a_ (SG ho rfl (a_ (Sf ho rfl ?_ (by rw[v_];omega) (Mu _))));rw[←hZ];refine a_ (seqEpoch_at o1 rfl (a_ (wpAny_newTuple (a_ (wpAny_newList (MV ?_) (Mu _))) (by show vs.length<=_;omega))));rw[←h9];dsimp only
 rcases TR vs.length 2 with dC | big
 all_goals
  first
   | (rw[if_pos (by rw[v_];exact dC)];refine a_ (d_ ?_);have step:=gG general' λh=>by omega)
   | (rw[if_neg (by rw[v_];omega)];refine a_ (kind g2 _ k2 big ?_);have step:=gG κ λ_=>rfl)
  refine a_ (M6 step (λr s' h=>?_) λ_ _ x=>x);obtain⟨rfl,p,hp,up,ii,aD⟩:=h;rw[ii,aD];refine a_ (seqEpoch_at o2 rfl (a_ (Sf o2 rfl ?_ (Mu _) ?_)))
  ·dsimp only;rw[bne_self_eq_false,if_neg q_];exact d_ (fin p _ _ hp up (λb o ne x=>(Mz _ _ (MQ ne)).trans (k2 b o ne x)) (get?_update_seq o2 λ_=>(byP vs p).toArray))
  ·show(byP vs p).toArray.size<=_;rw[v_,HW hp];omega
def xc{l:h_}{κ:SortKind}{lt:Nat->Nat->Bool}{Q:b_->e_->Prop}(fW:vs.length < 64)(O:Ord lt)(fc:∀Q':List b_->e_->Prop,(∀h' tk,(∀b o,s.heap.get? b=some o->h'.get? b=some o)->s.heap.objs.size<=h'.objs.size->Q' vs { s with heap:=h',toks:=tk })->u_ (t_ prog w) A.in1 (Tu (.ref l)) Q' E s)(kind:∀h' tk Q,(∀b o,s.heap.get? b=some o->h'.get? b=some o)->2<=vs.length->Q κ { s with heap:=h',toks:=tk }->u_ (t_ prog w) A.in1.in1 (keyKind' vs.toArray) Q (λ_ _=>False) { s with heap:=h',toks:=tk })(less:∀h' tk i j C,(∀b o,s.heap.get? b=some o->h'.get? b=some o)->i < vs.length->j < vs.length->C (lt i j) { s with heap:=h',toks:=tk }->u_ (t_ prog w) A.in1.in1 (keyLt' κ (vs.getD i b_.none) (vs.getD j b_.none)) C (λ_ _=>False) { s with heap:=h',toks:=tk })(fin:∀p h' tk D c,Pm vs.length p->Up lt p vs.length->(∀b o,s.heap.get? b=some o->h'.get? b=some o)->s.heap.objs.size<=D->h'.get? D=some (Qk "list" (byP vs p).toArray c)->Q (.ref D) { s with heap:=h',toks:=tk }):
  u_ (t_ prog w) A (call (.builtin "sorted") [b_.ref l]) Q E s:=by
 have line:64<=B_:=by rw[MS];decide
 refine Calls.call_function_entry kind_sorted plain_sorted entry_sorted (args_sorted1 _) ?_;refine a_ (m:=checkCount "sorted" 1 1 _) (d_ (a_ (fc _ λg tk kg above=>a_ (wpAny_newList ?_ ⋯))));have at':(g.push (Qk "list" vs.toArray 0)).get? g.objs.size=some (Qk "list" vs.toArray 0):=r_ _ rfl
 have old:∀(h':Mr),KeptBut g.objs.size (g.push (Qk "list" vs.toArray 0)) h'->∀b o,s.heap.get? b=some o->h'.get? b=some o:=λh' k b o x =>
  k b o (My (J_ (Mq x) above)) (f_ _ (kg b o x))
 refine a_ (MV (MI PyProof.Rows.slot_list_sort ⟨_,at',rfl⟩ PyProof.Rows.entry_list_sort ?_ (args_list_sort _)));refine Gy (s:={ s with heap:=g.push (Qk "list" vs.toArray 0),toks:=tk }) (lt:=lt) (κ:=κ) at' fW O (λh' Q' k two q=>M6 (kind h' tk Q' (old h' k) two q) (λ_ _ x=>x) λ_ _ x=>x.elim) (λh' i j C k=>less h' tk i j C (old h' k)) λp h' c hp up k here=>?_
 exact⟨_,rfl,d_ ⟨_,rfl,fin p h' tk _ c hp up (old h' k) above here⟩⟩
end
end DL
namespace DL
open PySem PySem.W PySem.Spec PyProof.Rows L2
noncomputable def rk:D->Nat
 | .non=>0
 | .bl _=>1
 | .int _=>2
 | .str _=>3
 | .tup _=>4
 | .lst _=>5
def cI(a b:Int):Ordering:=if a < b then .lt else if b < a then .gt else .eq
mutual
noncomputable def cO:D->D->Ordering
 | .int a,.int b=>cI a b
 | .tup xs,.tup ys=>cOA xs ys
 | a,b=>cI (rk a) (rk b)
noncomputable def cOA:List D->List D->Ordering
 | [],[]=>.eq
 | [],_::_=>.lt
 | _::_,[]=>.gt
 | x::xs,y::ys=>(cO x y).then (cOA xs ys)
end
def rE(a b:Int):cI b a=(cI a b).swap:=by
 unfold cI;by_cases h1:a < b
 ·rw[if_pos h1,if_neg ⋯,if_pos h1];rfl
 ·by_cases h2:b < a
  ·rw[if_pos h2,if_neg h1,if_pos h2];rfl
  ·rw[if_neg h2,if_neg h1,if_neg h1,if_neg h2];rfl
def Am{a b:D}(h:rk a≠rk b):cO a b=cI (rk a) (rk b):=by
 cases a<;>cases b<;>first | rfl | (exact absurd rfl h) | (simp[cO];done)
mutual
theorem w6:∀a b:D,cO b a=(cO a b).swap
 | .int a,b=>by
  cases b<;>simp only[cO]<;>exact rE _ _
 | .tup xs,b=>by
  cases b<;>simp only[cO]<;>first | exact rE _ _ | exact Bc _ _
 | .non,b=>by cases b<;>simp only[cO]<;>exact rE _ _
 | .bl _,b=>by cases b<;>simp only[cO]<;>exact rE _ _
 | .str _,b=>by cases b<;>simp only[cO]<;>exact rE _ _
 | .lst _,b=>by cases b<;>simp only[cO]<;>exact rE _ _
theorem Bc:∀xs ys:List D,cOA ys xs=(cOA xs ys).swap
 | [],[]=>by simp[cOA]
 | [],_::_=>by simp[cOA]
 | _::_,[]=>by simp[cOA]
 | x::xs,y::ys=>by
  rw[cOA,cOA,w6 x y,Bc xs ys];cases cO x y<;>rfl
end
def dl(a b:D):Bool:=cO a b == .lt
def dlA(xs ys:List D):Bool:=cOA xs ys == .lt
def xn(a b:Int):(cI a b == Ordering.lt)=decide (a < b):=by
 unfold cI;by_cases h1:a < b
 ·rw[if_pos h1];simp[h1]
 ·rw[if_neg h1];split<;>simp[h1]
def qN{a b:Int}:dl (.int a) (.int b)=decide (a < b):=by
 unfold dl;rw[cO,xn]
def Ml{xs:List D}:dl (.tup xs) (.tup ys)=dlA xs ys:=by
 unfold dl dlA;rw[cO]
def tZ:dlA [] []=false:=by unfold dlA;simp[cOA]
def rF{y:D}:dlA [] (y::ys)=true:=by unfold dlA;simp[cOA]
def sG{y:D}:dlA (y::ys) []=false:=by unfold dlA;simp[cOA]
def rZ{x y:D}{xs:List D}:dlA (x::xs) (y::ys)=(dl x y||(!dl y x&&dlA xs ys)):=by
 unfold dlA dl;rw[cOA,w6 x y];cases cO x y<;>simp[Ordering.then,Ordering.swap]
def zf{a b:D}(h:rk a < rk b):dl a b=true:=by
 unfold dl;rw[Am (My h),xn];simp;omega
def Jt{a b:D}(h:rk b < rk a):dl a b=false:=by
 unfold dl;rw[Am (O8 h),xn];simp;omega
def sN{a b:D}(h:rk a=rk b)(h1:rk a≠2)(h2:rk a≠4):dl a b=false:=by
 unfold dl;cases a<;>cases b<;>first | (simp[rk] at h;done) | (exact absurd rfl h1) | (exact absurd rfl h2) | (simp[cO,cI,rk];done)
mutual
theorem sr:∀a b c:D,dl b a=false->dl c b=false->dl c a=false:=λa b c h1 h2=>by
 have r1:rk a<=rk b:=Q2 λh=>by rw[zf h] at h1;cases h1
 have r2:rk b<=rk c:=Q2 λh=>by rw[zf h] at h2;cases h2
 rcases TR (rk a) (rk c) with h | h
 ·exact Jt h
 ·have e1:rk b=rk a:=by omega
  have e2:rk c=rk a:=by omega
  match a,b,c with
  | .int a,.int b,.int c =>
   rw[qN] at h1 h2 ⊢;simp at h1 h2 ⊢;omega
  | .tup xs,.tup ys,.tup zs =>
   exact zK xs ys zs h1 h2
  | .non,_,_=>exact sN e2 (by rw[e2];decide) (by rw[e2];decide)
  | .bl _,_,_=>exact sN e2 (by rw[e2];simp[rk]) (by rw[e2];simp[rk])
  | .str _,_,_=>exact sN e2 (by rw[e2];simp[rk]) (by rw[e2];simp[rk])
  | .lst _,_,_=>exact sN e2 (by rw[e2];simp[rk]) (by rw[e2];simp[rk])
termination_by a b c=>sizeOf a+sizeOf b+sizeOf c
decreasing_by all_goals (simp_wf;omega)
theorem zK:∀xs ys zs:List D,dlA ys xs=false->dlA zs ys=false->dlA zs xs=false
 | [],_,[],_,_=>tZ
 | [],_,z::zs,_,_=>sG
 | x::xs,[],_,h1,_=>by rw[rF] at h1;cases h1
 | x::xs,y::ys,[],_,h2=>by rw[rF] at h2;cases h2
 | x::xs,y::ys,z::zs,h1,h2=>by
  simp only[rZ,Bool.or_eq_false_iff,Ph,Bool.not_eq_false'] at h1 h2 ⊢;obtain⟨a1,a2⟩:=h1;obtain⟨b1,b2⟩:=h2;refine⟨sr x y z a1 b1,?_⟩;cases hx:dl x z with
  | true=>exact .inl rfl
  | false =>
   right
   rcases a2 with a2 | a2
   ·have:=sr y z x b1 hx;rw[a2] at this;cases this
   ·rcases b2 with b2 | b2
    ·have:=sr z x y hx a1;rw[b2] at this;cases this
    ·exact zK xs ys zs a2 b2
termination_by xs ys zs=>sizeOf xs+sizeOf ys+sizeOf zs
decreasing_by all_goals (simp_wf;omega)
end
def xF(a b:D)(h:dl a b=true):dl b a=false:=by
 unfold dl at h ⊢;rw[w6 a b];cases e:cO a b<;>rw[e] at h<;>first | rfl | (cases h;done)
def v3(ds:List D):Ord λi j=>dl (ds.getD i .non) (ds.getD j .non):=⟨λa b h=>xF _ _ h,λa b c h1 h2=>sr _ _ _ h1 h2⟩
mutual
noncomputable def cmB:D->D->Bool
 | .int _,.int _=>true
 | .tup xs,.tup ys=>cmA xs ys
 | _,_=>false
noncomputable def cmA:List D->List D->Bool
 | x::xs,y::ys=>cmB x y&&cmA xs ys
 | _,_=>true
end
mutual
theorem rq:∀a b:D,cmB a b=true->deq a b=(!dl a b&&!dl b a)
 | .int a,.int b,_=>by
  rw[qN,qN];by_cases h:a=b
  ·simp[deq,h]
  ·rcases Int.lt_or_gt_of_ne h with h' | h'
   ·simp[deq,h,h']
   ·simp[deq,h,h']
 | .tup xs,.tup ys,h=>by
  exact BE xs ys h
 | .non,_,h=>by simp[cmB] at h
 | .bl _,_,h=>by simp[cmB] at h
 | .str _,_,h=>by simp[cmB] at h
 | .lst _,_,h=>by simp[cmB] at h
 | .int _,.non,h=>by simp[cmB] at h
 | .int _,.bl _,h=>by simp[cmB] at h
 | .int _,.str _,h=>by simp[cmB] at h
 | .int _,.tup _,h=>by simp[cmB] at h
 | .int _,.lst _,h=>by simp[cmB] at h
 | .tup _,.non,h=>by simp[cmB] at h
 | .tup _,.bl _,h=>by simp[cmB] at h
 | .tup _,.str _,h=>by simp[cmB] at h
 | .tup _,.int _,h=>by simp[cmB] at h
 | .tup _,.lst _,h=>by simp[cmB] at h
theorem BE:∀xs ys:List D,cmA xs ys=true->deqA xs ys=(!dlA xs ys&&!dlA ys xs)
 | [],[],_=>by simp[deqA,tZ]
 | [],_::_,_=>by simp[deqA,rF,sG]
 | _::_,[],_=>by simp[deqA,rF,sG]
 | x::xs,y::ys,h=>by
  rw[cmA,k_] at h;rw[deqA,rq x y h.1,BE xs ys h.2,rZ,rZ];cases h1:dl x y<;>cases h2:dl y x<;>simp
end
mutual
theorem sf:∀a b:D,cmB a b=true->deq a b=true->a=b
 | .int a,.int b,_,h=>by simp[deq] at h;rw[h]
 | .tup xs,.tup ys,c,h=>by
  rw[AG xs ys c h]
 | .non,_,h,_=>by simp[cmB] at h
 | .bl _,_,h,_=>by simp[cmB] at h
 | .str _,_,h,_=>by simp[cmB] at h
 | .lst _,_,h,_=>by simp[cmB] at h
 | .int _,.non,h,_=>by simp[cmB] at h
 | .int _,.bl _,h,_=>by simp[cmB] at h
 | .int _,.str _,h,_=>by simp[cmB] at h
 | .int _,.tup _,h,_=>by simp[cmB] at h
 | .int _,.lst _,h,_=>by simp[cmB] at h
 | .tup _,.non,h,_=>by simp[cmB] at h
 | .tup _,.bl _,h,_=>by simp[cmB] at h
 | .tup _,.str _,h,_=>by simp[cmB] at h
 | .tup _,.int _,h,_=>by simp[cmB] at h
 | .tup _,.lst _,h,_=>by simp[cmB] at h
theorem AG:∀xs ys:List D,cmA xs ys=true->deqA xs ys=true->xs=ys
 | [],[],_,_=>rfl
 | [],_::_,_,h=>by simp[deqA] at h
 | _::_,[],_,h=>by simp[deqA] at h
 | x::xs,y::ys,c,h=>by
  rw[cmA,k_] at c;rw[deqA,k_] at h;rw[sf x y c.1 h.1,AG xs ys c.2 h.2]
end
open PySem.SeqAt in
theorem yB(e lt:Nat->Bool)(d:Bool)(f:Nat->Nat):∀l:List Nat,ltFrom e lt d (l.map f)=ltFrom (λi=>e (f i)) (λi=>lt (f i)) d l
 | []=>rfl
 | i::l=>by rw[I_,ltFrom,ltFrom,yB e lt d f l]
open PySem.SeqAt in
theorem AF:∀xs ys:List D,cmA xs ys=true->ltFrom (λj=>deq (xs.getD j .non) (ys.getD j .non)) (λj=>dl (xs.getD j .non) (ys.getD j .non)) (decide (xs.length < ys.length)) (MO (min xs.length ys.length))=dlA xs ys
 | [],[],_=>by simp[ltFrom,tZ]
 | [],_::_,_=>by simp[ltFrom,rF]
 | _::_,[],_=>by simp[ltFrom,sG]
 | x::xs,y::ys,c=>by
  rw[cmA,k_] at c;have ih:=AF xs ys c.2;rw[G_,G_,Nat.succ_min_succ,Oh,ltFrom,yB,rZ]
  have e:ltFrom (λi=>deq ((x::xs).getD i.succ .non) ((y::ys).getD i.succ .non)) (λi=>dl ((x::xs).getD i.succ .non) ((y::ys).getD i.succ .non)) (decide (xs.length+1 < ys.length+1)) (MO (min xs.length ys.length))=dlA xs ys:=by
   rw[←ih]
   congr 1
   simp
  rw[e];show(if deq x y=true then dlA xs ys else dl x y)=_;rw[rq x y c.1];cases h1:dl x y<;>cases h2:dl y x<;>simp
theorem z6:∀(xs ys:List D),cmA xs ys=true->∀j,j < xs.length->j < ys.length->cmB (xs.getD j .non) (ys.getD j .non)=true
 | [],_,_,j,h,_=>by simp at h
 | _::_,[],_,j,_,h=>by simp at h
 | x::xs,y::ys,c,j,h1,h2=>by
  rw[cmA,k_] at c;cases j with
  | zero=>exact c.1
  | succ j=>exact z6 xs ys c.2 j (by simpa using h1) (by simpa using h2)
section
variable{X:Cx}{H:Hp}{s:e_}
open PySem.SeqAt in
def Lk(I:Inv X aa B H s):∀(n:Nat) (A:Mn),A.units+n < Ni->∀(a b:D) (x y:V) (u v:b_),dep a<=n->cmB a b=true->Is X.K H a x->Is X.K H b y->RelV x u->RelV y v->RcLtAt A s u v (dl a b):=by
 intro n
 induction n with
 | zero =>
  intro A hu a b x y u v hd c ha hb ru rv;cases a<;>cases b<;>simp[cmB] at c
  ·rename_i i j;rw[oM ha] at ru;rw[oM hb] at rv;obtain⟨t1,rfl⟩:=ru;obtain⟨t2,rfl⟩:=rv;rw[qN];exact RcLtAt.int_int _ _ _ _
  ·rw[dep] at hd;omega
 | succ n ih =>
  intro A hu a b x y u v hd c ha hb ru rv;cases a<;>cases b<;>simp[cmB] at c
  ·rename_i i j;rw[oM ha] at ru;rw[oM hb] at rv;obtain⟨t1,rfl⟩:=ru;obtain⟨t2,rfl⟩:=rv;rw[qN];exact RcLtAt.int_int _ _ _ _
  ·rename_i ds es;have dz:A.in1.units+n < Ni:=by show A.units+1+n < Ni;omega
   obtain⟨p,xs,rfl,h1,h2⟩:=o7 ha;obtain⟨q,ys,rfl,h3,h4⟩:=o7 hb;cases ru;cases rv;obtain⟨ab,r1,t1,_⟩:=I.tuple h1;obtain⟨aQ,r2,t2,_⟩:=I.tuple h3;have l1:ab.toArray.size=ds.length:=by rw[v_,←r1.length,h2.length]
   have l2:aQ.toArray.size=es.length:=by rw[v_,←r2.length,h4.length]
   have two:∀j (g1:j < ab.toArray.size) (g2:j < aQ.toArray.size),TZ A.in1 s ab.toArray[j] aQ.toArray[j] (deq (ds.getD j .non) (es.getD j .non))/\(deq (ds.getD j .non) (es.getD j .non)=false->RcLtAt A.in1 s ab.toArray[j] aQ.toArray[j] (dl (ds.getD j .non) (es.getD j .non))):=λj g1 g2=>by
    obtain⟨v1,q1,q2⟩:=h2.getU r1 g1;obtain⟨v2,q3,q4⟩:=h4.getU r2 g2
    have m1:ds.getD j .non∈ds:=by
     rw[C_,i_ ⋯];exact Nf _
    have k1:=pV m1;rw[dep] at hd;exact⟨(qU I n A.in1 dz _ _ _ _ _ _ (.inl ⋯) q2 q4 q1 q3).2.1,λ_=>ih A.in1 dz _ _ _ _ _ _ ⋯ (z6 ds es c j ⋯ ⋯) q2 q4 q1 q3⟩
   have R1:=RcLtAt.tuples (A:=A) t1 t2 ⋯ two;rw[l1,l2,AF ds es c] at R1;exact R1
end
end DL
namespace DL
open PySem PySem.W PySem.Spec PyProof.Rows L2
def leD(a b:D):Bool:=!dl b a
def sortD(ds:List D):List D:=ds.mergeSort leD
def Fe(a b c:D)(h1:leD a b=true)(h2:leD b c=true):leD a c=true:=by
 unfold leD at *;simp only[Rn] at *;exact sr a b c h1 h2
def EF(a b:D):(leD a b||leD b a)=true:=by
 unfold leD;cases h:dl b a with
 | false=>rfl
 | true=>rw[xF b a h];rfl
def pQ(ds:List D):(sortD ds).Perm ds:=List.mergeSort_perm ds leD
def rn(ds:List D):(sortD ds).Pairwise λa b=>leD a b=true:=List.pairwise_mergeSort Fe EF ds
theorem tP:∀(l m:List D),l.Perm m->(l.Pairwise λa b=>leD a b=true)->(m.Pairwise λa b=>leD a b=true)->(∀a∈l,∀b∈l,leD a b=true->leD b a=true->a=b)->l=m
 | [],m,p,_,_,_=>by rw[List.nil_perm.mp p]
 | a::l,[],p,_,_,_=>by have:=p.length_eq;simp at this
 | a::l,b::m,p,h1,h2,an=>by
  have e:a=b:=by
   have ia:a∈b::m:=p.mem_iff.mp p_;have ib:b∈a::l:=p.mem_iff.mpr p_
   rcases x_.mp ia with h | h
   ·exact h
   ·rcases x_.mp ib with h' | h'
    ·exact h'.symm
    ·exact an a p_ b ib ((QR.mp h1).1 b h') ((QR.mp h2).1 a h)
  subst e;rw[tP l m ((List.perm_cons a).mp p) (QR.mp h1).2 (QR.mp h2).2 λx hx y hy=>an x (n_ _ hx) y (n_ _ hy)]
noncomputable def permD(p:Array Nat)(ds:List D):List D:=p.toList.map λi=>ds.getD i .non
noncomputable def permV(p:Array Nat)(zs:List V):List V:=p.toList.map λi=>zs.getD i .non
def cmAll(ds:List D):Bool:=ds.all λa=>ds.all λb=>cmB a b
def FP{p:Array Nat}(hp:Pm ds.length p)(up:Up (λi j=>dl (ds.getD i .non) (ds.getD j .non)) p ds.length)(cm:cmAll ds=true):permD p ds=sortD ds:=by
 have pm:(permD p ds).Perm ds:=by
  have h1:p.toList.Perm (MO ds.length):=by
   have:=Ot.mp hp;simpa using this
  have h2:=h1.map λi=>ds.getD i .non
  have h3:((MO ds.length).map λi=>ds.getD i .non)=ds:=by
   refine Pz (by simp) λi h1 h2=>?_
   simp[h2]
  rw[h3] at h2;exact h2
 have fX:∀a∈permD p ds,∀b∈permD p ds,cmB a b=true:=λa ha b hb=>by
  have:=H_.mp cm a (pm.mem_iff.mp ha);exact H_.mp this b (pm.mem_iff.mp hb)
 refine tP _ _ (pm.trans (pQ ds).symm) ?_ (rn ds) λa ha b hb h1 h2=>?_
 ·rw[Qv];intro i j hi hj cq;unfold permD at hi hj ⊢;rw[c_,MP,hp.size] at hi hj;have:=up i j cq hj;simp only[QA,RG];unfold gt at this;rw[Ug,dif_pos (by rw[hp.size];exact hj),Ug,dif_pos (by rw[hp.size];exact hi)] at this;unfold leD;rw[Rn];exact this
 ·have c:=fX a ha b hb;refine sf a b c ?_;rw[rq a b c];unfold leD at h1 h2;rw[h1,h2];rfl
section
variable{X:Cx}{H:Hp}{s:e_}{A:Mn}
noncomputable def fstI:D->Bool
 | .tup (.int _::_)=>true
 | _=>false
noncomputable def fstT:D->Bool
 | .tup (.tup _::_)=>true
 | _=>false
noncomputable def isInt:D->Bool
 | .int _=>true
 | _=>false
theorem BB(I:Inv X aa B H s){prog:E_}{w:Mo}{n:Nat}{b fin:Bool}{Q:Bool->e_->Prop}(hu:A.units+n < Ni):∀(ds es:List D) (xs ys:List V) (us vs:List b_) (i:Nat),IsA X.K H ds xs->IsA X.K H es ys->Vals xs us->Vals ys vs →
  depA ds<=n->cmA ds es=true->fin=decide (ds.length < es.length)->(b=true->i=0->∀d e r r',ds=d::r->es=e::r'->isInt d=true/\isInt e=true)->Q (dlA ds es) s->KatLex prog w A b fin Q (us.zip vs) i s
 | [],es,xs,ys,us,vs,i,h1,h2,h3,h4,hd,c,hf,fl,q=>by
  have:=h1.nil_inv;subst this;cases h3;refine kat_nil ?_;rw[hf];cases es with
  | nil=>rw[tZ] at q;exact q
  | cons e es=>rw[rF] at q;simpa using q
 | d::ds,[],xs,ys,us,vs,i,h1,h2,h3,h4,hd,c,hf,fl,q=>by
  have:=h2.nil_inv;subst this;cases h4;rw[List.zip_nil_right];refine kat_nil ?_;rw[hf];rw[sG] at q;simpa using q
 | d::ds,e::es,xs,ys,us,vs,i,h1,h2,h3,h4,hd,c,hf,fl,q=>by
  obtain⟨x,xr,rfl,a1,a2⟩:=h1.cons_inv;obtain⟨y,yr,rfl,b1,b2⟩:=h2.cons_inv;cases h3 with
  | cons r1 r2 =>
   cases h4 with
   | cons s1 s2 =>
    rename_i u kO v kP;rw[depA] at hd;rw[cmA,k_] at c;rw[rZ] at q;have eq:=(qU I n A hu d e x y u v (.inl ⋯) a1 b1 r1 s1).2.1;have lt:=Lk I n A hu d e x y u v ⋯ c.1 a1 b1 r1 s1;have ed:=rq d e c.1;refine kat_cons (eq prog w _ _ (kat_go (λh=>kat_yes ?_) λh=>kat_no ?_))
    ·refine BB I hu ds es xr yr kO kP (i+1) a2 b2 r2 s2 ⋯ c.2 (by rw[hf];simp) (λ_ z=>by omega) ?_;rw[h] at ed;have ed:=ed.symm;simp only[k_,Rn] at ed;rw[ed.1,ed.2] at q;simpa using q
    ·have q':Q (dl d e) s:=by
      rw[h] at ed;cases h1:dl d e with
      | true=>rw[h1] at q;simpa using q
      | false =>
       rw[h1] at ed q;cases h2:dl e d with
       | true=>rw[h2] at q;simpa using q
       | false=>rw[h2] at ed;cases ed
     by_cases z:b=true/\i=0
     ·obtain⟨zb,zi⟩:=z;obtain⟨f1,f2⟩:=fl zb zi d e ds es rfl rfl;subst zb;subst zi;cases d<;>simp[isInt] at f1
      cases e<;>simp[isInt] at f2
      rw[oM a1] at r1;rw[oM b1] at s1;obtain⟨t1,rfl⟩:=r1;obtain⟨t2,rfl⟩:=s1;show u_ _ _ (oneLt' true _ _) _ _ _;rw[qN] at q';exact kat_lt_int q'
     ·have:(b&&i == 0)=false:=by
       cases b
       ·rfl
       ·simp at z ⊢;exact z
      rw[this];exact kat_one _ _ (lt prog w _ _ q')
def at_k(h:IsA X.K H ds zs)(r:Vals zs vs){k:Nat}(hk:k < vs.length):∃x,Is X.K H (ds.getD k .non) x/\RelV x (vs.getD k .none)/\ds.getD k .non∈ds/\zs[k]?=some x:=by
 have l1:=h.length;have l2:=r.length;have bX:k < ds.length:=by omega
 obtain⟨x,e1,e2⟩:=h.get (i_ bX);obtain⟨u,e3,e4⟩:=r.get e1;refine⟨x,?_,?_,?_,e1⟩
 ·rw[C_,i_ bX];exact e2
 ·rw[C_,e3];exact e4
 ·rw[C_,i_ bX];exact Nf _
theorem vo(I:Inv X aa B H s)(prog:E_)(w:Mo)(P:D->Bool)(T:b_)(hP:∀d,P d=true->∃f r,d=.tup (f::r)/\∀x u,Is X.K H f x->RelV x u->TU (t_ prog w) s.heap (S8 u) T):
  ∀(ds:List D) (zs:List V) (vs:List b_),IsA X.K H ds zs->Vals zs vs->ds.all P=true->∃fs,KatTups s.heap vs fs/\fs.length=vs.length/\∀v∈fs,TU (t_ prog w) s.heap (S8 v) T
 | [],zs,vs,h,r,_=>by
  have:=h.nil_inv;subst this;cases r;exact⟨[],KatTups.nil,rfl,λv hv=>nomatch hv⟩
 | d::ds,zs,vs,h,r,ok=>by
  obtain⟨x,zr,rfl,h1,h2⟩:=h.cons_inv;rw[Nw,k_] at ok;cases r with
  | cons r1 r2 =>
   obtain⟨fs,k1,k2,k3⟩:=vo I prog w P T hP ds zr _ h2 r2 ok.2;obtain⟨f,ad,rfl,look⟩:=hP d ok.1;obtain⟨a,ys,rfl,g1,g2⟩:=o7 h1;cases r1;obtain⟨ab,q1,q2,_⟩:=I.tuple g1;obtain⟨y,yr,rfl,g3,g4⟩:=g2.cons_inv;cases q1 with
   | cons q3 q4 =>
    obtain⟨o,e1,e2,n,e3⟩:=q2;refine⟨_::fs,KatTups.cons e1 e2 e3 rfl k1,by simp[k2],λv hv=>?_⟩
    rcases x_.mp hv with rfl | hv
    ·exact look y _ g3 q3
    ·exact k3 v hv
def SortOk(ds:List D):Prop:=ds.length < 64/\cmAll ds=true/\depA ds<=50/\(ds.all isInt=true\/ds.all fstI=true\/ds.all fstT=true)
def tK(hu:X.A.units+100 < Ni){l:h_}{Q:VK}(I:Inv X aa B H s)(ha:IsA X.K H ds zs)(rv:Vals zs ab)(ok:SortOk ds)(fc:∀Q':List b_->e_->Prop,(∀h' tk,(∀b o,s.heap.get? b=some o->h'.get? b=some o)->s.heap.objs.size<=h'.objs.size->Q' ab { s with heap:=h',toks:=tk })->u_ (t_ X.prog X.w) X.A.in1 (Tu (.ref l)) Q' X.xe s)(k:∀l q,Pm ds.length q->permD q ds=sortD ds->H l=none->Q (.ref l) (upd H l (.lst (permV q zs)))):u_ (t_ X.prog X.w) X.A (call (.builtin "sorted") [.ref l]) (EP X aa B Q) X.xe s:=by
 obtain⟨fW,cm,dp,kd⟩:=ok;have l1:=ha.length;have l2:=rv.length;have n1:ab.length=ds.length:=by omega
 have jo:∀i j,i < ab.length->j < ab.length->cmB (ds.getD i .non) (ds.getD j .non)=true:=λi j hi hj=>by
  obtain⟨_,_,_,mi,_⟩:=at_k ha rv hi;obtain⟨_,_,_,mj,_⟩:=at_k ha rv hj;exact H_.mp (H_.mp cm _ mi) _ mj
 have out:∀q h' tk D c,Pm ab.length q->Up (λi j=>dl (ds.getD i .non) (ds.getD j .non)) q ab.length->(∀b o,s.heap.get? b=some o->h'.get? b=some o)->s.heap.objs.size<=D->h'.get? D=some (Qk "list" (byP ab q).toArray c)->EP X aa B Q (.ref D) { s with heap:=h',toks:=tk }:=λq h' tk D c hp up keep above here=>by
  rw[n1] at hp up
  have hv:Vals (permV q zs) (byP ab q):=by
   refine vx (by simp[permV,byP]) λi x u e1 e2=>?_
   obtain⟨j,f1,rfl⟩:=getMap e1;obtain⟨j',f2,rfl⟩:=getMap e2;rw[f1] at f2;cases f2
   have hj:j < ds.length:=by
    have h1:j∈q.toList:=NC f1;have h2:=(Ot.mp hp).mem_iff.mp h1;simpa using h2
   obtain⟨x,_,e4,_,e5⟩:=at_k ha rv (k:=j) ⋯;rw[C_,e5];exact e4
  refine⟨.ref D,_,I.laid (t':=tk) keep above (o:=.lst (permV q zs)) ⟨?_,byP ab q,c,hv,here⟩,rfl,k D q hp (FP hp up cm) (I.hok.fresh above)⟩;rw[permV,c_,MP,hp.size,MS];omega
 have fe:∀(b:Bool) (P:D->Bool),(∀d,P d=true->∃f r,d=.tup (f::r)/\(b=true->isInt f=true))->ds.all P=true->∀h' tk i j C,(∀b o,s.heap.get? b=some o->h'.get? b=some o)->i < ab.length->j < ab.length->C (dl (ds.getD i .non) (ds.getD j .non)) { s with heap:=h',toks:=tk } →
   u_ (t_ X.prog X.w) X.A.in1.in1 (keyLt' (tuples' b) (ab.getD i b_.none) (ab.getD j b_.none)) C (λ_ _=>False) { s with heap:=h',toks:=tk }:=λb P hP all h' tk i j C keep hi hj hc=>by
  have I':Inv X aa B H { s with heap:=h',toks:=tk }:=I.kept (t':=tk) keep;obtain⟨x,a1,a2,a3,_⟩:=at_k ha rv hi;obtain⟨y,b1,b2,b3,_⟩:=at_k ha rv hj;have cc:=jo i j hi hj;have dq:=pV a3;obtain⟨f1,r1,e1,g1⟩:=hP _ (H_.mp all _ a3);obtain⟨f2,r2,e2,g2⟩:=hP _ (H_.mp all _ b3);rw[e1] at a1 cc hc dq;rw[e2] at b1 cc hc;obtain⟨pa,xs,rfl,x1,x2⟩:=o7 a1;obtain⟨pb,ys,rfl,y1,y2⟩:=o7 b1;generalize ab.getD i b_.none=ui at a2;generalize ab.getD j b_.none=uj at b2;cases a2;cases b2;obtain⟨us,q1,q2,_⟩:=I'.tuple x1;obtain⟨vs,q3,q4,_⟩:=I'.tuple y1;obtain⟨oa,m1,m2,na,m3⟩:=q2;obtain⟨ob,m4,m5,nb,m6⟩:=q4;rw[dep] at dq;refine kat_lt m1 m3 m4 m6 (BB I' (n:=50) (by show X.A.units+1+1+50 < Ni;omega) _ _ xs ys _ _ 0 x2 y2 q1 q3 ⋯ cc ?_ (λzb _ d e rr nK z1 z2=>?_) hc)
  ·have:=x2.length;have:=y2.length;have:=q1.length;have:=q3.length;simp only[v_]
   congr 1
   apply propext
   constructor<;>intro _<;>omega
  ·cases z1;cases z2;exact⟨g1 zb,g2 zb⟩
 rcases kd with kd | kd | kd
 ·-- aG numbers
  have ij:∀k,k < ab.length->∃i t,ab.getD k b_.none=.int i t/\ds.getD k .non=.int i:=λk hk=>by
   obtain⟨x,a1,a2,a3,_⟩:=at_k ha rv hk;have:=H_.mp kd _ a3;cases e:ds.getD k .non<;>rw[e] at this a1<;>simp[isInt] at this
   rw[oM a1] at a2;obtain⟨t,a2⟩:=a2;exact⟨_,t,a2,rfl⟩
  refine xc (κ:=oneType') (lt:=λi j=>dl (ds.getD i .non) (ds.getD j .non)) ⋯ (v3 ds) fc (λh' tk Q' keep two q=>?_) (λh' tk i j C keep hi hj hc=>?_) out
  ·refine kas_kind (T:=.type "int") two (λv hv=>?_) (by decide) (by decide) q;obtain⟨k,hk,rfl⟩:=List.getElem_of_mem hv;obtain⟨i,t,e,_⟩:=ij k hk;rw[C_,i_ hk] at e
   change ab[k]=_ at e
   rw[e];exact TU.now
  ·obtain⟨a,t1,e1,f1⟩:=ij i hi;obtain⟨b,t2,e2,f2⟩:=ij j hj;rw[f1,f2,qN] at hc;rw[e1,e2];exact kat_lt_int hc
 ·-- tuples that begin with a aG number
  refine xc (κ:=tuples' true) (lt:=λi j=>dl (ds.getD i .non) (ds.getD j .non)) ⋯ (v3 ds) fc (λh' tk Q' keep two q=>?_) (λh' tk i j C keep hi hj hc=>fe true fstI (λd hd=>?_) kd h' tk i j C keep hi hj hc) out
  ·have I':Inv X aa B H { s with heap:=h',toks:=tk }:=I.kept (t':=tk) keep
   obtain⟨fs,k1,k2,k3⟩:=vo I' X.prog X.w fstI (.type "int") (λd hd=>by
    unfold fstI at hd;split at hd
    ·refine⟨_,_,rfl,λx u hx hr=>?_⟩;rw[oM hx] at hr;obtain⟨t,rfl⟩:=hr;exact TU.now
    ·cases hd) ds zs ab ha rv kd
   exact kat_kind k1 ⋯ k3 (by decide) q
  ·unfold fstI at hd;split at hd
   ·exact⟨_,_,rfl,λ_=>rfl⟩
   ·cases hd
 ·-- tuples that begin with a tuple
  refine xc (κ:=tuples' false) (lt:=λi j=>dl (ds.getD i .non) (ds.getD j .non)) ⋯ (v3 ds) fc (λh' tk Q' keep two q=>?_) (λh' tk i j C keep hi hj hc=>fe false fstT (λd hd=>?_) kd h' tk i j C keep hi hj hc) out
  ·have I':Inv X aa B H { s with heap:=h',toks:=tk }:=I.kept (t':=tk) keep
   obtain⟨fs,k1,k2,k3⟩:=vo I' X.prog X.w fstT (.type "tuple") (λd hd=>by
    unfold fstT at hd;split at hd
    ·refine⟨_,_,rfl,λx u hx hr=>?_⟩;obtain⟨a,ys,rfl,g1,g2⟩:=o7 hx;cases hr;obtain⟨aQ,q1,q2,_⟩:=I'.tuple g1;obtain⟨o,e1,e2,n,e3⟩:=q2;have look:TU (t_ X.prog X.w) h' (S8 (.ref a)) o.cls:=(TU.ld e1).andThen .now;rw[e2] at look;exact look
    ·cases hd) ds zs ab ha rv kd
   exact kat_kind k1 ⋯ k3 (by decide) q
  ·unfold fstT at hd;split at hd
   ·exact⟨_,_,rfl,λh=>by cases h⟩
   ·cases hd
def Je(hu:X.A.units+100 < Ni):CallR X (.builtin "sorted") (λxs H Q=>∃(p:h_) (zs:List V) (ds:List D),xs=[.ref p]/\SqL X.K H p zs/\IsA X.K H ds zs/\SortOk ds/\∀l q,Pm ds.length q->permD q ds=sortD ds->H l=none->Q (.ref l) (upd H l (.lst (permV q zs)))):=by
 intro aa s B H xs us Q I r h;obtain⟨p,zs,ds,rfl,hq,ha,ok,k⟩:=h;obtain⟨u,rfl,ru⟩:=vals1 r;cases ru;obtain⟨ab,rv,t,hz⟩:=I.list hq;have l2:=rv.length;refine tK hu I ha rv ok (λQ' q=>collect_list t.isList (q _ s.toks (λb o x=>?_) ?_) (by have:=ok.1;omega)) k
 ·exact(Mz _ _ (MQ (My (Mq x)))).trans (f_ _ x)
 ·rw[Mr.size_update,size_push'];exact P5 _
end
section
def IsA.perm{K:FAa}{q:Array Nat}(h:IsA K I ds zs)(hp:Pm ds.length q):IsA K I (permD q ds) (permV q zs):=by
 have low:∀j∈q.toList,j < ds.length:=λj hj=>by
  have:=(Ot.mp hp).mem_iff.mp hj;simpa using this
 unfold permD permV;generalize q.toList=js at low
 induction js with
 | nil=>exact IsA.nil
 | cons j js ih =>
  rw[I_,I_];refine IsA.cons ?_ (ih λi hi=>low i (n_ _ hi));have hj:=low j p_;obtain⟨x,e1,e2⟩:=h.get (i_ hj);rw[C_,C_,e1,i_ hj];exact e2
end
end DL
namespace DL
open PySem PySem.SetTable
def Ris(xs:Array Nat):Prop:=∀i j (hi:i < xs.size) (hj:j < xs.size),i < j->xs[i] < xs[j]
theorem wk{xs:Array Nat}(R:Ris xs)(j:Nat):∀(f lo hi:Nat),hi<=xs.size->lo<=hi->hi - lo<=f->(∀i (h:i < xs.size),i < lo->xs[i] < j)->(∀i (h:i < xs.size),hi<=i->j<=xs[i]) →
  (PB.go xs j f lo hi<=xs.size/\(∀i (h:i < xs.size),i < PB.go xs j f lo hi->xs[i] < j)/\∀i (h:i < xs.size),PB.go xs j f lo hi<=i->j<=xs[i])
 | 0,lo,hi,h1,h2,h3,h4,h5=>by
  rw[PB.go];exact⟨⋯,h4,λi h x=>h5 i h ⋯⟩
 | f+1,lo,hi,h1,h2,h3,h4,h5=>by
  rw[PB.go];split
  ·have hm:(lo+hi) / 2 < xs.size:=by omega
   have e:xs.getD ((lo+hi) / 2) j=xs[(lo+hi) / 2]:=by rw[Ug,dif_pos hm];rfl
   dsimp only;rw[e];split
   ·rename_i lt;refine wk R j f ((lo+hi) / 2+1) hi h1 ⋯ ⋯ (λi h x=>?_) h5;by_cases z:i=(lo+hi) / 2
    ·subst z;exact lt
    ·exact Nat.lt_trans (R i _ h hm ⋯) lt
   ·rename_i nL;refine wk R j f lo ((lo+hi) / 2) ⋯ ⋯ ⋯ h4 λi h x=>?_
    by_cases z:i=(lo+hi) / 2
    ·subst z;omega
    ·have:=R _ i hm h ⋯;omega
  ·exact⟨⋯,h4,λi h x=>h5 i h ⋯⟩
def tF{xs:Array Nat}(R:Ris xs)(j:Nat):PB xs j<=xs.size/\(∀i (h:i < xs.size),i < PB xs j->xs[i] < j)/\∀i (h:i < xs.size),PB xs j<=i->j<=xs[i]:=
 wk R j xs.size 0 xs.size (s_ _) (Mu _) (s_ _) (λi h x=>by omega) λi h x=>by omega
def Gw{xs:Array Nat}(R:Ris xs){i:Nat}(h:i < xs.size):PB xs xs[i]=i:=by
 obtain⟨b1,b2,b3⟩:=tF R xs[i]
 rcases Pu (PB xs xs[i]) i with l | l | l
 ·have:=b3 (PB xs xs[i]) ⋯ (s_ _);have:=R _ i ⋯ h l;omega
 ·exact l
 ·have:=b2 i h l;omega
section
variable {t:Nl}
def yE(R:Ris t.place){i:Nat}(h:i < t.place.size):t.slot t.place[i]=.live i:=by
 unfold slot;dsimp only;rw[Gw R h,l_ h];simp
def K7(R:Ris t.place)(hd:t.dummies=#[])(h:j∉t.place):t.slot j=.empty:=by
 unfold slot
 have e:¬(t.place[PB t.place j]? == some j)=true:=by
  intro z;have z:t.place[PB t.place j]?=some j:=by simpa using z
  exact h (Pi z)
 rw[if_neg e];unfold has;rw[hd];simp
noncomputable def hd(m i p:Nat):Probe:=⟨i,Op m i - i,i,p,none⟩
noncomputable def adv(m:Nat)(p:Probe):Probe:=match p with
 | ⟨j,k+1,i,q,d⟩=>⟨j+1,k,i,q,d⟩
 | ⟨_,0,i,q,d⟩=>⟨(Ub m i q).1,Op m (Ub m i q).1 - (Ub m i q).1,(Ub m i q).1,(Ub m i q).2,d⟩
def pth(m:Nat)(h:Int):Nat->Probe
 | 0=>hd m (RX h % (m+1)) (RX h)
 | k+1=>adv m (pth m h k)
def zH(h:Int)(k:Nat):t.advance (pth t.mask h k)=pth t.mask h (k+1):=by
 rw[pth]
 rcases pth t.mask h k with⟨j,more,i,q,d⟩
 cases more<;>rfl
theorem xT(m:Nat)(h:Int):∀k,(pth m h k).dummy=none
 | 0=>rfl
 | k+1=>by
  have ih:=xT m h k;rw[pth]
  revert ih
  rcases pth m h k with⟨j,more,i,q,d⟩
  intro ih;cases more<;>exact ih
def sl(m:Nat)(h:Int)(k:Nat):Nat:=(pth m h k).j
theorem xf{m:Nat}{h:Int}{c i p:Nat}(e:pth m h c=hd m i p):∀d,d<=Op m i - i->pth m h (c+d)=⟨i+d,Op m i - i - d,i,p,none⟩
 | 0,_=>e
 | d+1,bp=>by
  have ih:=xf e d ⋯;rw[←Nat.add_assoc,pth,ih];obtain⟨k,hk⟩:∃k,Op m i - i - d=k+1:=⟨Op m i - i - d - 1,⋯⟩;rw[hk,show Op m i - i - (d+1)=k by omega];rfl
def zp{m:Nat}{h:Int}{c i p:Nat}(e:pth m h c=hd m i p):pth m h (c+(Op m i - i)+1)=hd m (Ub m i p).1 (Ub m i p).2:=by
 have:=xf e (Op m i - i) (s_ _);rw[pth,this,SH];rfl
def CP(m i:Nat):Op m i - i<=9:=by
 unfold Op;split<;>omega
noncomputable def lp(m:Nat):Nat->Nat->Nat->Nat×Nat
 | 0,i,p=>(i,p)
 | n+1,i,p=>lp m n (Ub m i p).1 (Ub m i p).2
theorem yl{m:Nat}{h:Int}:∀(n c i p:Nat),pth m h c=hd m i p->∃c',c<=c'/\c'<=c+10*n/\pth m h c'=hd m (lp m n i p).1 (lp m n i p).2
 | 0,c,i,p,e=>⟨c,s_ _,⋯,e⟩
 | n+1,c,i,p,e=>by
  obtain⟨c',h1,h2,h3⟩:=yl n _ _ _ (zp e);have:=CP m i;exact⟨c',⋯,⋯,h3⟩
theorem Ad(m:Nat):∀(a b i p:Nat),lp m (a+b) i p=lp m b (lp m a i p).1 (lp m a i p).2
 | 0,b,i,p=>by rw[TQ];rfl
 | a+1,b,i,p=>by rw[Nat.succ_add,lp,Ad m a b];rfl
theorem Ba(m:Nat):∀(n i p:Nat),(lp m n i p).2=p / 32 ^ n
 | 0,i,p=>by simp[lp]
 | n+1,i,p=>by
  rw[lp,Ba m n];show(p / 32) / 32 ^ n=_;rw[Nat.div_div_eq_div_mul,Nat.pow_succ,Nat.mul_comm]
theorem z0{m:Nat}:∀(n i p:Nat),i < m+1->(lp m n i p).1 < m+1
 | 0,i,p,h=>h
 | n+1,i,p,h=>by
  exact z0 n _ _ (Uc _ (SI _))
def DO(h:Int):RX h < 2 ^ 64:=by
 unfold RX;omega
def Round(m:Nat):Prop:=∀i,i < m+1->∀j,j < m+1->∃n,n < m+1/\(lp m n i 0).1=j
def round7:Round 7:=by
 have:∀i,i < 8->∀j,j < 8->∃n,n < 8/\(lp 7 n i 0).1=j:=by decide +kernel
 exact this
def round31:Round 31:=by
 have:∀i,i < 32->∀j,j < 32->∃n,n < 32/\(lp 31 n i 0).1=j:=by decide +kernel
 exact this
def BF{m:Nat}(R:Round m)(h:Int)(hj:j < m+1):∃n,n < m+14/\(lp m n (RX h % (m+1)) (RX h)).1=j:=by
 have p0:(lp m 13 (RX h % (m+1)) (RX h)).2=0:=by
  rw[Ba];refine Nat.div_eq_of_lt (J_ (DO h) ?_);decide
 have l0:=z0 (m:=m) 13 (RX h % (m+1)) (RX h) (Uc _ (SI _));obtain⟨n,h1,h2⟩:=R _ l0 j hj;refine⟨13+n,⋯,?_⟩;rw[Ad,p0];exact h2
def E6{m:Nat}(R:Round m)(h:Int)(hj:j < m+1):∃k,k < 10*(m+14)/\sl m h k=j:=by
 obtain⟨n,h1,h2⟩:=BF R h hj;obtain⟨c,h3,h4,h5⟩:=yl (m:=m) (h:=h) n 0 _ _ rfl;refine⟨c,⋯,?_⟩;unfold sl;rw[h5];exact h2
end
noncomputable def hA(es:Array (Int×b_))(i:Nat):Int:=(es[i]?.map (·.1)).getD 0
def zD{i:Nat}(h:i < es.size):hA es i=es[i].1:=by
 unfold hA;rw[l_ h];rfl
structure TabOk(t:Nl)(es:Array (Int×b_)):Prop where
 nd:t.dummies=#[]
 ris:Ris t.place
 sz:t.place.size=es.size
 low:∀i (h:i < t.place.size),t.place[i]<=t.mask
 few:t.place.size<=18/\(t.mask=31\/(t.mask=7/\t.place.size<=4))
 pl:t.plain=true
 reach:∀i (h:i < es.size) (h':i < t.place.size),∃k,sl t.mask es[i].1 k=t.place[i]/\∀k',k' < k->sl t.mask es[i].1 k'∈t.place
theorem wy:∀(n:Nat) (l:List Nat),(∀j,j < n->j∈l)->n<=l.length
 | 0,_,_=>Mu _
 | n+1,l,h=>by
  have:=wy n (l.erase n) λj hj=>(List.mem_erase_of_ne ⋯).mpr (h j ⋯)
  rw[QT (h n ⋯)] at this;have:0 < l.length:=List.length_pos_of_mem (h n ⋯);omega
section
variable{t:Nl}
def TabOk.round(T:TabOk t es):Round t.mask:=by
 rcases T.few.2 with h | h
 ·rw[h];exact round31
 ·rw[h.1];exact round7
def TabOk.free(T:TabOk t es)(h:Int):∃K,K < 10*(t.mask+14)/\sl t.mask h K∉t.place/\∀k,k < K->sl t.mask h k∈t.place:=by
 have ex:∃k,k < 10*(t.mask+14)/\sl t.mask h k∉t.place:=by
  apply PV
  intro no
  have:t.mask+1<=t.place.toList.length:=wy (t.mask+1) _ λj hj=>by
   obtain⟨k,k1,k2⟩:=E6 T.round h hj
   apply PV
   intro nj;exact no ⟨k,k1,by rw[k2];simpa using nj⟩
  rw[MP] at this;have:=T.few;omega
 obtain⟨k,k1,k2⟩:=ex
 induction k using Nat.strongRecOn with
 | ind k ih =>
  by_cases z:∃k',k' < k/\sl t.mask h k'∉t.place
  ·obtain⟨k',a,b⟩:=z;exact ih k' a ⋯ b
  ·refine⟨k,k1,k2,λk' bA=>?_⟩
   apply PV
   intro nj;exact z ⟨k',bA,nj⟩
def BJ{m i:Nat}(h:i<=m):i+(Op m i - i)<=m:=by
 unfold Op;split<;>omega
theorem tO(m:Nat)(h:Int):∀k,(pth m h k).j+(pth m h k).more<=m/\(pth m h k).i<=m
 | 0=>by
  have:RX h % (m+1)<=m:=SJ (Uc _ (SI _));exact⟨BJ this,this⟩
 | k+1=>by
  have ih:=tO m h k;rw[pth]
  revert ih
  rcases pth m h k with⟨j,more,i,q,d⟩
  intro ih;cases more with
  | zero =>
   have:(Ub m i q).1<=m:=SJ (Uc _ (SI _));exact⟨BJ this,this⟩
  | succ more =>
   dsimp only at ih;exact⟨by show j+1+more<=m;omega,ih.2⟩
def IN{xs:Array Nat}(h:j∈xs):∃i,∃h:i < xs.size,xs[i]=j:=by
 obtain⟨i,hi,e⟩:=PC h;exact⟨i,hi,e⟩
theorem Ay(T:TabOk t es){h:Int}{K:Nat}(hK:sl t.mask h K∉t.place)(hk:∀k,k < K->sl t.mask h k∈t.place):∀(f k:Nat),k<=K->K - k < f →
  (∃k' i,∃hi:i < es.size,∃aL:i < t.place.size,k<=k'/\k' < K/\t.place[i]=sl t.mask h k'/\es[i].1=h/\Ql t (hA es) h f (pth t.mask h k)=some (.candidate (sl t.mask h k') i (pth t.mask h (k'+1))) ∧
   ∀aR,k<=aR->aR < k'->∀j (hj:j < es.size) (aP:j < t.place.size),t.place[j]=sl t.mask h aR->es[j].1≠h) ∨
  (Ql t (hA es) h f (pth t.mask h k)=some (.empty (sl t.mask h K) none)/\∀aR,k<=aR->aR < K->∀j (hj:j < es.size) (aP:j < t.place.size),t.place[j]=sl t.mask h aR->es[j].1≠h)
 | 0,k,h1,h2=>by omega
 | f+1,k,h1,h2=>by
  by_cases z:k=K
  ·subst z;right;refine⟨?_,λaR a b=>by omega⟩;rw[Ql,show(pth t.mask h k).j=sl t.mask h k from rfl,K7 T.ris T.nd hK,xT]
  ·obtain⟨i,hi,e⟩:=IN (hk k ⋯);have ff:i < es.size:=by rw[←T.sz];exact hi
   have st:t.slot (pth t.mask h k).j=.live i:=by
    rw[show(pth t.mask h k).j=t.place[i] from e.symm];exact yE T.ris hi
   have only:∀j (aP:j < t.place.size),t.place[j]=sl t.mask h k->j=i:=λj aP ej=>by
    rcases Pu j i with l | l | l
    ·have:=T.ris j i aP hi l;omega
    ·exact l
    ·have:=T.ris i j hi aP l;omega
   by_cases same:es[i].1=h
   ·left;refine⟨k,i,ff,hi,s_ _,⋯,e,same,?_,λaR a b=>by omega⟩;rw[Ql,st];dsimp only;rw[zD ff,same,if_pos (by simp),zH];rfl
   ·have go:Ql t (hA es) h (f+1) (pth t.mask h k)=Ql t (hA es) h f (pth t.mask h (k+1)):=by
     rw[Ql,st];dsimp only;rw[zD ff,if_neg (by simpa using same),zH]
    rw[go]
    have here:∀j (hj:j < es.size) (aP:j < t.place.size),t.place[j]=sl t.mask h k->es[j].1≠h:=λj hj aP ej=>by
     have:=only j aP ej;subst this;exact same
    rcases Ay T hK hk f (k+1) ⋯ ⋯ with⟨k',i',a1,a2,a3,a4,a5,a6,a7,a8⟩ | ⟨a1,a2⟩
    ·refine .inl ⟨k',i',a1,a2,⋯,a4,a5,a6,a7,λaR b1 b2 j hj aP ej=>?_⟩;by_cases z':aR=k
     ·subst z';exact here j hj aP ej
     ·exact a8 aR ⋯ b2 j hj aP ej
    ·refine .inr ⟨a1,λaR b1 b2 j hj aP ej=>?_⟩;by_cases z':aR=k
     ·subst z';exact here j hj aP ej
     ·exact a2 aR ⋯ b2 j hj aP ej
def qi{α:Type}{xs:Array α}{p:Nat}(hp:p<=xs.size)(x:α)(i:Nat):(Nx xs p x)[i]?=if i < p then xs[i]? else if i=p then some x else xs[i - 1]?:=by
 unfold Nx;rw[Array.getElem?_append,Array.size_push,P6];have e:min p xs.size - 0=p:=by omega
 rw[e];by_cases h1:i < p
 ·rw[if_pos ⋯,if_pos h1,RY,P6,e,if_neg ⋯,Ro,if_pos ⋯,TQ]
 ·rw[if_neg h1];by_cases h2:i=p
  ·rw[if_pos ⋯,if_pos h2,RY,P6,e,if_pos h2]
  ·rw[if_neg ⋯,if_neg h2,Ro];by_cases h3:i - (p+1) < min xs.size xs.size - p
   ·rw[if_pos h3]
    congr 1
    omega
   ·rw[if_neg h3]
    symm
    rw[NM];omega
def vC{α:Type}{xs:Array α}{p:Nat}(hp:p<=xs.size)(x:α):(Nx xs p x).size=xs.size+1:=by
 unfold Nx;rw[Array.size_append,Array.size_push,P6,P6];omega
def yO{α:Type}{xs:Array α}{p:Nat}(hp:p<=xs.size)(x y:α):y∈Nx xs p x↔y=x\/y∈xs:=by
 constructor
 ·intro h;obtain⟨i,e⟩:=OG.mp h;rw[qi hp] at e;split at e
  ·exact .inr (Pi e)
  ·split at e
   ·cases e;exact .inl rfl
   ·exact .inr (Pi e)
 ·rintro(rfl | h)
  ·refine OG.mpr ⟨p,?_⟩;rw[qi hp,if_neg ⋯,if_pos rfl]
  ·obtain⟨i,e⟩:=OG.mp h;by_cases z:i < p
   ·exact OG.mpr ⟨i,by rw[qi hp,if_pos z];exact e⟩
   ·exact OG.mpr ⟨i+1,by rw[qi hp,if_neg ⋯,if_neg ⋯];exact e⟩
def wL(T:TabOk t es){h:Int}{x:b_}{K:Nat}(hK:sl t.mask h K∉t.place)(hk:∀k,k < K->sl t.mask h k∈t.place):
  let q:=t.put (sl t.mask h K)
  q.1.dummies=#[]/\Ris q.1.place/\q.1.place.size=(Nx es q.2 (h,x)).size/\(∀i (h:i < q.1.place.size),q.1.place[i]<=q.1.mask)/\q.1.mask=t.mask/\q.1.plain=t.plain/\q.1.led=t.led/\q.1.moves=t.moves/\q.1.place.size=t.place.size+1/\q.2<=es.size ∧
   (∀i (h1:i < (Nx es q.2 (h,x)).size) (h2:i < q.1.place.size),∃k,sl q.1.mask (Nx es q.2 (h,x))[i].1 k=q.1.place[i]/\∀k',k' < k->sl q.1.mask (Nx es q.2 (h,x))[i].1 k'∈q.1.place):=by
 intro q;obtain⟨b1,b2,b3⟩:=tF T.ris (sl t.mask h K);have q2:q.2=PB t.place (sl t.mask h K):=rfl;have q1:q.1.place=Nx t.place (PB t.place (sl t.mask h K)) (sl t.mask h K):=rfl;have hp:q.2<=es.size:=by rw[q2,←T.sz];exact b1
 have nh:has t.dummies (sl t.mask h K)=false:=by rw[T.nd];rfl
 have qd:q.1.dummies=#[]:=by
  show(if has t.dummies (sl t.mask h K)=true then _ else t.dummies)=_;rw[nh,if_neg q_];exact T.nd
 have get:∀i (h2:i < q.1.place.size),(i < q.2/\∃hi:i < t.place.size,q.1.place[i]=t.place[i])\/(i=q.2/\q.1.place[i]=sl t.mask h K)\/(q.2 < i/\∃hi:i - 1 < t.place.size,q.1.place[i]=t.place[i - 1]):=λi h2=>by
  have e:=qi (x:=sl t.mask h K) b1 i;rw[←q1,←q2,l_ h2] at e;by_cases z1:i < q.2
  ·rw[if_pos z1] at e;obtain⟨hi,e⟩:=MJ.mp e.symm;exact .inl ⟨z1,hi,e.symm⟩
  ·rw[if_neg z1] at e;by_cases z2:i=q.2
   ·rw[if_pos z2] at e;exact .inr (.inl ⟨z2,Mt e⟩)
   ·rw[if_neg z2] at e;obtain⟨hi,e⟩:=MJ.mp e.symm;exact .inr (.inr ⟨⋯,hi,e.symm⟩)
 have sz:q.1.place.size=t.place.size+1:=by rw[q1];exact vC b1 _
 have ne:∀i (hi:i < t.place.size),t.place[i]≠sl t.mask h K:=λi hi z=>hK (by rw[←z];exact NK hi)
 refine⟨qd,?_,by rw[sz,vC hp,T.sz],?_,rfl,rfl,rfl,rfl,sz,hp,?_⟩
 ·intro i j hi hj lt
  rcases get i hi with⟨a1,a2,a3⟩ | ⟨a1,a3⟩ | ⟨a1,a2,a3⟩<;>rcases get j hj with⟨c1,c2,c3⟩ | ⟨c1,c3⟩ | ⟨c1,c2,c3⟩
  ·rw[a3,c3];exact T.ris i j a2 c2 lt
  ·rw[a3,c3];exact b2 i a2 ⋯
  ·rw[a3,c3];have:=b2 i a2 ⋯;have:=b3 (j - 1) c2 ⋯;omega
  ·omega
  ·omega
  ·rw[a3,c3];have:=b3 (j - 1) c2 ⋯;have:=ne (j - 1) c2;omega
  ·omega
  ·omega
  ·rw[a3,c3];exact T.ris (i - 1) (j - 1) a2 c2 ⋯
 ·intro i hi;show _<=t.mask
  rcases get i hi with⟨a1,a2,a3⟩ | ⟨a1,a3⟩ | ⟨a1,a2,a3⟩
  ·rw[a3];exact T.low _ _
  ·rw[a3];have:=(tO t.mask h K).1;unfold sl;omega
  ·rw[a3];exact T.low _ _
 ·intro i h1 h2;have cz:∀y,y∈t.place->y∈q.1.place:=λy hy=>by rw[q1];exact(yO b1 _ _).mpr (.inr hy)
  have e:=qi (x:=(h,x)) hp i;rw[l_ h1] at e
  rcases get i h2 with⟨a1,a2,a3⟩ | ⟨a1,a3⟩ | ⟨a1,a2,a3⟩
  ·rw[if_pos a1] at e;obtain⟨hi,e⟩:=MJ.mp e.symm;obtain⟨k,k1,k2⟩:=T.reach i hi a2;rw[←e,a3];exact⟨k,k1,λk' bA=>cz _ (k2 k' bA)⟩
  ·rw[if_neg ⋯,if_pos a1] at e;rw[Mt e,a3];exact⟨K,rfl,λk' bA=>cz _ (hk k' bA)⟩
  ·rw[if_neg ⋯,if_neg ⋯] at e;obtain⟨hi,e⟩:=MJ.mp e.symm;obtain⟨k,k1,k2⟩:=T.reach (i - 1) hi a2;rw[←e,a3];exact⟨k,k1,λk' bA=>cz _ (k2 k' bA)⟩
end
noncomputable def tak(o:Array (Option Nat))(j:Nat):Bool:=(o.getD j (some 0)).isSome
theorem Bb{m:Nat}{o:Array (Option Nat)}{h:Int}:∀(f c i p:Nat),pth m h c=hd m i p →
  (∃k,c<=k/\Pv m o f i p=some (sl m h k)/\tak o (sl m h k)=false/\∀k',c<=k'->k' < k->tak o (sl m h k')=true)\/(∀n,n < f->tak o (lp m n i p).1=true)
 | 0,c,i,p,e=>.inr λn h=>by omega
 | f+1,c,i,p,e=>by
  have run:=λd bp=>xf e d bp
  have at':∀d,d<=Op m i - i->sl m h (c+d)=i+d:=λd bp=>by unfold sl;rw[run d bp]
  have up:i<=Op m i:=by unfold Op;split<;>omega
  rw[Pv];cases hf:(MO (Op m i+1 - i)).find? λk=>(o.getD (i+k) (some 0)).isNone with
  | some d =>
   obtain⟨d1,d2,d3⟩:=List.find?_range_eq_some.mp hf;rw[MG] at d2;left;refine⟨c+d,⋯,?_,?_,λk' a b=>?_⟩
   ·dsimp only;rw[at' d ⋯]
   ·rw[at' d ⋯];unfold tak;cases x:o.getD (i+d) (some 0) with
    | none=>rfl
    | some v=>rw[x] at d1;cases d1
   ·obtain⟨d',rfl⟩:∃d',k'=c+d':=⟨k' - c,⋯⟩;rw[at' d' ⋯];have:=d3 d' ⋯;unfold tak;cases x:o.getD (i+d') (some 0) with
    | none=>rw[x] at this;cases this
    | some v=>rfl
  | none =>
   have no:=List.find?_range_eq_none.mp hf
   have all:∀k',c<=k'->k' < c+(Op m i - i)+1->tak o (sl m h k')=true:=λk' a b=>by
    obtain⟨d',rfl⟩:∃d',k'=c+d':=⟨k' - c,⋯⟩;rw[at' d' ⋯];have:=no d' ⋯;unfold tak;cases x:o.getD (i+d') (some 0) with
    | none=>rw[x] at this;cases this
    | some v=>rfl
   rcases Bb (o:=o) f _ _ _ (zp e) with⟨k,k1,k2,k3,k4⟩ | ad
   ·left;refine⟨k,⋯,k2,k3,λk' a b=>?_⟩;by_cases z:k' < c+(Op m i - i)+1
    ·exact all k' a z
    ·exact k4 k' ⋯ b
   ·right;intro n hn;cases n with
    | zero =>
     have:=all c (s_ _) ⋯;rw[←Nat.add_zero c,at' 0 ⋯] at this;exact this
    | succ n =>
     exact ad n ⋯
theorem um:∀(k:Nat) (l:List Nat),l.Nodup->(∀x∈l,x < k)->l.length<=k
 | 0,l,_,h=>by
  cases l with
  | nil=>exact s_ _
  | cons x l=>exact absurd (h x p_) (Ov _)
 | k+1,l,nd,h=>by
  by_cases z:k∈l
  ·have:=um k (l.erase k) (nd.erase k) λx hx=>by
    have h1:=h x (Rv hx)
    have h2:x≠k:=λe=>by
     subst e;exact(TV.not_mem_erase nd) hx
    omega
   rw[QT z] at this;omega
  ·have:=um k l nd λx hx=>by
    have h1:=h x hx;have h2:x≠k:=λe=>z (e▸hx)
    omega
   omega
structure Laid(m:Nat)(hs:List Int)(o:Array (Option Nat))(k:Nat):Prop where
 sz:o.size=m+1
 old:∀(j v:Nat),o[j]?=some (some v)->v < k
 one:∀(j j' v:Nat),o[j]?=some (some v)->o[j']?=some (some v)->j=j'
 way:∀(v:Nat),v < k->∃(j c:Nat),o[j]?=some (some v)/\sl m (hs.getD v 0) c=j/\∀c',c' < c->tak o (sl m (hs.getD v 0) c')=true
def Laid.room{m:Nat}{o:Array (Option Nat)}{k:Nat}(L:Laid m hs o k)(hk:k<=m):∃j,j < m+1/\tak o j=false:=by
 apply PV
 intro no
 have all:∀j,j < m+1->∃v,o[j]?=some (some v):=λj hj=>by
  have t:tak o j=true:=by
   cases x:tak o j with
   | true=>rfl
   | false=>exact absurd ⟨j,hj,x⟩ no
  unfold tak at t;rw[Ug,dif_pos (by rw[L.sz];exact hj)] at t;rw[l_ (by rw[L.sz];exact hj)];cases x:o[j]'(by rw[L.sz];exact hj) with
  | none=>simp[x] at t
  | some v=>exact⟨v,rfl⟩
 have nd:((MO (m+1)).map λj=>((o[j]?).bind id).getD 0).Nodup:=by
  unfold TV;rw[SK];refine Qm ?_ QC;intro a b ha hb ne e;obtain⟨v,hv⟩:=all a (MG.mp ha);obtain⟨v',bx⟩:=all b (MG.mp hb);rw[hv,bx] at e;subst e;exact ne (L.one a b v hv bx)
 have:=um k _ nd λx hx=>by
  obtain⟨j,hj,rfl⟩:=F_.mp hx;obtain⟨v,hv⟩:=all j (MG.mp hj);rw[hv];exact L.old j v hv
 rw[c_,MD] at this;omega
def Laid.step{m:Nat}(R:Round m){o:Array (Option Nat)}{k:Nat}(L:Laid m hs o k)(hk:k<=m):∃j,Pv m o (TW m) (RX (hs.getD k 0) % (m+1)) (RX (hs.getD k 0))=some j/\Laid m hs (o.setIfInBounds j (some k)) (k+1):=by
 rcases Bb (m:=m) (o:=o) (h:=hs.getD k 0) (TW m) 0 _ _ rfl with⟨K,_,k2,k3,k4⟩ | full
 ·refine⟨_,k2,?_⟩
  have hj:sl m (hs.getD k 0) K < o.size:=by
   rw[L.sz];have:=(tO m (hs.getD k 0) K).1;unfold sl;omega
  have free:o[sl m (hs.getD k 0) K]?=some none:=by
   unfold tak at k3;rw[NR,l_ hj] at k3;rw[l_ hj];cases x:o[sl m (hs.getD k 0) K] with
   | none=>rfl
   | some v=>rw[x] at k3;cases k3
  have get:∀i,(o.setIfInBounds (sl m (hs.getD k 0) K) (some k))[i]?=if sl m (hs.getD k 0) K=i then some (some k) else o[i]?:=λi=>by
   rw[Array.getElem?_setIfInBounds];split
   ·rename_i e;simp[hj]
   ·rfl
  have more:∀i,tak o i=true->tak (o.setIfInBounds (sl m (hs.getD k 0) K) (some k)) i=true:=λi hi=>by
   unfold tak at hi ⊢;rw[NR] at hi ⊢;rw[get];split
   ·rfl
   ·exact hi
  refine⟨by rw[Array.size_setIfInBounds];exact L.sz,λj v e=>?_,λj j' v e e'=>?_,λv hv=>?_⟩
  ·rw[get] at e;split at e
   ·cases e;omega
   ·have:=L.old j v e;omega
  ·rw[get] at e e';split at e
   ·cases e;split at e'
    ·omega
    ·have:=L.old j' k e';omega
   ·split at e'
    ·cases e';have:=L.old j k e;omega
    ·exact L.one j j' v e e'
  ·by_cases z:v=k
   ·subst z;exact⟨_,K,by rw[get,if_pos rfl],rfl,λc' aZ=>more _ (k4 c' (Mu _) aZ)⟩
   ·obtain⟨j,c,e1,e2,e3⟩:=L.way v ⋯;refine⟨j,c,?_,e2,λc' aZ=>more _ (e3 c' aZ)⟩;rw[get,if_neg ?_]
    ·exact e1
    ·intro e;subst e;rw[free] at e1;cases e1
 ·obtain⟨j,hj,tj⟩:=L.room hk;obtain⟨n,n1,n2⟩:=BF R (hs.getD k 0) hj;have:=full n (by unfold TW;omega);rw[n2,tj] at this;cases this
def D3{m:Nat}(R:Round m)(hs:List Int)(hm:hs.length<=m):∃o,layClean m hs.toArray=some o/\Laid m hs o hs.length:=by
 unfold layClean;rw[←Array.foldl_toList]
 have key:∀(l pre:List Int) (o:Array (Option Nat)),hs=pre++l->Laid m hs o pre.length->∃o',List.foldl (λac h=>do
   let (owner,k) ←ac
   let j ←Pv m owner (TW m) (RX h % (m+1)) (RX h)
   pure (owner.setIfInBounds j (some k),k+1)) (some (o,pre.length)) l=some (o',hs.length)/\Laid m hs o' hs.length:=by
  intro l
  induction l with
  | nil =>
   intro pre o e L;rw[MY] at e;subst e;exact⟨o,rfl,L⟩
  | cons h l ih =>
   intro pre o e L;have gk:hs.getD pre.length 0=h:=by rw[e,C_];simp
   have lk:pre.length<=m:=by
    have:=congrArg length e;simp at this;omega
   obtain⟨j,j1,j2⟩:=L.step R lk;rw[gk] at j1;obtain⟨o',h1,h2⟩:=ih (pre++[h]) (o.setIfInBounds j (some pre.length)) (by rw[e];simp) (by simpa using j2);refine⟨o',?_,h2⟩;rw[So,←h1]
   congr 1
   show(Pv m o (TW m) (RX h % (m+1)) (RX h)).bind _=_;rw[j1];simp
 have aD:∀(j v:Nat),(Array.replicate (m+1) (none:Option Nat))[j]?=some (some v)->False:=λj v e=>by
  rw[Array.getElem?_replicate] at e;split at e
  ·cases e
  ·cases e
 obtain⟨o',h1,h2⟩:=key hs [] (Array.replicate (m+1) none) rfl ⟨by simp,λj v e=>(aD j v e).elim,λj j' v e=>(aD j v e).elim,λv hv=>absurd hv (Ov _)⟩
 exact⟨o',by
  have:=congrArg (Option.map (·.1)) h1
  exact this,h2⟩
def Dj(few:es.size<=18)(finger moves:Nat)(led:Bool):∃t bf,laid 31 finger moves led true (es.map (·.1))=some (t,bf)/\(bf.filterMap (es[·]?)).size=es.size/\TabOk t (bf.filterMap (es[·]?))/\t.mask=31/\t.led=led ∧
  (∀x,x∈bf.filterMap (es[·]?)↔x∈es):=by
 obtain⟨o,h1,L⟩:=D3 round31 (es.map (·.1)).toList (by simp;omega);have nl:(es.map (·.1)).toList.length=es.size:=by simp
 rw[nl] at L;obtain⟨live,cF⟩:∃live:List (Nat×Nat),live=(MO 32).filterMap λj=>(o.getD j none).map (j,·):=⟨_,rfl⟩
 have mem:∀j v,(j,v)∈live↔o[j]?=some (some v):=λj v=>by
  rw[cF,Qe];constructor
  ·rintro⟨a,ha,e⟩;rw[NR] at e;cases x:o[a]? with
   | none=>rw[x] at e;cases e
   | some w =>
    rw[x] at e;cases w with
    | none=>cases e
    | some w=>cases e;exact x
  ·intro e;have:=(MJ.mp e).1;refine⟨j,MG.mpr (by rw[L.sz] at this;exact this),?_⟩;rw[NR,e];rfl
 have ris:live.Pairwise λa b=>a.1 < b.1:=by
  rw[cF,List.pairwise_filterMap];refine Sc.imp ?_ List.pairwise_lt_range;intro a b lt x hx y hy;cases e:o.getD a none with
  | none=>rw[e] at hx;cases hx
  | some v =>
   rw[e] at hx;cases hx;cases e':o.getD b none with
   | none=>rw[e'] at hy;cases hy
   | some v'=>rw[e'] at hy;cases hy;exact lt
 have snd:(live.map (·.2)).Nodup:=by
  unfold TV;rw[SK];refine Qm ?_ ris;intro a b ha hb lt e;have h1:=(mem a.1 a.2).mp ha;have h2:=(mem b.1 b.2).mp hb;rw[e] at h1;have:=L.one _ _ _ h1 h2;omega
 have lo:live.length=es.size:=by
  refine Nat.le_antisymm ?_ ?_
  ·have:=um es.size (live.map (·.2)) snd λx hx=>by
    obtain⟨q,hq,rfl⟩:=F_.mp hx;exact L.old q.1 q.2 ((mem _ _).mp hq)
   simpa using this
  ·have:=wy es.size (live.map (·.2)) λv hv=>by
    obtain⟨j,c,e,_⟩:=L.way v hv;exact F_.mpr ⟨(j,v),(mem j v).mpr e,rfl⟩
   simpa using this
 have low:∀q∈live,q.2 < es.size:=λq hq=>L.old q.1 q.2 ((mem _ _).mp hq)
 have out:((live.map (·.2)).toArray.filterMap (es[·]?)).toList=live.map λq=>es[q.2]?.getD (0,b_.none):=by
  rw[Array.toList_filterMap];clear lo snd ris mem cF
  induction live with
  | nil=>rfl
  | cons q live ih =>
   have hq:=low q p_;rw[I_,Qa,l_ hq,I_,l_ hq];rw[ih λq hq=>low q (n_ _ hq)];rfl
 refine⟨{ mask:=31,place:=(live.map (·.1)).toArray,dummies:=#[],finger,led,moves,plain:=true },(live.map (·.2)).toArray,?_,?_,?_,rfl,rfl,λx=>?_⟩
 ·unfold laid;rw[h1];show some _=some _;rw[cF]
 ·rw[←MP,out,c_,lo]
 ·have kQ:((live.map (·.2)).toArray.filterMap (es[·]?)).size=live.length:=by rw[←MP,out,c_]
  have kR:∀i (h1:i < ((live.map (·.2)).toArray.filterMap (es[·]?)).size) (h2:i < live.length),((live.map (·.2)).toArray.filterMap (es[·]?))[i]=es[live[i].2]?.getD (0,b_.none):=λi h1 h2=>by
   rw[←RG]
   have:((live.map (·.2)).toArray.filterMap (es[·]?)).toList[i]'(by rw[MP];exact h1)=(live.map λq=>es[q.2]?.getD (0,b_.none))[i]'(by simpa using h2):=by
    congr 1
   rw[this,QA]
  refine⟨rfl,λi j hi hj lt=>?_,?_,λi hi=>?_,⟨?_,.inl rfl⟩,rfl,λi h1 h2=>?_⟩
  ·simp at hi hj;simp only[PD,QA];exact(Qv.mp ris) i j hi hj lt
  ·rw[kQ];simp
  ·simp at hi;simp only[PD,QA];have:=(mem live[i].1 live[i].2).mp (Nf hi);have:=(MJ.mp this).1;rw[L.sz] at this;omega
  ·simp;omega
  ·have d9:i < live.length:=by simpa using h2
   rw[kR i h1 d9];simp only[PD,QA];have m1:=(mem live[i].1 live[i].2).mp (Nf d9);have v1:=low live[i] (Nf d9);obtain⟨j,c,e1,e2,e3⟩:=L.way live[i].2 v1;have:j=live[i].1:=L.one _ _ _ e1 m1;subst this
   have hh:(es.map (·.1)).toList.getD live[i].2 0=es[live[i].2].1:=by
    simp[v1]
   rw[hh] at e2 e3;rw[l_ v1];refine⟨c,e2,λc' aZ=>?_⟩;have tk:=e3 c' aZ;unfold tak at tk;have lt:=(tO 31 es[live[i].2].1 c').1;have lt:sl 31 es[live[i].2].1 c' < o.size:=by rw[L.sz];unfold sl;omega
   rw[Ug,dif_pos lt] at tk;cases x:o[sl 31 es[live[i].2].1 c'] with
   | none=>simp[x] at tk
   | some v =>
    have:(sl 31 es[live[i].2].1 c',v)∈live:=(mem _ _).mpr (by rw[l_ lt,x]);simp only[List.mem_toArray,F_];exact⟨_,this,rfl⟩
 ·rw[←Pw,out,F_];constructor
  ·rintro⟨q,hq,rfl⟩;rw[l_ (low q hq)];exact NK _
  ·intro hx;obtain⟨v,hv,rfl⟩:=PC hx;obtain⟨j,c,e,_⟩:=L.way v hv;refine⟨(j,v),(mem j v).mpr e,?_⟩;rw[l_ hv];rfl
end DL
namespace DL
open PySem PySem.W PySem.Spec PyProof.Rows L2
mutual
def KV(h:Mr):D->b_->Prop
 | .int i,u=>∃t,u=.int i t
 | .tup ds,u=>∃a o ab e,u=.ref a/\h.get? a=some o/\o.cls=.type "tuple"/\o.data=.seq (ab:List b_).toArray e/\KVs h ds ab
 | _,_=>False
def KVs(h:Mr):List D->List b_->Prop
 | [],[]=>True
 | d::ds,u::us=>KV h d u/\KVs h ds us
 | _,_=>False
end
mutual
noncomputable def kyB:D->Bool
 | .int _=>true
 | .tup ds=>kyA ds
 | _=>false
noncomputable def kyA:List D->Bool
 | []=>true
 | d::ds=>kyB d&&kyA ds
end
section
variable{X:Cx}{H:Hp}{s:e_}
mutual
theorem xb(I:Inv X aa B H s):∀(d:D) (x:V) (u:b_),kyB d=true->Is X.K H d x->RelV x u->KV s.heap d u
 | .int i,x,u,_,h,r=>by
  rw[oM h] at r;obtain⟨t,rfl⟩:=r;exact⟨t,rfl⟩
 | .tup ds,x,u,ky,h,r=>by
  obtain⟨a,xs,rfl,h1,h2⟩:=o7 h;cases r;obtain⟨ab,r1,t1,_⟩:=I.tuple h1;obtain⟨o,e1,e2,n,e3⟩:=t1;exact⟨a,o,ab,n,rfl,e1,e2,e3,Aa I ds xs ab ky h2 r1⟩
 | .non,_,_,ky,_,_=>by simp[kyB] at ky
 | .bl _,_,_,ky,_,_=>by simp[kyB] at ky
 | .str _,_,_,ky,_,_=>by simp[kyB] at ky
 | .lst _,_,_,ky,_,_=>by simp[kyB] at ky
theorem Aa(I:Inv X aa B H s):∀(ds:List D) (xs:List V) (us:List b_),kyA ds=true->IsA X.K H ds xs->Vals xs us->KVs s.heap ds us
 | [],xs,us,_,h,r=>by
  have:=h.nil_inv;subst this;cases r;rw[KVs];trivial
 | d::ds,xs,us,ky,h,r=>by
  obtain⟨x,xr,rfl,h1,h2⟩:=h.cons_inv;cases r with
  | cons r1 r2 =>
   rw[kyA,k_] at ky;exact⟨xb I d x _ ky.1 h1 r1,Aa I ds xr _ ky.2 h2 r2⟩
end
end
section
variable {prog:E_}{w:Mo}{E:b_->e_->Prop}
mutual
noncomputable def hD:D->Int
 | .int i=>hashInt i
 | .tup ds=>reduceHash (tupleHashOf (hDs ds))
 | _=>0
noncomputable def hDs:List D->List Int
 | []=>[]
 | d::ds=>hD d::hDs ds
end
mutual
theorem zh:∀(d:D) (u:b_) (A:Mn) (s:e_) (Q:Int->e_->Prop),KV s.heap d u->A.units+dep d < Ni->(∀tk,Q (hD d) { s with toks:=tk })->u_ (t_ prog w) A (pyHash u) Q E s
 | .int i,u,A,s,Q,x,hu,q=>by
  obtain⟨t,rfl⟩:=x;exact wpAny_pyHash_int (by have:=q (s.toks+1);rw[hD] at this;exact this)
 | .tup ds,u,A,s,Q,x,hu,q=>by
  obtain⟨a,o,ab,e,rfl,x1,x2,x3,x4⟩:=x;rw[dep] at hu;refine pyHash_slot (T:= "tuple") ⟨o,x1,x2⟩ SL F.entry_tuple_hash (F.args_tuple_hash_1 _) (beq_builtin_none _) (.inr ⋯) ?_;refine a_ (m:=tupleItemsOf (.ref a)) (wpAny_tupleItemsOf x1 x3 (a_ ?_));rw[←Rp];refine BM ds ab A.in1 s #[] _ x4 (by show A.units+1+_ < _;omega) λtk b hb=>?_
  refine a_ (m:=mkInt (tupleHashOf b.toList)) (wpAny_mkInt (d_ ⟨_,_,rfl,?_⟩));rw[hb];have:=q (tk+1);exact this
 | .non,_,_,_,_,x,_,_=>by simp[KV] at x
 | .bl _,_,_,_,_,x,_,_=>by simp[KV] at x
 | .str _,_,_,_,_,x,_,_=>by simp[KV] at x
 | .lst _,_,_,_,_,x,_,_=>by simp[KV] at x
theorem BM:∀(ds:List D) (us:List b_) (A:Mn) (s:e_) (b:Array Int) (Q:Array Int->e_->Prop),KVs s.heap ds us->A.units+depA ds < Ni->(∀tk b',b'.toList=b.toList++hDs ds->Q b' { s with toks:=tk }) →
  u_ (t_ prog w) A (forIn us b λx r=>do let h ←pyHash x;pure unit;pure (TM (r.push h))) Q E s
 | [],us,A,s,b,Q,x,hu,q=>by
  cases us with
  | cons u us=>simp[KVs] at x
  | nil =>
   exact d_ (q s.toks b (by simp[hDs]))
 | d::ds,us,A,s,b,Q,x,hu,q=>by
  cases us with
  | nil=>simp[KVs] at x
  | cons u us =>
   rw[depA] at hu;rw[OV];refine a_ (a_ (zh d u A s _ x.1 ⋯ λtk=>a_ (d_ (d_ ?_))));exact BM ds us A { s with toks:=tk } _ Q x.2 ⋯ λcT b' hb=>q cT b' (by rw[hb,hDs];simp)
end
mutual
theorem uY:∀(d:D) (u:b_) (n:Nat) (A:Mn) (s:e_) (Q:Bool->e_->Prop),KV s.heap d u->dep d<=n->Q true s->u_ (t_ prog w) A (eqIsQuiet n u) Q E s
 | .int i,u,n,A,s,Q,x,hn,q=>by
  obtain⟨t,rfl⟩:=x;exact NH (eqIsQuiet_byValue n rfl) q
 | .tup ds,u,n,A,s,Q,x,hn,q=>by
  obtain⟨a,o,ab,e,rfl,x1,x2,x3,x4⟩:=x;rw[dep] at hn;obtain⟨n,rfl⟩:∃k,n=k+1:=⟨n - 1,⋯⟩;have hT:s.TypeIs (.ref a) "tuple":=⟨o,x1,x2⟩;unfold eqIsQuiet;refine a_ (OQ hT F.slot_tuple_eq.lookup ?_);refine a_ (m:=isInstance (.ref a) (.type "tuple")) (NO hT isSubtype_tuple_tuple ?_);refine a_ (NA x1 x3 (a_ ?_));rw[←Rp];refine An ds ab n A s _ x4 ⋯ ?_;exact d_ q
 | .non,_,_,_,_,_,x,_,_=>by simp[KV] at x
 | .bl _,_,_,_,_,_,x,_,_=>by simp[KV] at x
 | .str _,_,_,_,_,_,x,_,_=>by simp[KV] at x
 | .lst _,_,_,_,_,_,x,_,_=>by simp[KV] at x
theorem An:∀(ds:List D) (us:List b_) (n:Nat) (A:Mn) (s:e_) (Q:Option Bool×PUnit->e_->Prop),KVs s.heap ds us->depA ds<=n->Q (none,()) s →
  u_ (t_ prog w) A (forIn us (none,()) λy r=>do
   let __do_lift ←eqIsQuiet n y
   if(!__do_lift)=true then pure (RH (some false,())) else do pure unit;pure (TM (none,()))) Q E s
 | [],us,n,A,s,Q,x,hn,q=>by
  cases us with
  | cons u us=>simp[KVs] at x
  | nil =>
   exact d_ q
 | d::ds,us,n,A,s,Q,x,hn,q=>by
  cases us with
  | nil=>simp[KVs] at x
  | cons u us =>
   rw[depA] at hn;rw[OV];refine a_ (a_ (uY d u n A s _ x.1 ⋯ ?_));refine a_ (d_ (d_ ?_));exact An ds us n A s Q x.2 ⋯ q
end
mutual
theorem wd:∀(d:D) (u:b_) (n:Nat) (A:Mn) (s:e_) (Q:Bool->e_->Prop),KV s.heap d u->dep d<=n->Q false s->u_ (t_ prog w) A (Pc n u) Q E s
 | .int i,u,n,A,s,Q,x,hn,q=>by
  obtain⟨t,rfl⟩:=x;unfold Pc;exact d_ q
 | .tup ds,u,n,A,s,Q,x,hn,q=>by
  obtain⟨a,o,ab,e,rfl,x1,x2,x3,x4⟩:=x;rw[dep] at hn;obtain⟨n,rfl⟩:∃k,n=k+1:=⟨n - 1,⋯⟩;have look:TU (t_ prog w) s.heap (S8 (.ref a)) o.cls:=(TU.ld x1).andThen .now;rw[x2] at look;unfold Pc;refine a_ (look.here ?_);dsimp only;refine a_ (d_ ?_);refine a_ (NA x1 x3 (a_ ?_));rw[←Rp];refine Ax ds ab n A s _ x4 ⋯ ?_;exact d_ q
 | .non,_,_,_,_,_,x,_,_=>by simp[KV] at x
 | .bl _,_,_,_,_,_,x,_,_=>by simp[KV] at x
 | .str _,_,_,_,_,_,x,_,_=>by simp[KV] at x
 | .lst _,_,_,_,_,_,x,_,_=>by simp[KV] at x
theorem Ax:∀(ds:List D) (us:List b_) (n:Nat) (A:Mn) (s:e_) (Q:Option Bool×PUnit->e_->Prop),KVs s.heap ds us->depA ds<=n->Q (none,()) s →
  u_ (t_ prog w) A (forIn us (none,()) λy r=>do
   let __do_lift ←Pc n y
   if __do_lift=true then pure (RH (some true,())) else do pure unit;pure (TM (none,()))) Q E s
 | [],us,n,A,s,Q,x,hn,q=>by
  cases us with
  | cons u us=>simp[KVs] at x
  | nil =>
   exact d_ q
 | d::ds,us,n,A,s,Q,x,hn,q=>by
  cases us with
  | nil=>simp[KVs] at x
  | cons u us =>
   rw[depA] at hn;rw[OV];refine a_ (a_ (wd d u n A s _ x.1 ⋯ ?_));refine a_ (d_ (d_ ?_));exact Ax ds us n A s Q x.2 ⋯ q
end
mutual
theorem BG:∀(d:D) (u:b_) (n:Nat) (A:Mn) (s:e_) (Q:Bool->e_->Prop),KV s.heap d u->dep d<=n->Q true s->u_ (t_ prog w) A (RI n u) Q E s
 | .int i,u,n,A,s,Q,x,hn,q=>by
  obtain⟨t,rfl⟩:=x;unfold RI;exact d_ q
 | .tup ds,u,n,A,s,Q,x,hn,q=>by
  obtain⟨a,o,ab,e,rfl,x1,x2,x3,x4⟩:=x;rw[dep] at hn;obtain⟨n,rfl⟩:∃k,n=k+1:=⟨n - 1,⋯⟩;have hT:s.TypeIs (.ref a) "tuple":=⟨o,x1,x2⟩;refine a_ (OQ hT SL.lookup ?_);refine a_ (m:=seqItems? (.ref a)) (NA x1 x3 (a_ ?_));rw[←Rp];refine AY ds ab n A s _ x4 ⋯ ?_;exact d_ q
 | .non,_,_,_,_,_,x,_,_=>by simp[KV] at x
 | .bl _,_,_,_,_,_,x,_,_=>by simp[KV] at x
 | .str _,_,_,_,_,_,x,_,_=>by simp[KV] at x
 | .lst _,_,_,_,_,_,x,_,_=>by simp[KV] at x
theorem AY:∀(ds:List D) (us:List b_) (n:Nat) (A:Mn) (s:e_) (Q:Option Bool×PUnit->e_->Prop),KVs s.heap ds us->depA ds<=n->Q (none,()) s →
  u_ (t_ prog w) A (forIn us (none,()) λy r=>do
   let __do_lift ←RI n y
   if(!__do_lift)=true then pure (RH (some false,())) else do pure unit;pure (TM (none,()))) Q E s
 | [],us,n,A,s,Q,x,hn,q=>by
  cases us with
  | cons u us=>simp[KVs] at x
  | nil =>
   exact d_ q
 | d::ds,us,n,A,s,Q,x,hn,q=>by
  cases us with
  | nil=>simp[KVs] at x
  | cons u us =>
   rw[depA] at hn;rw[OV];refine a_ (a_ (BG d u n A s _ x.1 ⋯ ?_));refine a_ (d_ (d_ ?_));exact AY ds us n A s Q x.2 ⋯ q
end
end
end DL
namespace DL
open PySem PySem.W PySem.Spec PyProof.Rows L2 PySem.SetTable
section
variable {prog:E_}{w:Mo}{A:Mn}{E:b_->e_->Prop}{s:e_}
theorem TabOk.fits{t:Nl}(T:TabOk t es):t.fits es.size=true:=by
 have:=T.few;have:=T.sz;unfold Nl.fits Nl.fill;rw[T.nd];simp[T.sz];omega
def TabOk.gave{t:Nl}(T:TabOk t es):t.gaveWay=false:=by
 unfold gaveWay
 rcases T.few.2 with h | h
 ·rw[h];decide
 ·rw[h.1];decide
def Hl{a:h_}{o:Obj}{t:Nl}(ho:s.heap.get? a=some o)(cU:o.data=.set es ep t)(T:TabOk t es){x:b_}{h:Int}(fg:∀i (hi:i < es.size),∃b,es[i].2=.ref b)(eq:∀i (hi:i < es.size),es[i].1=h->PySem.SeqAt.EqAt A s es[i].2 x (eqf i))(seen:t.led=false->∀Q:Bool->e_->Prop,Q false s->u_ (t_ prog w) A (QD x ((es.filter (·.1 == h)).toList.map (·.2))) Q E s){K:Nat}(hK:sl t.mask h K∉t.place)(hk:∀k,k < K->sl t.mask h k∈t.place)(nM:K < 10*(t.mask+14)){Q:SetFound->e_->Prop}(ik:∀i (hi:i < es.size),es[i].1=h->eqf i=true->Q (.there none) s)(free:(∀i (hi:i < es.size),es[i].1=h->eqf i=false)->Q (.free (sl t.mask h K) false) s):
  ∀(f k:Nat) (a9:Option Probe),k<=K->K - k < f->a9.getD (t.probeStart h)=pth t.mask h k->(∀aR,aR < k->∀j (hj:j < es.size) (aP:j < t.place.size),t.place[j]=sl t.mask h aR->es[j].1=h->eqf j=false) →
   u_ (t_ prog w) A (setSearchFrom a x h true f a9) Q E s:=by
 intro f
 induction f with
 | zero=>intro k a9 h1 h2;omega
 | succ f ih =>
  intro k a9 h1 h2 hs cx;refine a_ (Ng ho cU T.fits ?_);dsimp only;rw[T.gave,if_neg q_]
  have pr:∀m,Ql t (hA es) h (10*TW t.mask) (pth t.mask h k)=some m->t.probe (W.hashAt es) h (a9.getD (t.probeStart h))=some m:=λm e=>by
   rw[hs];exact e
  rcases Ay T hK hk (10*TW t.mask) k h1 (by unfold TW;omega) with⟨k',i,hi,aL,a1,a2,a3,a4,a5,a6⟩ | ⟨a1,a2⟩
  ·have e:=pr _ a5;have e':t.probe (λi=>(es[i]?.map (·.1)).getD 0) h (a9.getD (t.probeStart h))=some (.candidate (sl t.mask h k') i (pth t.mask h (k'+1))):=e;show u_ _ _ (match t.probe (λi=>(es[i]?.map (·.1)).getD 0) h (a9.getD (t.probeStart h)) with | some met=>_ | _=>_) _ _ _;rw[e'];dsimp only;obtain⟨b,eb⟩:=fg i hi;have gi:es[i]?=some es[i]:=l_ hi;have kT:t.slot (sl t.mask h k')=.live i:=by rw[←a3];exact yE T.ris aL
   have jp:=eq i hi a4;rw[eb] at jp;have ask:t.led=true\/t.led=false:=by cases t.led<;>simp
   rcases ask with led | led
   all_goals
    first
     | (rw[led,QU,if_neg q_])
     | (rw[led,Bool.not_false,if_pos rfl];refine a_ (seen led _ ?_);rw[if_neg q_])
    rw[gi];dsimp only;rw[eb];refine a_ (MV (jp prog w _ _ (a_ (Ng ho cU T.fits ?_))));cases c:eqf i with
    | true =>
     exact d_ (ik i hi a4 c)
    | false =>
     have sm:t.sameMemory t.moves t.mask=some true:=by unfold sameMemory;simp
     rw[sm];dsimp only;rw[if_pos rfl,kT];dsimp only;rw[gi];dsimp only;rw[eb];refine a_ (wpAny_isSame_ref_self (a_ (d_ ?_)));rw[if_pos rfl];dsimp only;refine ih (k'+1) _ ⋯ ⋯ rfl λaR b1 j hj aP ej hh=>?_
     by_cases z1:aR < k
     ·exact cx aR z1 j hj aP ej hh
     ·by_cases z2:aR=k'
      ·have:j=i:=by
        rw[z2,←a3] at ej
        rcases Pu j i with l | l | l
        ·have:=T.ris j i aP aL l;omega
        ·exact l
        ·have:=T.ris i j aL aP l;omega
       subst this;exact c
      ·exact absurd hh (a6 aR ⋯ ⋯ j hj aP ej)
  ·have e':t.probe (λi=>(es[i]?.map (·.1)).getD 0) h (a9.getD (t.probeStart h))=some (.empty (sl t.mask h K) none):=pr _ a1;show u_ _ _ (match t.probe (λi=>(es[i]?.map (·.1)).getD 0) h (a9.getD (t.probeStart h)) with | some met=>_ | _=>_) _ _ _;rw[e'];dsimp only;refine d_ (free λi hi hh=>?_);have aL:i < t.place.size:=by rw[T.sz];exact hi
   obtain⟨c,c1,c2⟩:=T.reach i hi aL;rw[hh] at c1 c2
   have cK:c < K:=by
    rcases Pu c K with l | l | l
    ·exact l
    ·subst l;exact absurd (by rw[c1];exact NK aL) hK
    ·exact absurd (c2 K l) hK
   by_cases z:c < k
   ·exact cx c z i hi aL c1.symm hh
   ·exact absurd hh (a2 c ⋯ cK i hi aL c1.symm)
end
section
variable {prog:E_}{w:Mo}{A:Mn}{E:b_->e_->Prop}{s:e_}
inductive SetAt(h:Mr)(a:h_)(led:Bool)(es:Array (Int×b_)):Prop | mk (o:Obj) (ep:Nat) (t:Nl):h.get? a=some o->o.cls=.type "set"->o.data=.set es ep t->TabOk t es->t.led=led->SetAt h a led es
def BO{h:Mr}{a:h_}{o:Obj}{es':Array (Int×b_)}{t t':Nl}(ho:h.get? a=some o)(hd:o.data=.set es ep t):(h.update a (putSet es' t')).get? a=some { o with data:=.set es' (ep+1) t' }:=by
 have e:=putSet_of es' t' hd;have:=ML (putSet es' t') ho (by rw[e];rfl);rw[e] at this;exact this
def Ma{a:h_}{led:Bool}{b:h_}{h:Int}{Q:Bool->e_->Prop}(S:SetAt s.heap a led es)(few:(∀i (hi:i < es.size),es[i].1=h->eqf i=false)->es.size<=17)(fg:∀i (hi:i < es.size),∃b,es[i].2=.ref b)(eq:∀i (hi:i < es.size),es[i].1=h->PySem.SeqAt.EqAt A s es[i].2 (.ref b) (eqf i))(seen:∀Q:Bool->e_->Prop,Q false s->u_ (t_ prog w) A (QD (.ref b) ((es.filter (·.1 == h)).toList.map (·.2))) Q E s)(value:∀Q:Bool->e_->Prop,Q true s->u_ (t_ prog w) A (RI 8 (.ref b)) Q E s)(old:∀i (hi:i < es.size),es[i].1=h->eqf i=true->Q false s)(new:(∀i (hi:i < es.size),es[i].1=h->eqf i=false)->∀h' es',SetAt h' a led es'->(∀e,e∈es'↔e=(h,.ref b)\/e∈es)->es'.size=es.size+1->KeptBut a s.heap h'->Q true { s with heap:=h' }):
  u_ (t_ prog w) A (setAddHashed a (.ref b) h) Q E s:=by
 have line:64<=B_:=by rw[MS];decide
 obtain⟨o,ep,t,ho,hc,cU,T,tl⟩:=S;obtain⟨K,k1,k2,k3⟩:=T.free h;have fits:=T.fits;refine MV ?_;refine a_ (Ng ho cU fits ?_);dsimp only;refine a_ (Hl ho cU T fg eq (λ_=>seen) k2 k3 k1 (λi hi hh ee=>?_) (λaD=>?_) 100000 0 none (Mu _) ?_ rfl λaR z=>by omega)
 ·exact d_ (old i hi hh ee)
 ·have few:=few aD;refine a_ (Ng ho cU fits ?_);obtain⟨p1,p2,p3,p4,p5,p6,p7,p8,p9,il,jq⟩:=wL T (h:=h) (x:=.ref b) k2 k3;obtain⟨q,kU⟩:∃q,q=t.put (sl t.mask h K):=⟨_,rfl⟩;rw[←kU] at p1 p2 p3 p4 p5 p6 p7 p8 p9 il jq ⊢;rw[p6,T.pl,if_pos rfl];refine a_ (value _ ?_);rw[if_pos rfl];have bZ:(Nx es q.2 (h,b_.ref b)).size=es.size+1:=vC il _;refine a_ (SN ho cU ?_ (by rw[bZ];omega));have g1:=BO (es':=Nx es q.2 (h,b_.ref b)) (t':=q.1) ho cU;have bF:KeptBut a s.heap (s.heap.update a (putSet (Nx es q.2 (h,b_.ref b)) q.1)):=λc u ne e=>(Mz _ _ (MQ ne)).trans e
  have cz:∀e,e∈Nx es q.2 (h,b_.ref b)↔e=(h,.ref b)\/e∈es:=λe=>yO il _ e
  obtain⟨h1,kW⟩:∃h1,h1=s.heap.update a (putSet (Nx es q.2 (h,b_.ref b)) q.1):=⟨_,rfl⟩;rw[←kW] at g1 bF ⊢
  have fill:q.1.fill=es.size+1:=by
   unfold Nl.fill;rw[p1,p9,T.sz];rfl
  by_cases full:q.1.tooFull=true
  ·-- laid anew: five things,32 places
   have m7:t.mask=7/\es.size+1=5:=by
    unfold tooFull at full;rw[fill,p5] at full;simp only[ge_iff_le,decide_eq_true_eq] at full;have:=T.sz
    rcases this with x
    rcases T.few.2 with m | m
    ·rw[m] at full;omega
    ·rw[m.1] at full;omega
   rw[if_pos (by simp[full])]
   have im:q.1.fits (Nx es q.2 (h,b_.ref b)).size=true:=by
    unfold Nl.fits;simp;omega
   refine a_ (a_ (Ng (s:={ s with heap:=h1 }) g1 rfl im ?_));dsimp only;have sa:sizeAbove (grown (es.size+1))=32:=by rw[m7.2];decide
   rw[sa,if_neg ⋯];obtain⟨t2,bf,l1,l2,l3,l4,l5,l6⟩:=Dj (es:=Nx es q.2 (h,b_.ref b)) (by rw[bZ];omega) q.1.finger (q.1.movedTo 31) q.1.led
   have aA:q.1.relaid ((Nx es q.2 (h,b_.ref b)).map (·.1)) (grown (es.size+1))=some (t2,bf):=by
    unfold relaid;rw[sa,p6,T.pl];exact l1
   rw[aA];refine a_ (NH (a:=(bf.filterMap ((Nx es q.2 (h,b_.ref b))[·]?),t2)) ?_ ?_)
   ·show(if((bf.filterMap ((Nx es q.2 (h,b_.ref b))[·]?)).size != (Nx es q.2 (h,b_.ref b)).size)=true then _ else pure _)=_;rw[l2,bne_self_eq_false,if_neg q_]
   ·dsimp only;refine SN g1 rfl ?_ (by rw[l2,bZ];omega);refine d_ (new aD _ _ ⟨_,_,t2,BO g1 rfl,hc,rfl,l3,by rw[l5,p7,tl]⟩ (λe=>(l6 e).trans (cz e)) (by rw[l2,bZ]) λc u ne e=>(Mz _ _ (MQ ne)).trans (bF c u ne e))
  ·rw[if_neg (by simp[full])];refine d_ (new aD h1 _ ⟨_,_,q.1,g1,hc,rfl,⟨p1,p2,p3,p4,?_,by rw[p6];exact T.pl,jq⟩,by rw[p7,tl]⟩ cz bZ bF);unfold tooFull at full;rw[fill,p5] at full;simp only[ge_iff_le,decide_eq_true_eq] at full;rw[p9,p5];refine⟨⋯,?_⟩
   rcases T.few.2 with m | m
   ·exact .inl m
   ·refine .inr ⟨m.1,?_⟩;omega
 ·rcases T.few.2 with m | m
  ·rw[m] at k1;omega
  ·rw[m.1] at k1;omega
end
def dstep(ac:List D)(d:D):List D:=if ac.any (λe=>deq e d)=true then ac else ac++[d]
def dd(ds:List D):List D:=ds.foldl dstep []
def D9(ac:List D)(d:D):ac.length<=(dstep ac d).length:=by
 unfold dstep;split
 ·exact s_ _
 ·simp
theorem A':∀(ds ac:List D),ac.length<=(ds.foldl dstep ac).length
 | [],ac=>s_ _
 | d::ds,ac=>A_ (D9 ac d) (A' ds _)
def EN(ds:List D){i:Nat}(h:i < ds.length):dd (ds.take (i+1))=dstep (dd (ds.take i)) ds[i]:=by
 unfold dd;rw[List.take_succ,QE,i_ h];rfl
def GR(ds:List D)(i:Nat):(dd (ds.take i)).length<=(dd ds).length:=by
 unfold dd
 conv=>rhs;rw[←Oq i ds,QE]
 exact A' _ _
theorem yS{d:D}:∀(ds ac:List D),d∈ds.foldl dstep ac->d∈ac\/d∈ds
 | [],ac,h=>.inl h
 | e::ds,ac,h=>by
  rcases yS ds _ h with h | h
  ·unfold dstep at h;split at h
   ·exact .inl h
   ·rcases L_.mp h with h | h
    ·exact .inl h
    ·exact .inr (by rw[m_.mp h];exact p_)
  ·exact .inr (n_ _ h)
def rJ(h:d∈dd ds):d∈ds:=by
 rcases yS ds [] h with h | h
 ·cases h
 ·exact h
section
variable{X:Cx}{H:Hp}{s:e_}{prog:E_}{w:Mo}{A:Mn}{E:b_->e_->Prop}
def Stn(X:Cx)(H:Hp)(e:Int×b_)(d:D):Prop:=e.1=hD d/\∃x,Is X.K H d x/\RelV x e.2
def EsOk(X:Cx)(H:Hp)(es:Array (Int×b_))(L:List D):Prop:=es.size=L.length/\(∀e∈es,∃d∈L,Stn X H e d)/\∀d∈L,∃e∈es,Stn X H e d
noncomputable def isT:D->Bool
 | .tup _=>true
 | _=>false
def uk{x:V}(ht:isT d=true)(h:Is X.K H d x)(r:RelV x u):∃b,x=.ref b/\u=.ref b:=by
 cases d<;>simp[isT] at ht
 obtain⟨a,xs,rfl,h1,h2⟩:=o7 h;cases r;exact⟨a,rfl,rfl⟩
def Stn.det(I:Inv X aa B H s){e:Int×b_}{d':D}(h:isT d=true)(h':isT d'=true)(x:Stn X H e d)(y:Stn X H e d'):d=d':=by
 obtain⟨_,v,a1,a2⟩:=x;obtain⟨_,v',b1,b2⟩:=y;obtain⟨b,rfl,e1⟩:=uk h a1 a2;obtain⟨b',rfl,e2⟩:=uk h' b1 b2;rw[e1] at e2;cases e2;exact rc I a1 b1
def FY{x:b_}(hx:KV s.heap d x)(dx:dep d<=8):∀(ys:List b_) (Q:Bool->e_->Prop),(∀y∈ys,∃e,KV s.heap e y/\dep e<=8)->Q false s->u_ (t_ prog w) A (QD x ys) Q E s:=by
 intro ys Q hy q;refine a_ ?_
 have key:∀(ys:List b_) (R:Option Bool×PUnit->e_->Prop) (body:b_->Option Bool×PUnit->Sem (ForInStep (Option Bool×PUnit))),(∀y∈ys,∀R':ForInStep (Option Bool×PUnit)->e_->Prop,R' (.yield (none,())) s->u_ (t_ prog w) A (body y (none,())) R' E s)->R (none,()) s →
   u_ (t_ prog w) A (forIn ys (none,()) body) R E s:=by
  intro ys R body hb r
  induction ys with
  | nil=>rw[List.forIn_nil];exact d_ r
  | cons y ys ih =>
   rw[OV];exact a_ (hb y p_ _ (ih λz hz=>hb z (n_ _ hz)))
 refine key ys _ _ (λy fY R' r'=>?_) (d_ q);obtain⟨e,ky,ke⟩:=hy y fY;dsimp only;split
 all_goals
  split
  ·exact d_ r'
  ·refine a_ (uY d _ 8 A s _ hx dx ?_);refine a_ (uY e _ 8 A s _ ky ke ?_);refine a_ (wd d _ 8 A s _ hx dx ?_);refine a_ (wd e _ 8 A s _ ky ke ?_);exact d_ r'
end
section
variable{X:Cx}{H:Hp}{s0 s:e_}{prog:E_}{w:Mo}{A:Mn}
inductive Ext(s0 s:e_):Prop | mk (h:Mr) (tk:Nat):s={ s0 with heap:=h,toks:=tk }->(∀b o,s0.heap.get? b=some o->h.get? b=some o)->Ext s0 s
def Ext.inv(I:Inv X aa B H s0)(e:Ext s0 s):Inv X aa B H s:=by
 obtain⟨h,tk,rfl,k⟩:=e;exact I.kept (t':=tk) k
def Ext.next(e:Ext s0 s){tk:Nat}(k:∀b o,b < s0.heap.objs.size->s.heap.get? b=some o->h'.get? b=some o):Ext s0 { s with heap:=h',toks:=tk }:=by
 obtain⟨h,t,rfl,k0⟩:=e;exact⟨h',tk,rfl,λb o x=>k b o (Mq x) (k0 b o x)⟩
def SetOk(ds:List D):Prop:=cmAll ds=true/\ds.all kyB=true/\ds.all isT=true/\depA ds<=8/\(dd ds).length<=18
def SetAt.kept{h:Mr}{a:h_}{led:Bool}(S:SetAt h a led es)(k:∀o,h.get? a=some o->h'.get? a=some o):SetAt h' a led es:=by
 obtain⟨o,ep,t,r1,r2,r3,r4,r5⟩:=S;exact⟨o,ep,t,k _ r1,r2,r3,r4,r5⟩
def Stn.up(hJ:∀d x,Is X.K J d x->Is X.K H d x){e:Int×b_}(h:Stn X J e d):Stn X H e d:=by
 obtain⟨h1,x,h2,h3⟩:=h;exact⟨h1,x,hJ _ _ h2,h3⟩
def Hh(I0:Inv X aa B H s0){S It:h_}(hS:s0.heap.objs.size<=S)(kX:s0.heap.objs.size<=It){P:Nat->b_->Prop}{St:Nat->Mr->Prop}(W:Walks prog w A.in1 It fp [It] n P St)(jr:S∉fp)(hJ:∀d x,Is X.K J d x->Is X.K H d x)(ha:IsA X.K J ds zs)(ok:SetOk ds)(hn:n=ds.length)(hP:∀i v,P i v->∃x,zs[i]?=some x/\RelV x v)(hu:A.units+20 < Ni){led:Bool}{R:TB->e_->Prop}:
  ∀(k i:Nat) (s:e_),n - i=k->i<=n->Ext s0 s->St i s.heap->(∃es,SetAt s.heap S led es/\EsOk X J es (dd (ds.take i))) →
   (∀s' es,Ext s0 s'->SetAt s'.heap S led es->EsOk X J es (dd ds)->R (.ok (.ret .none)) s') →
   OB (t_ prog w) A (.builtin "set.update.loop" ⟨[.ref S,.ref It],[]⟩) R s:=by
 obtain⟨cm,ky,ti,dp,few⟩:=ok;have jt:S≠It:=λe=>jr (by rw[e];exact W.sub It p_)
 have nb:∀b,b < s0.heap.objs.size->b∉[It]:=λb hb h=>by
  rw[m_.mp h] at hb;exact absurd kX (Ud.mpr hb)
 have k6:∀b,b < s0.heap.objs.size->b≠S:=λb hb h=>by
  rw[h] at hb;exact absurd hS (Ud.mpr hb)
 intro k
 induction k with
 | zero =>
  intro i s hk hi ex st fh r;obtain⟨es,s1,s2⟩:=fh;have:i=n:=by omega
  subst this;refine MN Q5 ?_;rw[NF Oa _];refine a_ (m:=Qc (.ref It)) (W.done s _ _ st λh' tk keep=>d_ ?_);rw[hn,List.take_length] at s2;exact r _ es (ex.next λb o hb x=>keep b o (nb b hb) x) (s1.kept λo x=>keep S o (by simpa using jt) x) s2
 | succ k ih =>
  intro i s hk hi ex st fh r;obtain⟨es,s1,s2⟩:=fh;have lt:i < ds.length:=by omega
  refine MN Q5 ?_;rw[NF Oa _];refine a_ (m:=Qc (.ref It)) (W.item i s _ _ ⋯ st λv h1 k7 pv fV bF=>?_);obtain⟨x,e1,rv⟩:=hP i v pv;obtain⟨x',cQ,hx⟩:=ha.get (i_ lt);rw[e1] at cQ;cases cQ;have dm:ds[i]∈ds:=Nf lt;have td:isT ds[i]=true:=H_.mp ti _ dm;have ju:dep ds[i]<=8:=A_ (pV dm) dp;obtain⟨b,rfl,rfl⟩:=uk td hx rv;have io:∀tk,Ext s0 { s with heap:=h1,toks:=tk }:=λtk=>ex.next λb o hb x=>bF b o (nb b hb) x
  have jv:SetAt h1 S led es:=s1.kept λo x=>bF S o (by simpa using jt) x
  have I1:=(io k7).inv I0;have iq:=xb I1 _ _ _ (H_.mp ky _ dm) (hJ _ _ hx) rv;refine a_ (m:=OA [.ref b] (setAdd S (.ref b))) (MV ?_);refine MV (a_ (zh _ _ _ _ _ iq (by show A.units+1+_ < _;omega) λtk=>?_));have I2:=(io tk).inv I0
  have ch:∀k,∃d',∀hk:k < es.size,d'∈dd (ds.take i)/\Stn X J es[k] d':=λk=>by
   by_cases hk:k < es.size
   ·obtain⟨d',m,q⟩:=s2.2.1 es[k] (NK hk);exact⟨d',λ_=>⟨m,q⟩⟩
   ·exact⟨.non,λh=>absurd h hk⟩
  have fj:∀k (hk:k < es.size),(ch k).choose∈dd (ds.take i)/\Stn X J es[k] (ch k).choose:=λk hk=>(ch k).choose_spec hk
  have sub:∀d'∈dd (ds.take i),d'∈ds:=λd' h=>PF (rJ h)
  have k8:∀d'∈dd (ds.take i),cmB d' ds[i]=true:=λd' h=>H_.mp (H_.mp cm _ (sub d' h)) _ dm
  have dD:∀d'∈dd (ds.take i),isT d'=true:=λd' h=>H_.mp ti _ (sub d' h)
  have gH:∀d'∈dd (ds.take i),dep d'<=8:=λd' h=>A_ (pV (sub d' h)) dp
  have k9:∀d'∈dd (ds.take i),∀e,Stn X J e d'->KV h1 d' e.2:=λd' h e q=>by
   obtain⟨_,y,q1,q2⟩:=q;exact xb I2 _ _ _ (H_.mp ky _ (sub d' h)) (hJ _ _ q1) q2
  have aD:(∀k (hk:k < es.size),es[k].1=hD ds[i]->deq (ch k).choose ds[i]=false)->(dd (ds.take i)).any (λe=>deq e ds[i])=false:=λhz=>by
   rw[Bool.eq_false_iff];intro h;obtain⟨d',m,q⟩:=Oc.mp h;obtain⟨e,m1,q1⟩:=s2.2.2 d' m;obtain⟨k,hk,rfl⟩:=PC m1;have same:=Stn.det I2 (dD _ (fj k hk).1) (dD _ m) ((fj k hk).2.up hJ) (q1.up hJ);have lc:=sf _ _ (k8 d' m) q;have:=hz k hk (by rw[q1.1,lc]);rw[same,q] at this;cases this
  have step:dd (ds.take (i+1))=dstep (dd (ds.take i)) ds[i]:=EN ds lt
  have cont:∀h2 es',KeptBut S h1 h2->SetAt h2 S led es'->EsOk X J es' (dd (ds.take (i+1)))->OB (t_ prog w) A (.builtin "set.update.loop" ⟨[.ref S,.ref It],[]⟩) R { s with heap:=h2,toks:=tk }:=λh2 es' kb sa eo=>by
   refine ih (i+1) _ ⋯ ⋯ ((io tk).next (tk:=tk) λb o hb x=>kb b o (k6 b hb) x) (W.frame _ _ _ fV λb hb o x=>kb b o (λe=>jr (e▸hb)) x) ⟨es',sa,eo⟩ r
  refine Ma (s:={ s with heap:=h1,toks:=tk }) (led:=led) (es:=es) (eqf:=λk=>deq (ch k).choose ds[i]) jv (λhz=>?_) (λk hk=>?_) (λk hk _=>?_) (λQ q=>?_) (λQ q=>BG _ _ 8 _ _ _ iq ju q) (λk hk hh ee=>?_) λhz h2 es' sa mem sz kb=>?_
  ·have l1:=GR ds (i+1);rw[step,dstep,if_neg (by rw[aD hz];exact q_),g_,Ms,←s2.1] at l1;omega
  ·obtain⟨m,_,y,q1,q2⟩:=fj k hk;obtain⟨b',_,e⟩:=uk (dD _ m) q1 q2;exact⟨b',e⟩
  ·obtain⟨m,_,y,q1,q2⟩:=fj k hk;exact(qU I2 8 A.in1 (by show A.units+1+8 < _;omega) _ _ _ _ _ _ (.inl (gH _ m)) (hJ _ _ q1) (hJ _ _ hx) q2 rv).2.1
  ·refine FY (s:={ s with heap:=h1,toks:=tk }) (d:=ds[i]) iq ju _ _ (λy hy=>?_) q;obtain⟨e,m,rfl⟩:=F_.mp hy;have m':e∈es:=(Array.mem_filter.mp (Pw.mp m)).1;obtain⟨d',m1,q1⟩:=s2.2.1 e m';exact⟨d',k9 d' m1 e q1,gH d' m1⟩
  ·refine d_ ⟨MZ Oa _,cont h1 es (λb o _ x=>x) jv ?_⟩;rw[step,dstep,if_pos (Oc.mpr ⟨_,(fj k hk).1,ee⟩)];exact s2
  ·refine d_ ⟨MZ Oa _,cont h2 es' kb sa ?_⟩;rw[step,dstep,if_neg (by rw[aD hz];exact q_)];have own:Stn X J (hD ds[i],.ref b) ds[i]:=⟨rfl,_,hx,rv⟩;refine⟨by rw[sz,s2.1];simp,λe he=>?_,λd' bp=>?_⟩
   ·rcases(mem e).mp he with rfl | he
    ·exact⟨_,by simp,own⟩
    ·obtain⟨d',m,q⟩:=s2.2.1 e he;exact⟨d',Np _ m,q⟩
   ·rcases L_.mp bp with h | h
    ·obtain⟨e,m,q⟩:=s2.2.2 d' h;exact⟨e,(mem e).mpr (.inr m),q⟩
    ·rw[m_.mp h];exact⟨_,(mem _).mpr (.inl rfl),own⟩
end
def Mj:Manifest.owners.lookup (String.ofList ['r','o','t','a','r','e','t','i','_','t','e','s'].reverse)=some Manifest.sig_set_iterator:=by kernel_rfl
def rP:Slot "set_iterator" "__next__" "set_iterator.__next__":=.of (owner:= "set_iterator") (n:= "__next__") (by rw[typeLookup_type,Rw];kernel_rfl) (by decide +kernel) (by decide +kernel) (by decide +kernel) (by first | exact .inl (by decide +kernel) | exact .inr (by decide +kernel)) (by rw[isSubtype_type];kernel_rfl)
def AJ:entryFor table "set_iterator.__next__"=some NE.«set_iterator.__next__»:=entryFor_of_tree (by kernel_rfl)
def B8(a:b_):argsOk "set_iterator.__next__" ⟨[a],[]⟩:=by
 unfold argsOk
 kernel_rfl
def Gq:entryFor table "set.__iter__"=some NE.«frozenset.__iter__»:=entryFor_alias (id':= "frozenset.__iter__") (by kernel_rfl) rfl (by decide +kernel) (by kernel_rfl)
theorem zd{α:Type}:∀(l:List α) (i:Nat) (h:i < l.length),(l[i]::l.eraseIdx i).Perm l
 | a::l,0,h=>Td.refl _
 | a::l,i+1,h=>by
  exact(swap a _ _).trans ((zd l i (by simpa using h)).cons a)
theorem Ca{α:Type}(next:Nat->Nat):∀(f k:Nat) (left:List α) (out:Array α),left.length=f->(Q6.go next f k left out).toList.Perm (out.toList++left)
 | 0,k,left,out,h=>by
  rw[Q6.go,Nu.mp h,MY]
 | f+1,k,left,out,h=>by
  have lt:next k % left.length < left.length:=Uc _ ⋯;rw[Q6.go,i_ lt];refine(Ca next f (k+1) _ _ (by rw[List.length_eraseIdx_of_lt lt];omega)).trans ?_;rw[Array.toList_push,MF];exact Ow _ (zd left _ lt)
def HZ{α:Type}(next:Nat->Nat)(xs:Array α):(Q6 next xs).toList.Perm xs.toList:=by
 have:=Ca next xs.size 0 xs.toList #[] (by simp);simpa[Q6] using this
section
variable {prog:E_}{w:Mo}{A:Mn}{E:b_->e_->Prop}{s:e_}
noncomputable def byTx(w:Mo):Bool:=w.params.followText "set-order"
def walkOf(w:Mo)(S:h_)(ep:Nat)(es:Array (Int×b_)):Array (Int×b_):=if byTx w=true then Q6 (w.params.setOrder S ep) es else es
def we(w:Mo)(S:h_)(ep:Nat)(es:Array (Int×b_)):(walkOf w S ep es).toList.Perm es.toList:=by
 unfold walkOf;split
 ·exact HZ _ _
 ·exact Td.refl _
def tX(w:Mo)(S:h_)(ep:Nat)(es:Array (Int×b_)):(walkOf w S ep es).size=es.size:=by
 have:=(we w S ep es).length_eq;simpa using this
def slotAt(w:Mo)(t:Nl)(k:Nat):Nat:=if byTx w=true then 0 else match k with
 | 0=>0
 | k+1=>t.place.getD k 0+1
def SitAt(h:Mr)(I S:h_)(slot k n ep:Nat):Prop:=∃o,h.get? I=some o/\o.cls=.type "set_iterator"/\o.data=.fields #[.int slot 0,.int k 0,.ref S,.int n 0,.int ep 0]
def SetIs(h:Mr)(S:h_)(es:Array (Int×b_))(ep:Nat)(t:Nl):Prop:=∃o,h.get? S=some o/\o.cls=.type "set"/\o.data=.set es ep t
def Eb{w:Mo}{t:Nl}(T:TabOk t es)(hb:byTx w=false){k:Nat}(hk:k<=es.size):PB t.place (slotAt w t k)=k:=by
 unfold slotAt;rw[hb,if_neg q_];have sz:=T.sz;cases k with
 | zero =>
  obtain⟨b1,b2,b3⟩:=tF T.ris 0
  rcases Nat.eq_zero_or_pos (PB t.place 0) with h | h
  ·exact h
  ·have:=b2 0 ⋯ h;omega
 | succ k =>
  dsimp only;have lt:k < t.place.size:=by omega
  rw[Ug,dif_pos lt];obtain⟨b1,b2,b3⟩:=tF T.ris (t.place[k]+1)
  rcases Pu (PB t.place (t.place[k]+1)) (k+1) with l | l | l
  ·have:=b3 k lt ⋯;omega
  ·exact l
  ·have h1:k+1 < t.place.size:=by omega
   have:=b2 (k+1) h1 l;have:=T.ris k (k+1) lt h1 ⋯;omega
def wA{Q:Bool->e_->Prop}(q:Q (byTx w) s):u_ (t_ prog w) A setsByText Q E s:=a_ (Q7 (d_ q))
def Au{S:h_}{t:Nl}(T:TabOk t es)(led:t.led=!byTx w)(hS:SetIs s.heap S es ep t){k:Nat}(hk:k<=es.size){Q:Option (b_×Nat)->e_->Prop}(q:Q ((walkOf w S ep es)[k]?.map λe=>(e.2,slotAt w t (k+1))) s):u_ (t_ prog w) A (setNext S (slotAt w t k) k ep) Q E s:=by
 obtain⟨o,ho,hc,hd⟩:=hS;refine a_ (Ng ho hd T.fits ?_);refine a_ (wA ?_);cases hb:byTx w with
 | true =>
  rw[if_pos rfl,bne_self_eq_false,if_neg q_];have z:∀k,slotAt w t k=0:=λk=>by unfold slotAt;rw[hb,if_pos rfl]
  rw[z];rw[z] at q;refine a_ ?_;refine a_ (Ng ho hd T.fits ?_);refine a_ (wA ?_);rw[hb,if_pos rfl];refine a_ (Q7 (d_ (d_ ?_)));unfold walkOf at q;rw[hb,if_pos rfl] at q;exact q
 | false =>
  show u_ _ _ (if(!t.plain&&decide (es.size > 1))=true then _ else _) _ _ _;rw[T.pl,QU,Rz,if_neg q_];refine a_ ?_;show u_ _ _ (if(!t.led&&!es.isEmpty)=true then _ else _) _ _ _;rw[led,hb,Bool.not_false,QU,Rz,if_neg q_];refine d_ (d_ ?_);rw[Eb T hb hk];unfold walkOf at q;rw[hb,if_neg q_] at q;have sz:=T.sz;by_cases lt:k < es.size
  ·have lt':k < t.place.size:=by omega
   rw[l_ lt,l_ lt'];rw[l_ lt] at q;unfold slotAt at q;rw[hb,if_neg q_] at q;simp only[map_some,Ug,lt',dif_pos] at q;exact q
  ·rw[NM ⋯];rw[NM ⋯] at q;exact q
end
section
variable {prog:E_}{w:Mo}{A:Mn}{E:b_->e_->Prop}{s:e_}
def zE:Slot "set_iterator" "__iter__" "set_iterator.__iter__":=.of (owner:= "set_iterator") (n:= "__iter__") (by rw[typeLookup_type,Rw];kernel_rfl) (by decide +kernel) (by decide +kernel) (by decide +kernel) (by first | exact .inl (by decide +kernel) | exact .inr (by decide +kernel)) (by rw[isSubtype_type];kernel_rfl)
def KS:entryFor table "set_iterator.__iter__"=some NE.«dict_keyiterator.__iter__»:=entryFor_alias (id':= "dict_keyiterator.__iter__") (by kernel_rfl) rfl (by decide +kernel) (by kernel_rfl)
def FK(a:b_):argsOk "set_iterator.__iter__" ⟨[a],[]⟩:=by
 unfold argsOk
 kernel_rfl
def SitAt.type{I S:h_}{slot k:Nat}(h:SitAt s.heap I S slot k n ep):s.TypeIs (.ref I) "set_iterator":=by
 obtain⟨o,h1,h2,_⟩:=h;exact⟨o,h1,h2⟩
def SetIs.type{S:h_}{t:Nl}(h:SetIs s.heap S es ep t):s.TypeIs (.ref S) "set":=by
 obtain⟨o,h1,h2,_⟩:=h;exact⟨o,h1,h2⟩
theorem Ig{S:h_}{t:Nl}(T:TabOk t es)(hS:SetIs s.heap S es ep t){Q:b_->e_->Prop}(q:Q (.ref s.heap.objs.size) { s with heap:=s.heap.push { cls:=.type "set_iterator", data:=.fields #[.int 0 0,.int 0 0,.ref S,.int es.size 0,.int ep 0] } }):u_ (t_ prog w) A (Ry (.ref S)) Q E s:=by
 have hT:=hS.type;obtain⟨o,ho,hc,hd⟩:=hS;refine QF hT F.slot_set_iter (MI F.slot_set_iter hT Gq ?_ (F.args_set_iter_1 _));refine a_ (m:=NE.Frozenset.sizeOf S) (a_ (P3 ho hd T.fits (d_ ?_)));refine a_ (m:=setDrawn S) ?_;refine a_ (Ng ho hd T.fits ?_);refine a_ (wA (d_ ?_));have z:(!byTx w&&(!t.plain&&decide (es.size > 1)))=false:=by rw[T.pl];simp
 show u_ _ _ (if(!byTx w&&(!t.plain&&decide (es.size > 1)))=true then _ else _) _ _ _;rw[z,if_neg q_];refine a_ (d_ (a_ ?_));unfold setEpoch;refine a_ (Ng ho hd T.fits (d_ ?_));exact a_ (K_ (d_ ⟨_,rfl, "set_iterator", _,⟨_,r_ _ rfl,rfl⟩,rP.lookup,q⟩))
def Ip(hh:A.handled=none){Q:Option b_->e_->Prop}(q:∀h',(∀b o,s.heap.get? b=some o->h'.get? b=some o)->Q none { s with heap:=h' }):
  u_ (t_ prog w) A (newExc (.type "StopIteration") [] >>= λe=>(raiseNew e:Sem PySem.Fin)) (λ_ _=>False) (λe s'=>u_ (t_ prog w) A (isInstance e (.type "StopIteration")) (λb d7=>b=true/\Q none d7) (λ_ _=>False) s') s:=by
 refine a_ ?_;refine a_ (K_ (a_ (m:=Qh _ _) (NH (a:=b_.none) (by first | rfl | (simp only[Qh];rfl)) (K_ ?_ (by size_fits)))) (by size_fits));refine a_ (Sd ?_);rw[hh];refine a_ (d_ (Tq ?_));refine NO (T:= "StopIteration") (b:=true) ⟨_,r_ _ rfl,rfl⟩ Qj ⟨rfl,q _ λb o x=>?_⟩;exact f_ _ (f_ _ x)
def F5{I S:h_}{k:Nat}{t:Nl}(T:TabOk t es)(led:t.led=!byTx w)(hI:SitAt s.heap I S (slotAt w t k) k es.size ep)(hS:SetIs s.heap S es ep t)(hk:k < es.size){Q:Option b_->e_->Prop}(q:∀v h',(walkOf w S ep es)[k]?.map (·.2)=some v->SitAt h' I S (slotAt w t (k+1)) (k+1) es.size ep->KeptBut I s.heap h'->Q (some v) { s with heap:=h' }):u_ (t_ prog w) A (Qc (.ref I)) Q E s:=by
 have hT:=hI.type;obtain⟨o,ho,hc,hd⟩:=hI;obtain⟨oS,ir,lf,iu⟩:=id hS;refine a_ (OM (MU (name:=Qf "__next__") hT rP (MI rP hT AJ ?_ (B8 _))));refine a_ (m:=slotArgs "__next__" 0 ⟨[.ref I],[]⟩) (d_ ?_);refine a_ (RJ ho hd ?_);refine a_ (P3 ir iu T.fits ?_);rw[if_neg (by simp)];have lt:k < (walkOf w S ep es).size:=by rw[tX];exact hk
 refine a_ (m:=setNext S _ _ _) ?_;refine Au T led hS (O7 hk) ?_;rw[l_ lt,map_some];refine a_ (N9 ho hd (by simp) ?_);obtain⟨h1,e1⟩:∃h1,h1=s.heap.update I (Sg (·.setIfInBounds 0 (Qd ((slotAt w t (k+1):Nat):Int)))):=⟨_,rfl⟩;have iz:=ML (Sg (·.setIfInBounds 0 (Qd ((slotAt w t (k+1):Nat):Int)))) ho (Oo (N_ hd _));have iA:=N_ hd (·.setIfInBounds 0 (Qd ((slotAt w t (k+1):Nat):Int)));have k1:KeptBut I s.heap h1:=λb o ne x=>by rw[e1];exact(Mz _ _ (MQ ne)).trans x
 rw[←e1] at iz ⊢;refine a_ (N9 iz iA (by simp) (d_ ⟨_,rfl,d_ (q _ _ (by rw[l_ lt];rfl) ⟨_,ML _ iz (Oo (N_ iA _)),?_,?_⟩ λb o ne x=>(Mz _ _ (MQ ne)).trans (k1 b o ne x))⟩))
 ·exact((O_ ..).trans (O_ ..)).trans hc
 ·rw[N_ iA];simp[Qd]
def LP(hh:A.handled=none){I S:h_}{t:Nl}(T:TabOk t es)(led:t.led=!byTx w)(hI:SitAt s.heap I S (slotAt w t es.size) es.size es.size ep)(hS:SetIs s.heap S es ep t){Q:Option b_->e_->Prop}(q:∀h',KeptBut I s.heap h'->Q none { s with heap:=h' }):u_ (t_ prog w) A (Qc (.ref I)) Q E s:=by
 have hT:=hI.type;obtain⟨o,ho,hc,hd⟩:=hI;obtain⟨oS,ir,lf,iu⟩:=id hS;refine a_ (OM (MU (name:=Qf "__next__") hT rP (MI rP hT AJ ?_ (B8 _))));refine a_ (m:=slotArgs "__next__" 0 ⟨[.ref I],[]⟩) (d_ ?_);refine a_ (RJ ho hd ?_);refine a_ (P3 ir iu T.fits ?_);rw[if_neg (by simp)];refine a_ (m:=setNext S _ _ _) ?_;refine Au T led hS (s_ _) ?_;rw[NM (by rw[tX];exact s_ _),Option.map_none];refine a_ (N9 ho hd (by simp) ?_);refine M6 (Ip (A:=A.in1) (s:={ s with heap:=_ }) (Q:=Q) hh λh' keep=>q h' λb o ne x=>keep b o ((Mz _ _ (MQ ne)).trans x)) (λ_ _ x=>x.elim) λe s' h=>?_
 refine a_ (M6 (wpAny_of_in1 h) (λb d7 hb=>?_) λ_ _ x=>x.elim);obtain⟨rfl,hq⟩:=hb;exact d_ hq
def Mc(hh:A.handled=none){I S:h_}(ne:S≠I){t:Nl}(T:TabOk t es)(led:t.led=!byTx w):
  Walks prog w A I [I,S] [I] es.size (λk v=>(walkOf w S ep es)[k]?.map (·.2)=some v) (λk h=>SitAt h I S (slotAt w t k) k es.size ep/\SetIs h S es ep t) where
 sub:=λb hb=>by
  rw[m_.mp hb];exact p_
 frame:=λk h h' st keep=>by
  obtain⟨⟨o,a1,a2⟩,⟨o',b1,b2⟩⟩:=st;exact⟨⟨o,keep I (by simp) o a1,a2⟩,⟨o',keep S (by simp) o' b1,b2⟩⟩
 item:=λk s Q E hk st q=>F5 T led st.1 st.2 hk λv h' e si kb=>by
  refine q v h' s.toks e ⟨si,?_⟩ λb o nb x=>kb b o (λz=>nb (by rw[z];simp)) x
  obtain⟨o',b1,b2⟩:=st.2;exact⟨o',kb S o' ne b1,b2⟩
 done:=λs Q E st q=>LP hh T led st.1 st.2 λh' kb=>q h' s.toks λb o nb x=>kb b o (λz=>nb (by rw[z];simp)) x
 self:=λk s Q E st q=>by
  have hT:=st.1.type;exact QF hT zE (MI zE hT KS (d_ ⟨_,rfl, "set_iterator", _,hT,rP.lookup,q⟩) (FK _))
end
section
variable {prog:E_}{w:Mo}{A:Mn}{E:b_->e_->Prop}{s:e_}
def KY{xs:Array b_}(h:ItemsOf (λk v=>xs[k]?=some v) ac xs.size):ac=xs:=by
 refine ext h.1 λi h1 h2=>?_
 have:=h.2 i ac[i] (l_ h1)
 change xs[i]?=some ac[i] at this
 rw[l_ h2] at this;exact Eq.symm (Mt this)
theorem Kh{S:h_}{Q:Bool->e_->Prop}(hT:s.TypeIs (.ref S) "set")(q:Q false s):u_ (t_ prog w) A (Qn (.ref S)) Q E s:=by
 unfold Qn;refine a_ (OQ hT F.slot_set_len.lookup ?_);have sp:splitId "set.__len__"=some ("set", "__len__"):=by decide +kernel
 dsimp only;rw[sp];refine a_ (NO hT sub_set_self ?_);rw[if_neg (by decide)];exact a_ (OC hT (d_ q))
def Jy(hh:A.handled=none){S:h_}{t:Nl}(T:TabOk t es)(led:t.led=!byTx w)(hS:SetIs s.heap S es ep t){Q:List b_->e_->Prop}(q:∀h' tk,(∀b o,s.heap.get? b=some o->h'.get? b=some o)->s.heap.objs.size<=h'.objs.size->Q ((walkOf w S ep es).toList.map (·.2)) { s with heap:=h',toks:=tk }):u_ (t_ prog w) A (Tu (.ref S)) Q E s:=by
 have line:64<=B_:=by rw[MS];decide
 have few:es.size<=18:=by have:=T.few;have:=T.sz;omega
 have fk:S < s.heap.objs.size:=by
  obtain⟨o,ho,_⟩:=hS;exact Mq ho
 refine a_ (Qo (MN Pj ?_));rw[NF Pl _];refine a_ (m:=Ue []) (K_ (d_ ⟨MZ N3 _,MN QG ?_⟩));rw[NF N3 _];obtain⟨h1,e1⟩:∃h1,h1=s.heap.push { cls:=.type "list", data:=.seq ([]:List b_).toArray }:=⟨_,rfl⟩;have bG:h1.objs.size=s.heap.objs.size+1:=by rw[e1,Na]
 have bg:∀b o,s.heap.get? b=some o->h1.get? b=some o:=λb o x=>by rw[e1];exact f_ _ x
 have own1:h1.get? s.heap.objs.size=some { cls:=.type "list", data:=.seq ([]:List b_).toArray }:=by rw[e1];exact r_ _ rfl
 rw[←e1]
 have dE:SetIs h1 S es ep t:=by
  obtain⟨o,ho,r⟩:=hS;exact⟨o,bg _ _ ho,r⟩
 have ce:s.heap.objs.size≠S:=O8 fk;show u_ _ A.in1 (Ox (.ref s.heap.objs.size) (.ref S) (.ref s.heap.objs.size)) _ _ { s with heap:=h1 };unfold Ox;refine a_ (OC (s:={ s with heap:=h1 }) dE.type ?_);rw[if_neg (by simp[listSameRef,ce])];refine a_ (Ig (s:={ s with heap:=h1 }) T dE ?_);obtain⟨I,eI⟩:∃I,I=h1.objs.size:=⟨_,rfl⟩;obtain⟨h2,e2⟩:∃h2,h2=h1.push { cls:=.type "set_iterator", data:=.fields #[.int 0 0,.int 0 0,.ref S,.int es.size 0,.int ep 0] }:=⟨_,rfl⟩;have b9:∀b o,h1.get? b=some o->h2.get? b=some o:=λb o x=>by rw[e2];exact f_ _ x
 have fm:SitAt h2 I S (slotAt w t 0) 0 es.size ep:=⟨_,by rw[e2,eI];exact r_ _ rfl,rfl,by unfold slotAt;split<;>rfl⟩
 have fo:SetIs h2 S es ep t:=by
  obtain⟨o,ho,r⟩:=dE;exact⟨o,b9 _ _ ho,r⟩
 rw[←e2];rw[←eI];refine a_ (MV (Kh (s:={ s with heap:=h2 }) fo.type ?_));refine a_ (Pr (a_ (m:=listTouch (.ref s.heap.objs.size)) ?_));have own2:=b9 _ _ own1;refine a_ (m:=Tc s.heap.objs.size (·.push .none)) (NL own2 rfl ?_ (by simp) (by simp));have cV:=ML (OK (·.push b_.none)) own2 rfl;refine NL cV rfl ?_ (by show(#[b_.none]:Array b_).size<=_;simp;omega) (by simp);have cW:=ML (OK (·.pop)) cV rfl;obtain⟨h4,e4⟩:∃h4,h4=((h2.update s.heap.objs.size (OK (·.push b_.none))).update s.heap.objs.size (OK (·.pop))):=⟨_,rfl⟩;have dF:KeptBut s.heap.objs.size h2 h4:=λb o ne x=>by rw[e4];exact(Mz _ _ (MQ ne)).trans ((Mz _ _ (MQ ne)).trans x)
 rw[←e4] at cW;rw[←e4];have dG:s.heap.objs.size≠I:=by rw[eI,bG];exact My (Nb _)
 have fq:S≠I:=by rw[eI,bG];exact My (Nz fk)
 have W:=(Mc (prog:=prog) (w:=w) (A:=A.in1) (ep:=ep) (by exact hh) fq T led).toS;refine d_ ⟨MZ RZ _,RK W ⋯ s.heap.objs.size (by simp[dG,ce]) _ es.size 0 _ _ _ rfl (Mu _) ?_ cW (ItemsOf.nil _) λs' ac c mv here it=>?_⟩
 ·obtain⟨o,a1,a2⟩:=fm;obtain⟨o',b1,b2⟩:=fo;exact⟨⟨o,dF _ _ (MQ dG) a1,a2⟩,⟨o',dF _ _ (MQ ce) b1,b2⟩⟩
 ·obtain⟨h',g',d',cT,eG⟩:=s';have eg:g'=s.gens:=mv.gens;have ed:d'=s.drawn:=mv.drawn;have eo:eG=s.os:=mv.os;subst eg;subst ed;subst eo;refine a_ (Si here (d_ ?_));have size:es.size=((walkOf w S ep es).map (·.2)).size:=by rw[Array.size_map,tX]
  have all:ac=(walkOf w S ep es).map (·.2):=KY (by
   rw[←size];refine⟨it.1,λj v hj=>?_⟩;have:=it.2 j v hj;show((walkOf w S ep es).map (·.2))[j]?=some v;rw[Array.getElem?_map]
   exact this)
  have lt':s.heap.objs.size < h'.objs.size:=Mq here;have:=q h' cT (λb o x=>mv.heap b o (λhb=>?_) (dF b o (My (Mq x)) (b9 _ _ (bg _ _ x)))) (O7 lt')
  ·rw[all];simpa using this
  ·have lb:=Mq x
   rcases x_.mp hb with z | z
   ·exact My lb z
   ·rw[m_.mp z,eI,bG] at lb;exact absurd lb (Ua.mpr (P5 _))
end
section
variable {prog:E_}{w:Mo}{A:Mn}{E:b_->e_->Prop}{s:e_}
def fresh0(w:Mo):Obj:={ cls:=.type "set", dict:=none,data:=.set #[] 0 (.fresh 0 0 (!byTx w)) }
theorem CL(a:b_){Q:b_->e_->Prop}(q:Q (.ref s.heap.objs.size) { s with heap:=s.heap.push (fresh0 w) }):
  OB (t_ prog w) A (.call (.builtin "set.__new__") ⟨[.type "set", a],[]⟩) (wants Q E) s:=by
 refine codeAny_of_tree (a_ (m:=checkBuiltinCall "set.__new__" ⟨[.type "set", a],[]⟩) (NH (PySem.F.newCall_set_1 a) (d_ ⟨MZ F.plain_set_new _,MN F.entry_set_new ?_⟩)));rw[NF F.plain_set_new _];unfold NE.«set.__new__» newClass;have eS:=sub_set_self
 wp_walk
 refine Q7 (d_ (a_ (wpAny_alloc (d_ (d_ q)))))
def Jf(w:Mo):TabOk (.fresh 0 0 (!byTx w)) #[]:=by
 refine⟨rfl,λi j hi=>?_,rfl,λi hi=>?_,⟨Mu _,.inr ⟨rfl,Mu _⟩⟩,rfl,λi hi=>?_⟩
 all_goals exact absurd hi (Ov _)
variable{X:Cx}{H:Hp}
theorem Mb(I0:Inv X aa B H s)(hh:A.handled=none){l:h_}{ae:List b_}(hl:s.heap.IsList l ae.toArray)(hJ:∀d x,Is X.K J d x->Is X.K H d x)(ha:IsA X.K J ds zs)(hv:Vals zs ae)(ok:SetOk ds)(hu:A.units+50 < Ni){Q:b_->e_->Prop}(q:∀S s' es,Ext s s'->s.heap.objs.size<=S->SetAt s'.heap S (!byTx w) es->EsOk X J es (dd ds)->Q (.ref S) s'):u_ (t_ prog w) A (call (.type "set") [.ref l]) Q E s:=by
 obtain⟨c,tl,nB⟩:=Pd.mro;have lh:=Pd.made;have eS:=Pd.sub;refine TD (codeAny_of_tree (d_ ⟨T6.quiet_builtin _ (by decide +kernel),MN F.entry_type_call ?_⟩))
 repeat any_goals first | assumption | wp_step
 refine Oe (CL (w:=w) (.ref l) (E:=E) (Q:=λobj am=>obj=.ref s.heap.objs.size/\am={ s with heap:=s.heap.push (fresh0 w) }) ⟨rfl,rfl⟩) λr am hr=>?_
 rcases r with e | fl
 ·exact hr
 cases fl with
 | ret obj =>
  obtain⟨rfl,rfl⟩:=hr;have hS:(s.heap.push (fresh0 w)).get? s.heap.objs.size=some (fresh0 w):=r_ _ rfl;have hT:e_.TypeIs { s with heap:=s.heap.push (fresh0 w) } (.ref s.heap.objs.size) "set":=⟨_,hS,rfl⟩;have cD:=Pd.init.lookup;have iB:=Pd.init.bind (.ref s.heap.objs.size)
  repeat any_goals first | assumption | wp_step
  refine Oe (codeAny_call_builtin (R:=wants (λr bm=>r=.none/\∃es,Ext s bm/\SetAt bm.heap s.heap.objs.size (!byTx w) es/\EsOk X J es (dd ds)) E) Pd.init.plain F.entry_set_init (check_set_init_1 hT ?_)) λjw bm dH=>?_
  ·obtain⟨ol,jx,ba,nl,dI⟩:=hl;have jy:l < s.heap.objs.size:=Mq jx;obtain⟨nC,iC,lj,fZ⟩:=ol;simp only at ba dI;subst ba;subst dI;have gI:(s.heap.push (fresh0 w)).get? l=some { cls:=.type "list", dict:=iC,data:=.seq ae.toArray nl,slots:=fZ }:=f_ _ jx;have nD:=PySem.F.sub_list_set;have nE:=PySem.F.sub_list_frozenset;have cE:(s.heap.push (fresh0 w)).IsList l ae.toArray:=⟨_,gI,rfl,nl,rfl⟩;obtain⟨h1,e1⟩:∃h1,h1=s.heap.push (fresh0 w):=⟨_,rfl⟩;have bG:h1.objs.size=s.heap.objs.size+1:=by rw[e1,Na]
   have bg:∀b o,s.heap.get? b=some o->h1.get? b=some o:=λb o x=>by rw[e1];exact f_ _ x
   rw[←e1] at hS gI cE;rw[←e1];have lq:h1.get? s.heap.objs.size=some { cls:=.type "set", dict:=none,data:=.set #[] 0 (.fresh 0 0 (!byTx w)) }:=hS;unfold NE.«set.__init__» noKeywords updateFrom;generalize hPI:Ry=PI
   wp_walk
   subst hPI;refine NX (s:={ s with heap:=h1 }) cE (a_ (Qo ?_));have dG:l≠h1.objs.size:=by rw[bG];exact My (Nz jy)
   refine Hh (s0:=s) (led:=!byTx w) I0 (s_ _) (by rw[bG];exact P5 _) (Sn (by exact hh) h1.objs.size l dG ae.toArray) ?_ hJ ha ok (by rw[v_,←hv.length,←ha.length]) (λi v hi=>?_) (by show A.units+1+1+20 < _;omega) _ 0 _ rfl (Mu _) ?_ ?_ ?_ λs' es ex sa eo=>?_
   ·rw[bG];intro hm
    rcases x_.mp hm with z | z
    ·exact absurd z (My (Nb _))
    ·exact absurd (m_.mp z) (O8 jy)
   ·have aL:ae[i]?=some v:=by simpa using hi
    have li:i < zs.length:=by
     rw[hv.length]
     rcases TR i ae.length with z | z
     ·exact z
     ·rw[Nv z] at aL;cases aL
    obtain⟨u,e3,e4⟩:=hv.get (i_ li);rw[aL] at e3;cases e3;exact⟨_,i_ li,e4⟩
   ·exact⟨_,s.toks,rfl,λb o x=>f_ _ (bg b o x)⟩
   ·exact⟨⟨_,r_ _ rfl,rfl,rfl⟩,cE.push _⟩
   ·refine⟨#[],⟨_,0,_,f_ _ lq,rfl,rfl,Jf w,rfl⟩,rfl,λe he=>?_,λd hd=>?_⟩
    ·simp at he
    ·cases hd
   ·exact d_ (d_ ⟨rfl,es,ex,sa,eo⟩)
  ·rcases jw with e | iD
   ·exact dH
   ·cases iD with
    | ret r =>
     obtain⟨rfl,es,e1,e2,e3⟩:=dH
     repeat any_goals first | assumption | wp_step
     exact q _ _ es e1 (s_ _) e2 e3
    | _=>exact dH.elim
 | _=>exact hr.elim
end
theorem IsA.up{K:FAa}{J H:Hp}(h:∀d x,Is K J d x->Is K H d x):∀{ds:List D}{zs:List V},IsA K J ds zs->IsA K H ds zs
 | [],zs,a=>by rw[a.nil_inv];exact IsA.nil
 | d::ds,zs,a=>by
  obtain⟨x,r,rfl,h1,h2⟩:=a.cons_inv;exact IsA.cons (h _ _ h1) (IsA.up h h2)
section
variable{X:Cx}{H:Hp}{s:e_}{A:Mn}
theorem vm{α:Type}:∀(l m:List α),l.Nodup->(∀x∈l,x∈m)->m.length<=l.length->l.Perm m
 | [],m,_,_,h=>by rw[Nu.mp (Nat.le_zero.mp h)]
 | x::l,m,nd,h,len=>by
  obtain⟨a,b,rfl⟩:=Sq (h x p_);rw[MH] at nd
  have p:=vm l (a++b) nd.2 (λy hy=>by
   have:=h y (n_ _ hy)
   rcases L_.mp this with z | z
   ·exact(Np _ z)
   ·rcases x_.mp z with z | z
    ·subst z;exact absurd hy nd.1
    ·exact Mv _ z) (by simp at len ⊢;omega)
  exact(p.cons x).trans PH.symm
theorem zY:∀(ds ac:List D),ac.Nodup->(ds.foldl dstep ac).Nodup
 | [],ac,h=>h
 | d::ds,ac,h=>by
  refine zY ds _ ?_;unfold dstep;split
  ·exact h
  ·rename_i no;rw[OH];refine⟨h,by simp,λa ha b hb e=>?_⟩;rw[m_.mp hb] at e;subst e;exact no (Oc.mpr ⟨a,ha,tf a⟩)
def xt(ds:List D):(dd ds).Nodup:=zY ds [] N8
def LL{l m:List D}(p:l.Perm m)(cm:cmAll l=true):sortD l=sortD m:=by
 refine tP _ _ ((pQ l).trans (p.trans (pQ m).symm)) (rn l) (rn m) λa ha b hb h1 h2=>?_
 have c:=H_.mp (H_.mp cm a ((pQ l).mem_iff.mp ha)) b ((pQ l).mem_iff.mp hb);refine sf a b c ?_;rw[rq a b c];unfold leD at h1 h2;rw[h1,h2];rfl
theorem yP{n:Nat}:∀{xs:List D},(∀x∈xs,dep x<=n)->depA xs<=n
 | [],_=>by rw[depA];exact Mu _
 | x::xs,h=>by
  exact Nat.max_le.mpr ⟨h x p_,yP λy hy=>h y (n_ _ hy)⟩
theorem zU{J:Hp}{M:List D}:∀(L:List (Int×b_)),(∀e∈L,∃d∈M,Stn X J e d)->∃ds zs,IsA X.K J ds zs/\Vals zs (L.map (·.2))/\ds.length=L.length/\(∀d∈ds,d∈M)/\∀e∈L,∃d∈ds,Stn X J e d
 | [],_=>⟨[],[],IsA.nil,.nil,rfl,λd hd=>(by cases hd),λe he=>(by cases he)⟩
 | e::L,h=>by
  obtain⟨ds,zs,a1,a2,a3,a4,a5⟩:=zU L λe he=>h e (n_ _ he)
  obtain⟨d,m,q⟩:=h e p_;obtain⟨_,x,q1,q2⟩:=id q;refine⟨d::ds,x::zs,IsA.cons q1 a1,.cons q2 a2,by simp[a3],λd' bp=>?_,λe' eU=>?_⟩
  ·rcases x_.mp bp with z | z
   ·rw[z];exact m
   ·exact a4 d' z
  ·rcases x_.mp eU with z | z
   ·rw[z];exact⟨d,p_,q⟩
   ·obtain⟨d',m',q'⟩:=a5 e' z;exact⟨d',n_ _ m',q'⟩
def L6(hu:X.A.units+100 < Ni)(hh:X.A.handled=none)(I:Inv X aa B H s){p:h_}(hJ:∀d x,Is X.K J d x->Is X.K H d x)(hq:SqL X.K H p zs)(ha:IsA X.K J ds zs)(ok:SetOk ds)(kd:ds.all fstI=true\/ds.all fstT=true){Q:VK}(k:∀l cr,IsA X.K J (sortD (dd ds)) cr->H l=none->Q (.ref l) (upd H l (.lst cr))):
  u_ (t_ X.prog X.w) X.A (call (.type "set") [.ref p]) (λv s'=>u_ (t_ X.prog X.w) X.A (call (.builtin "sorted") [v]) (EP X aa B Q) X.xe s') X.xe s:=by
 obtain⟨ab,rv,t,hz⟩:=I.list hq;refine Mb I hh t.isList hJ ha rv ok ⋯ λS s' es ex le sa eo=>?_
 have I':=ex.inv I;obtain⟨cm,ky,ti,dp,few⟩:=ok;obtain⟨o,ep,tb,ho,hc,hd,T,led⟩:=sa
 obtain⟨cG,cr,a1,a2,a3,a4,a5⟩:=zU (X:=X) (J:=J) (M:=dd ds) (walkOf X.w S ep es).toList λe he=>eo.2.1 e (by
  have:=(we X.w S ep es).mem_iff.mp he
  simpa using this)
 have tt:∀d∈dd ds,isT d=true:=λd hd=>H_.mp ti _ (rJ hd)
 have pm:(dd ds).Perm cG:=by
  refine vm _ _ (xt ds) (λd hd=>?_) (by rw[a3,MP,tX,eo.1];exact s_ _);obtain⟨e,m,q⟩:=eo.2.2 d hd;obtain⟨d',m',q'⟩:=a5 e ((we X.w S ep es).mem_iff.mpr (by simpa using m));have:=Stn.det I' (tt d hd) (tt d' (a4 d' m')) (q.up hJ) (q'.up hJ);rw[this];exact m'
 have sub:∀d∈cG,d∈ds:=λd hd=>rJ (a4 d hd)
 have fX:cmAll cG=true:=H_.mpr λa aW=>H_.mpr λb eh=>H_.mp (H_.mp cm a (sub a aW)) b (sub b eh)
 have lr:IsA X.K H cG cr:=IsA.up hJ a1;refine tK hu I' lr a2 ⟨by have:=pm.length_eq;omega,fX,A_ (yP λx hx=>pV (sub x hx)) ⋯,?_⟩ (λQ' q=>Jy (A:=X.A.in1) (by exact hh) T led ⟨o,ho,hc,hd⟩ q) λl q hp e hl=>k l _ ?_ hl
 ·rcases kd with z | z
  ·exact .inr (.inl (H_.mpr λx hx=>H_.mp z x (sub x hx)))
  ·exact .inr (.inr (H_.mpr λx hx=>H_.mp z x (sub x hx)))
 ·rw[←LL pm.symm fX,←e];exact a1.perm hp
end
section
variable{X:Cx}{e:y_}{bR:Pos}{kr:Nat}
def rSS(X:Cx)(xs:List V)(H:Hp)(Q:VK):Prop:=∃(p:h_) (zs:List V) (ds:List D) (J:Hp),xs=[.ref p]/\SqL X.K H p zs/\IsA X.K J ds zs/\(∀d x,Is X.K J d x->Is X.K H d x)/\SetOk ds/\(ds.all fstI=true\/ds.all fstT=true) ∧
 ∀l cr,IsA X.K J (sortD (dd ds)) cr->H l=none->Q (.ref l) (upd H l (.lst cr))
def Dl{p:Pos}{t:TA}(hr:Room kr X.A)(hg:Gl X "sorted")(hm:X.mg "sorted"=none)(lu:Gl X "set")(jz:X.mg "set"=none)(ha:PA X [e] t)(he:D_ [e] X.env=(false,MW e X.env)::D_ [] X.env:=by rfl)(eU:D_ [.Call (.Name "set" p') [e] [] bR] X.env=(false,MW (.Call (.Name "set" p') [e] [] bR) X.env)::D_ [] X.env:=by rfl)(bD:∀pos,(N4 pos (D_ [] X.env)).any (·.1)=false:=by intro _;rfl):
  PE X (.Call (.Name "sorted" p) [.Call (.Name "set" p') [e] [] bR] [] pos) (tCB (rSS X) t):=by
 intro aa s B H Q I h;refine Nt (pM I hg hm boot_sorted (Pq ?_ eU (bD _)) (by decide) (by decide));refine OR (Nt (pM I lu jz boot_set (MA ?_ he (bD _)) (by decide) (by decide)));refine thn (ha bR aa s B H _ I h) λus s1 ⟨vs,H1,I1,r1,p,zs,ds,J,e1,q1,q2,q3,q4,q5,q6⟩=>?_
 subst e1;obtain⟨u,rfl,ru⟩:=vals1 r1;cases ru;exact thn (L6 (hu100 hr) hr.hd I1 q3 q1 q2 q4 q5 q6) λv s2 q=>O9 q
end
end DL
namespace DL
open PySem PySem.W PySem.Spec PyProof.Rows L2
section
variable {prog:E_}{w:Mo}{A:Mn}{E:b_->e_->Prop}{s:e_}
theorem KI{S:h_}{Q:Bool->e_->Prop}(hT:s.TypeIs (.ref S) "dict")(q:Q false s):u_ (t_ prog w) A (Qn (.ref S)) Q E s:=by
 unfold Qn;refine a_ (OQ hT F.slot_dict_len.lookup ?_);have sp:splitId "dict.__len__"=some ("dict", "__len__"):=by decide +kernel
 dsimp only;rw[sp];refine a_ (NO hT F.sub_dict_dict ?_);rw[if_neg (by decide)];exact a_ (OC hT (d_ q))
end
end DL
namespace DL
open PySem PySem.W PySem.Spec PyProof.Rows L2
open PySem.SeqAt
open PySem.AutoSeq1 (wpAny_loadPart')
open PySem.MeetsSeq PySem.MeetsSeq2 PySem.MeetsSeq3
section
variable {prog:E_}{w:Mo}{A:Mn}{E:b_->e_->Prop}{s:e_}
theorem Bl:fillsNumberSlot (.type "tuple") "mul"=pure false:=
 PySem.fillsNumberSlot_seq (id:= "tuple.__mul__") (r:=some (.builtin "tuple.__rmul__")) F.slot_tuple_mul.lookup (by decide +kernel) F.slot_tuple_rmul.lookup (by decide +kernel)
def yR:seqRepeat? (.type "tuple")=pure (some (.builtin "tuple.__mul__")):=by
 unfold seqRepeat?;rfl
theorem B4{x:b_}:∀(k:Nat) (ac:Array b_),(Mm k #[x]).foldl (·++·) ac=(ac.toList++Mm k x).toArray
 | 0,ac=>by simp
 | k+1,ac=>by
  rw[R4,So,B4 k,R4];simp
def AI(a:Int)(t:Tok)(l:h_)(ae:Array b_)(n:Nat)(d:Option h_)(sl:Array (Option b_)):
  Uf (NE.«int.__rmul__» ⟨[.int a t,.ref l],[]⟩) (λ_ R s=>s.heap.get? l=some { cls:=.type "tuple", dict:=d,data:=.seq ae n,slots:=sl }/\R (.ok (.ret b_.notImplemented)) s):=
 .of_wp λprog w A R s h=>by obtain⟨hp,g,d,tk,os⟩:=s;obtain⟨hl,h⟩:=h;wp_walk;exact⟨_,rfl,h⟩
theorem C1{t:h_}{x:b_}{tk:Tok}{Q:b_->e_->Prop}(ht:R8 s.heap t #[x])(h2:2<=n)(hn:n<=1000)(h:Q (.ref s.heap.objs.size) { s with heap:=s.heap.push { cls:=.type "tuple", data:=.seq (Mm n x).toArray } }):u_ (t_ prog w) A (NG .Mult (.ref t) (.int (n:Int) tk)) Q E s:=by
 have bq:sizeOk (.seq (Mm n x).toArray):=by
  show(Mm n x).toArray.size<=B_;rw[MS];simp;omega
 obtain⟨⟨cls,d,data,sl⟩,ho,ba,k,hd⟩:=id ht;subst ba hd
 refine Qw (T:= "tuple") (U:= "int") (by decide) ht.typeIs (λs'=>Rm s' n tk) Bl F.fills_int_mul F.slot_int_rmul yR F.slot_int_index.lookup
  (Qg F.slot_int_rmul (Rm s n tk) F.entry_int_rmul (F.args_int_rmul_2 _ _) (AI n tk t #[x] k d sl) ⟨ho,rfl,⟨_,ho,rfl⟩,?_⟩)
 refine MI F.slot_tuple_mul ht.typeIs F.entry_tuple_mul ?_ (F.args_tuple_mul_2 _ _);obtain⟨j,hj⟩:∃j:Int,j=n:=⟨_,rfl⟩;rw[←hj];refine a_ (NH (a:=j) rfl ?_);have c1:¬((decide (j < -(2 ^ 63))||decide (j>=2 ^ 63))=true):=by simp;omega
 have c2:¬(((#[x]:Array b_).isEmpty||j == 1)=true):=by simp;omega
 have c3:¬((decide (j<=0)||(#[x]:Array b_).isEmpty)=true):=by simp;omega
 have c4:¬(((#[x]:Array b_).size:Int)*j > (2 ^ 63 - 1) / 8):=by simp;omega
 have c5:¬(tupleTooMany (((#[x]:Array b_).size:Int)*j)=true):=by simp[tupleTooMany,MS];omega
 rw[if_neg c1];refine a_ (Sa ht ?_);rw[if_neg c2];rw[if_neg c3];rw[if_neg c4];rw[if_neg c5]
 have e:(Mm j.toNat #[x]).foldl (·++·) #[]=(Mm n x).toArray:=by
  rw[B4,hj];simp
 rw[e]
 first
  | exact a_ (m:=Of _) (K_ (d_ ⟨_,rfl,h⟩) bq)
  | exact a_ (m:=Of _) (K_ (d_ ⟨_,rfl,d_ h⟩) bq)
end
section
variable {X:Cx}{b:y_}
def rMulT(K:FAa):R2:=λx y H Q=>∃(c:h_) (u:V) (n:Nat),x=.ref c/\y=.int n/\SqT K H c [u]/\2<=n/\n<=1000/\∀l,H l=none->Q (.ref l) (upd H l (.tup (Mm n u)))
theorem zG{u:V}{v:b_}(h:RelV u v):∀n,Vals (Mm n u) (Mm n v)
 | 0=>.nil
 | n+1=>.cons h (zG h n)
def K2:OpR X (NG .Mult) (rMulT X.K):=by
 tm_at"g";obtain⟨c,z,n,rfl,rfl,hc,h2,hn,q⟩:=h;cases rx;obtain⟨tk,rfl⟩:=ry;obtain⟨ab,r,ht,hz⟩:=I.tuple hc;obtain⟨w,rfl,bz⟩:=r.one;refine C1 ht h2 hn ?_;refine⟨.ref _,_,I.laid (t':=s.toks) (o:=.tup (Mm n z)) (λb ob q=>f_ _ q) (s_ _) ?_,rfl,q _ (I.hok.fresh (s_ _))⟩;exact⟨by rw[MS];simp;omega,_,zG bz n,R8.new _ _⟩
end
end DL
namespace DL
open PySem PySem.W PySem.Spec PyProof.Rows L2 PySem.SetTable
section
variable {prog:E_}{w:Mo}{A:Mn}{E:b_->e_->Prop}{s:e_}
def Gx{S:h_}(hS:s.heap.IsTuple S ab.toArray)(few:ab.length<=64){Q:List b_->e_->Prop}(q:∀h',(∀b o,s.heap.get? b=some o->h'.get? b=some o)->s.heap.objs.size<=h'.objs.size->Q ab { s with heap:=h' }):u_ (t_ prog w) A (Tu (.ref S)) Q E s:=by
 have line:64<=B_:=by rw[MS];decide
 obtain⟨o,ho,hc,n,hd⟩:=hS;refine a_ (Qo (MN Pj ?_));rw[NF Pl _];refine a_ (m:=Ue []) (K_ (d_ ⟨MZ N3 _,MN QG ?_⟩));rw[NF N3 _];obtain⟨h1,e1⟩:∃h1,h1=s.heap.push { cls:=.type "list", data:=.seq ([]:List b_).toArray }:=⟨_,rfl⟩;have bG:h1.objs.size=s.heap.objs.size+1:=by rw[e1,Na]
 have bg:∀b o,s.heap.get? b=some o->h1.get? b=some o:=λb o x=>by rw[e1];exact f_ _ x
 have own1:h1.get? s.heap.objs.size=some { cls:=.type "list", data:=.seq ([]:List b_).toArray }:=by rw[e1];exact r_ _ rfl
 rw[←e1];show u_ _ A.in1 (Ox (.ref s.heap.objs.size) (.ref S) (.ref s.heap.objs.size)) _ _ { s with heap:=h1 };unfold Ox;refine a_ (OC (s:={ s with heap:=h1 }) (T:= "tuple") ⟨o,bg _ _ ho,hc⟩ ?_);rw[if_pos (by simp)];refine a_ (SG (s:={ s with heap:=h1 }) (bg _ _ ho) hd (a_ (SG (s:={ s with heap:=h1 }) own1 rfl ?_)));refine a_ (Sf (s:={ s with heap:=h1 }) own1 rfl ?_ (Mu _) (by simp;omega));have own2:=ML (OK (·++ab.toArray)) own1 rfl;refine d_ ?_;refine a_ (Si own2 (d_ ?_));have e:(([]:List b_).toArray++ab.toArray).toList=ab:=by simp
 rw[e];refine q _ (λb o' hb=>?_) ?_
 ·exact(Mz _ _ (O8 (Mq hb))).trans (bg _ _ hb)
 ·rw[Mr.size_update,bG];exact P5 _
end
section
variable {X:Cx}
def HY(hu:X.A.units+100 < Ni):CallR X (.builtin "sorted") (λxs H Q=>∃(p:h_) (zs:List V) (ds:List D),xs=[.ref p]/\(SqL X.K H p zs\/SqT X.K H p zs)/\IsA X.K H ds zs/\SortOk ds/\∀l q,Pm ds.length q->permD q ds=sortD ds->H l=none->Q (.ref l) (upd H l (.lst (permV q zs)))):=by
 intro aa s B H xs us Q I r h;obtain⟨p,zs,ds,rfl,hq,ha,ok,k⟩:=h
 rcases hq with hq | hq
 ·exact Je hu aa s B H [.ref p] us Q I r ⟨p,zs,ds,rfl,hq,ha,ok,k⟩
 obtain⟨u,rfl,ru⟩:=vals1 r;cases ru;obtain⟨ab,rv,t,hz⟩:=I.tuple hq;have l1:=ha.length;have l2:=rv.length;exact tK hu I ha rv ok (λQ' q=>Gx t (by have:=ok.1;omega) λh' keep sz=>q h' s.toks keep sz) k
end
end DL
namespace EV
open PySem PySem.Spec PyProof.Rows L2 DL
inductive E where
 | d (x:D) | ref (n:Nat) | tup (es:List E)
inductive Ob where
 | lst (es:List E) | dct (tk lk:Bool) (kvs:List (D×E)) | ins (c:Str) (fs:List (Str×E))
abbrev Sto:=List Ob
abbrev Nms:=List (Option E)
mutual
def IsE(K:FAa)(φ:List h_)(I:Hp):E->V->Prop
 | .d x,v=>Is K I x v
 | .ref n,v=>∃a,φ[n]?=some a/\v=.ref a
 | .tup es,v=>∃a xs,v=.ref a/\I a=some (.tup xs)/\IsL K φ I es xs
def IsL(K:FAa)(φ:List h_)(I:Hp):List E->List V->Prop
 | [],xs=>xs=[]
 | e::es,xs=>∃x r,xs=x::r/\IsE K φ I e x/\IsL K φ I es r
end
def Up(φ:List h_)(I:Hp)(al:List h_)(I':Hp):Prop:=(∃ψ,al=φ++ψ)/\Same I I'
theorem Up.refl(φ:List h_)(I:Hp):Up φ I φ I:=⟨⟨[],by simp⟩,Same.refl _⟩
theorem Up.trans(a:Up φ I af I1)(b:Up af I1 ao I2):Up φ I ao I2:=by
 obtain⟨⟨ψ,rfl⟩,s⟩:=a;obtain⟨⟨ly,rfl⟩,s'⟩:=b;exact⟨⟨ψ++ly,by simp⟩,s.trans s'⟩
def Up.get(u:Up φ I al I'){a:h_}(h:φ[n]?=some a):al[n]?=some a:=by
 obtain⟨⟨ψ,rfl⟩,_⟩:=u;rw[M9 (j_.mp h).1];exact h
section
variable{K:FAa}
mutual
theorem IsE.mono(u:Up φ I al I'):∀{e:E}{v:V},IsE K φ I e v->IsE K al I' e v
 | .d _,_,h=>by rw[IsE] at h ⊢;exact h.mono u.2
 | .ref _,_,h=>by rw[IsE] at h ⊢;obtain⟨a,h1,h2⟩:=h;exact⟨a,u.get h1,h2⟩
 | .tup es,v,h=>by
  obtain⟨a,xs,e1,e2,e3⟩:=h;exact⟨a,xs,e1,u.2 _ _ e2,IsL.mono u e3⟩
theorem IsL.mono(u:Up φ I al I'):∀{es:List E}{xs:List V},IsL K φ I es xs->IsL K al I' es xs
 | [],_,h=>by rw[IsL] at h ⊢;exact h
 | e::es,xs,h=>by
  obtain⟨x,r,e1,e2,e3⟩:=h;exact⟨x,r,e1,IsE.mono u e2,IsL.mono u e3⟩
end
def IsE.of{x:D}{v:V}(h:Is K I x v):IsE K φ I (.d x) v:=by rw[IsE];exact h
def IsE.inv{x:D}{v:V}(h:IsE K φ I (.d x) v):Is K I x v:=by rw[IsE] at h;exact h
def IsE.rf{v:V}(h:IsE K φ I (.ref n) v):∃a,φ[n]?=some a/\v=.ref a:=by rw[IsE] at h;exact h
def IsE.mkRf{a:h_}(h:φ[n]?=some a):IsE K φ I (.ref n) (.ref a):=by rw[IsE];exact⟨a,h,rfl⟩
def IsE.tp{es:List E}{v:V}(h:IsE K φ I (.tup es) v):∃a xs,v=.ref a/\I a=some (.tup xs)/\IsL K φ I es xs:=by rw[IsE] at h;exact h
def IsE.mkTp{es:List E}{a:h_}(h:I a=some (.tup xs))(t:IsL K φ I es xs):IsE K φ I (.tup es) (.ref a):=by rw[IsE];exact⟨a,xs,rfl,h,t⟩
def IsL.nil:IsL K φ I [] []:=by rw[IsL]
def IsL.cons{e:E}{es:List E}{x:V}{xs:List V}(h:IsE K φ I e x)(t:IsL K φ I es xs):IsL K φ I (e::es) (x::xs):=by rw[IsL];exact⟨x,xs,rfl,h,t⟩
def IsL.nil_inv(h:IsL K φ I [] xs):xs=[]:=by rw[IsL] at h;exact h
def IsL.cons_inv{e:E}{es:List E}(h:IsL K φ I (e::es) xs):∃x r,xs=x::r/\IsE K φ I e x/\IsL K φ I es r:=by rw[IsL] at h;exact h
theorem IsL.iff:∀{es:List E}{xs:List V},IsL K φ I es xs↔es.length=xs.length/\∀(i:Nat) (e:E) (x:V),es[i]?=some e->xs[i]?=some x->IsE K φ I e x
 | [],xs=>⟨λh=>by rw[h.nil_inv];exact⟨rfl,λi e x h=>by simp at h⟩,λh=>by
   obtain rfl:xs=[]:=Nu.mp h.1.symm
   exact IsL.nil⟩
 | e::es,xs=>⟨λh=>by
   obtain⟨x,r,rfl,h1,h2⟩:=h.cons_inv;obtain⟨l,t⟩:=IsL.iff.mp h2;refine⟨by simp[l],λi e' x' a b=>?_⟩;cases i with
   | zero=>simp at a b;subst a;subst b;exact h1
   | succ i=>exact t i e' x' (by simpa using a) (by simpa using b),λh=>by
   obtain⟨l,t⟩:=h;cases xs with
   | nil=>simp at l
   | cons x r=>exact IsL.cons (t 0 e x rfl rfl) (IsL.iff.mpr ⟨by simpa using l,λi e' x' a b=>t (i+1) e' x' (by simpa using a) (by simpa using b)⟩)⟩
theorem IsL.length{es:List E}(h:IsL K φ I es xs):es.length=xs.length:=(IsL.iff.mp h).1
def IsL.get{es:List E}{i:Nat}{e:E}(h:IsL K φ I es xs)(q:es[i]?=some e):∃x,xs[i]?=some x/\IsE K φ I e x:=by
 obtain⟨l,t⟩:=IsL.iff.mp h;have hi:=(j_.mp q).1;have hx:xs[i]?=some xs[i]:=i_ ⋯;exact⟨_,hx,t i e _ q hx⟩
def IsL.append{es fs:List E}{ys:List V}(h:IsL K φ I es xs)(t:IsL K φ I fs ys):IsL K φ I (es++fs) (xs++ys):=by
 induction es generalizing xs with
 | nil=>rw[h.nil_inv];exact t
 | cons e es ih=>obtain⟨x,r,rfl,h1,h2⟩:=h.cons_inv;exact IsL.cons h1 (ih h2)
theorem IsL.take{es:List E}(n:Nat)(h:IsL K φ I es xs):IsL K φ I (es.take n) (xs.take n):=by
 obtain⟨l,t⟩:=IsL.iff.mp h;refine IsL.iff.mpr ⟨by simp[l],λi e x a b=>?_⟩;rw[Qp] at a b;split at a
 ·rename_i hi;rw[if_pos hi] at b;exact t i e x a b
 ·cases a
theorem IsL.drop{es:List E}(n:Nat)(h:IsL K φ I es xs):IsL K φ I (es.drop n) (xs.drop n):=by
 obtain⟨l,t⟩:=IsL.iff.mp h;refine IsL.iff.mpr ⟨by simp[l],λi e x a b=>?_⟩;rw[QV] at a b;exact t _ e x a b
theorem IsL.set{es:List E}{e:E}{x:V}(h:IsL K φ I es xs)(n:Nat)(q:IsE K φ I e x):IsL K φ I (es.set n e) (xs.set n x):=by
 obtain⟨l,t⟩:=IsL.iff.mp h;refine IsL.iff.mpr ⟨by simp[l],λi e' x' a b=>?_⟩
 rcases qX a with⟨rfl,rfl,_⟩ | ⟨ne,a⟩
 ·rcases qX b with⟨_,rfl,_⟩ | ⟨z,_⟩
  ·exact q
  ·exact absurd rfl z
 ·rcases qX b with⟨z,_⟩ | ⟨_,b⟩
  ·exact absurd z ne
  ·exact t i e' x' a b
theorem pP:∀{ds:List D}{xs:List V},IsL K φ I (ds.map .d) xs↔IsA K I ds xs
 | [],xs=>⟨λh=>by rw[h.nil_inv];exact IsA.nil,λh=>by rw[h.nil_inv];exact IsL.nil⟩
 | d::ds,xs=>⟨λh=>by obtain⟨x,r,rfl,h1,h2⟩:=h.cons_inv;exact IsA.cons h1.inv (pP.mp h2),λh=>by
   obtain⟨x,r,rfl,h1,h2⟩:=h.cons_inv;exact IsL.cons (.of h1) (pP.mpr h2)⟩
end
noncomputable def keyD:D->Option Key
 | .int i=>some (.inl i)
 | .str x=>some (.inr x)
 | _=>none
def keysD:List D->Option (List Key)
 | []=>some []
 | d::ds=>match keyD d,keysD ds with
  | some k,some ks=>some (k::ks)
  | _,_=>none
def tkeyD:D->Option (List Key)
 | .tup ds=>keysD ds
 | _=>none
def kD(tk:Bool)(x:D):Option (List Key):=if tk then tkeyD x else match keyD x with
 | some k=>some [k]
 | none=>none
def Hd(lk:Bool)(I H:Hp)(a:h_)(u:HO):Prop:=if lk then ∃o,I a=some (.frz o u)/\H a=some (.frz o u) else H a=some u
def Hd.rd{H:Hp}{a:h_}{u:HO}(h:Hd lk I H a u):Rd H a u:=by
 cases lk with
 | true=>obtain⟨o,_,h⟩:=h;exact .inr ⟨o,h⟩
 | false=>exact .inl h
structure Kl where
 cl:List Str
 fl:List Str
 at':Str->h_
def ObOk(K:FAa)(CA:Kl)(φ:List h_)(I H:Hp)(a:h_):Ob->Prop
 | .lst es=>∃xs,H a=some (.lst xs)/\IsL K φ I es xs
 | .dct false lk kvs=>∃xs:List (Key×V),Hd lk I H a (.dK xs)/\kvs.map (λp=>kD false p.1)=xs.map (λp=>some [p.1])/\IsL K φ I (kvs.map (·.2)) (xs.map (·.2))
 | .dct true lk kvs=>∃xs:List (List Key×V),Hd lk I H a (.dT xs)/\kvs.map (λp=>kD true p.1)=xs.map (λp=>some p.1)/\IsL K φ I (kvs.map (·.2)) (xs.map (·.2))
 | .ins c fs=>c∈CA.cl/\(∀f∈fs.map (·.1),f∈CA.fl)/\∃dx xs,H a=some (.ins (CA.at' c) dx xs)/\H dx=some (.own a)/\fs.map (·.1)=xs.map (·.1)/\IsL K φ I (fs.map (·.2)) (xs.map (·.2))
noncomputable def isCell:HO->Bool
 | .lst _=>true
 | .dK _=>true
 | .dT _=>true
 | .ins _ _ _=>true
 | .frz _ _=>true
 | _=>false
def Hd.cell{H:Hp}{a:h_}{u:HO}(h:Hd lk I H a u)(c:isCell u=true):∃w,H a=some w/\isCell w=true:=by
 cases lk with
 | true=>obtain⟨o,_,h⟩:=h;exact⟨_,h,rfl⟩
 | false=>exact⟨_,h,c⟩
def Hd.keep{H:Hp}{a:h_}{u:HO}(h:Hd lk I H a u)(s:Same I I')(e:H' a=H a):Hd lk I' H' a u:=by
 cases lk with
 | true=>obtain⟨o,h1,h2⟩:=h;exact⟨o,s _ _ h1,e.trans h2⟩
 | false=>exact e.trans h
noncomputable def isLk:Ob->Bool
 | .dct _ lk _=>lk
 | _=>false
theorem ObOk.cell{K:FAa}{CA:Kl}{H:Hp}{a:h_}{o:Ob}(h:ObOk K CA φ I H a o):∃u,H a=some u/\isCell u=true:=by
 cases o with
 | lst es=>obtain⟨xs,h,_⟩:=h;exact⟨_,h,rfl⟩
 | dct tk lk kvs=>cases tk<;>(obtain⟨xs,h,_⟩:=h;exact h.cell rfl)
 | ins c fs=>obtain⟨_,_,dx,xs,h,_⟩:=h;exact⟨_,h,rfl⟩
theorem ObOk.keep{K:FAa}{CA:Kl}{H:Hp}{a:h_}{o:Ob}(h:ObOk K CA φ I H a o)(u:Up φ I al I')(ha:H' a=H a)(hd:∀b,H b=some (.own a)->H' b=some (.own a)):ObOk K CA al I' H' a o:=by
 cases o with
 | lst es=>obtain⟨xs,h,i⟩:=h;exact⟨xs,ha.trans h,i.mono u⟩
 | dct tk lk kvs=>cases tk<;>(obtain⟨xs,h,k,i⟩:=h;exact⟨xs,h.keep u.2 ha,k,i.mono u⟩)
 | ins c fs=>obtain⟨hc,hf,dx,xs,h,k,f,i⟩:=h;exact⟨hc,hf,dx,xs,ha.trans h,hd _ k,f,i.mono u⟩
structure Re(K:FAa)(CA:Kl)(φ:List h_)(I H:Hp)(S:Sto):Prop where
 iH:Same I H
 len:φ.length=S.length
 nd:φ.Nodup
 cell:∀(n:Nat) (o:Ob),S[n]?=some o->∃a,φ[n]?=some a/\(isLk o=false->I a=none)/\ObOk K CA φ I H a o
structure Nk(K:FAa)(φ:List h_)(I:Hp)(ν:Nms)(B:L2.St):Prop where
 len:B.length=ν.length
 slot:∀(i:Nat) (e:E),ν[i]?=some (some e)->∃v,B[i]?=some (some v)/\IsE K φ I e v
section
variable{K:FAa}{CA:Kl}{H:Hp}{S:Sto}{ν:Nms}{p:h_}
theorem Nk.mono(h:Nk K φ I ν B)(u:Up φ I al I'):Nk K al I' ν B:=⟨h.len,λi e q=>by obtain⟨v,h1,h2⟩:=h.slot i e q;exact⟨v,h1,h2.mono u⟩⟩
def Re.addr(r:Re K CA φ I H S){a:h_}(h:φ[n]?=some a):∃o,S[n]?=some o/\(isLk o=false->I a=none)/\ObOk K CA φ I H a o:=by
 have hn:n < S.length:=by rw[←r.len];exact(j_.mp h).1
 obtain⟨a',h1,h2⟩:=r.cell n _ (i_ hn);rw[h] at h1;cases h1;exact⟨_,i_ hn,h2⟩
def Re.out(r:Re K CA φ I H S)(h:H p=none):p∉φ:=λz=>by
 obtain⟨n,hn⟩:=Pn.mp z;obtain⟨o,_,_,k⟩:=r.addr hn;obtain⟨u,hu,_⟩:=k.cell;rw[h] at hu;cases hu
theorem Re.tup(r:Re K CA φ I H S)(h:H p=none)(xs:List V):Re K CA φ (upd I p (.tup xs)) (upd H p (.tup xs)) S/\Up φ I φ (upd I p (.tup xs)):=by
 have ip:=r.iH.free h;have u:Up φ I φ (upd I p (.tup xs)):=⟨⟨[],by simp⟩,pW ip _⟩;refine⟨⟨Il r.iH _,r.len,r.nd,λn o e=>?_⟩,u⟩;obtain⟨a,h1,h2,h3⟩:=r.cell n o e;have ne:a≠p:=λz=>r.out h (z▸NC h1)
 exact⟨a,h1,λl=>by rw[oI ne];exact h2 l,h3.keep u (oI ne) λb hb=>by rw[oI (qI hb h)];exact hb⟩
def Re.new(r:Re K CA φ I H S)(h:H p=none)(e:Same H H')(hp:∃u,H' p=some u){o:Ob}(ok:ObOk K CA (φ++[p]) I H' p o):Re K CA (φ++[p]) I H' (S++[o])/\Up φ I (φ++[p]) I:=by
 have u:Up φ I (φ++[p]) I:=⟨⟨[p],rfl⟩,Same.refl _⟩;refine⟨⟨r.iH.trans e,by simp[r.len],OH.mpr ⟨r.nd,by simp,λa ha b hb=>by rw[m_.mp hb];exact λz=>r.out h (z▸ha)⟩,λn o' q=>?_⟩,u⟩;by_cases hn:n < S.length
 ·rw[M9 hn] at q;obtain⟨a,h1,h2,h3⟩:=r.cell n o' q;obtain⟨ob,cX,_⟩:=h3.cell;exact⟨a,u.get h1,h2,h3.keep u ((e _ _ cX).trans cX.symm) λb hb=>e _ _ hb⟩
 ·rw[MT ⋯] at q
  have db:n=S.length:=by
   have:=(j_.mp q).1;simp at this;omega
  subst db;simp at q;subst q;exact⟨p,by rw[MT (by rw[r.len];exact s_ _),r.len];simp,λ_=>r.iH.free h,ok⟩
def Re.newL(r:Re K CA φ I H S)(h:H p=none){es:List E}(i:IsL K φ I es xs):Re K CA (φ++[p]) I (upd H p (.lst xs)) (S++[.lst es])/\Up φ I (φ++[p]) I:=
 r.new h (pW h _) ⟨_,oK⟩ ⟨xs,oK,i.mono ⟨⟨[p],rfl⟩,Same.refl _⟩⟩
def Re.put(r:Re K CA φ I H S){o o0:Ob}(hn:φ[n]?=some p)(hS:S[n]?=some o0)(l0:isLk o0=false){u:HO}(ok:ObOk K CA φ I (upd H p u) p o):Re K CA φ I (upd H p u) (S.set n o):=by
 obtain⟨o1,e0,ip,k0⟩:=r.addr hn;rw[hS] at e0;cases e0;have ip:=ip l0;obtain⟨u0,jA,c0⟩:=k0.cell;refine⟨λb q e=>?_,by rw[OT];exact r.len,r.nd,λm o' e=>?_⟩
 ·have ne:b≠p:=λz=>by subst z;rw[ip] at e;cases e
  rw[oI ne];exact r.iH b q e
 ·rcases qX e with⟨rfl,rfl,_⟩ | ⟨ne,e⟩
  ·exact⟨p,hn,λ_=>ip,ok⟩
  ·obtain⟨a,h1,h2,h3⟩:=r.cell m o' e
   have na:a≠p:=λz=>by
    subst z;exact ne ((QH (j_.mp h1).1 r.nd).mp (h1.trans hn.symm))
   refine⟨a,h1,h2,h3.keep (Up.refl _ _) (oI na) λb hb=>?_⟩;have nb:b≠p:=λz=>by subst z;rw[hb] at jA;cases jA;cases c0
   rw[oI nb];exact hb
end
end EV
variable{S S' S1:EV.Sto}{o0:EV.Ob}{ν ag aq aw:EV.Nms}
namespace EV
open PySem PySem.Spec PyProof.Rows L2 DL
noncomputable abbrev MM(α:Type):=Nms->Sto->Option (α×Sto)
def pur{α:Type}(a:α):MM α:=λ_ S=>some (a,S)
def bd{α β:Type}(m:MM α)(f:α->MM β):MM β:=λν S=>match m ν S with
 | some (a,S1)=>f a ν S1
 | none=>none
def lif{α:Type}(f:Sto->Option (α×Sto)):MM α:=λ_ S=>f S
inductive BdI{α β:Type}(m:MM α)(f:α->MM β)(ν:Nms)(S S':Sto)(b:β):Prop | mk (a:α) (S1:Sto):m ν S=some (a,S1)->f a ν S1=some (b,S')->BdI m f ν S S' b
def oG{α β:Type}{m:MM α}{f:α->MM β}{b:β}(h:bd m f ν S=some (b,S')):BdI m f ν S S' b:=by
 unfold bd at h;cases e:m ν S with
 | none=>rw[e] at h;cases h
 | some q=>obtain⟨a,S1⟩:=q;rw[e] at h;exact⟨a,S1,e,h⟩
section
variable (K:FAa)(CA:Kl)
def KE(φ:List h_)(I:Hp)(S:Sto)(e:E)(Q:VK):Prop:=∀v H' al I',Re K CA al I' H' S->Up φ I al I'->IsE K al I' e v->Q v H'
def KB(φ:List h_)(I:Hp)(S:Sto)(b:Bool)(Q:Bool->Hp->Prop):Prop:=∀H' al I',Re K CA al I' H' S->Up φ I al I'->Q b H'
def KL(φ:List h_)(I:Hp)(S:Sto)(es:List E)(Q:List V->Hp->Prop):Prop:=∀vs H' al I',Re K CA al I' H' S->Up φ I al I'->IsL K al I' es vs->Q vs H'
inductive tE(m:MM E)(B:L2.St)(H:Hp)(Q:VK):Prop | mk (φ:List h_) (I:Hp) (ν:Nms) (S:Sto) (e:E) (S':Sto):Re K CA φ I H S->Nk K φ I ν B->m ν S=some (e,S')->KE K CA φ I S' e Q->tE m B H Q
inductive pE(m:MM Bool)(B:L2.St)(H:Hp)(Q:Bool->Hp->Prop):Prop | mk (φ:List h_) (I:Hp) (ν:Nms) (S:Sto) (e:Bool) (S':Sto):Re K CA φ I H S->Nk K φ I ν B->m ν S=some (e,S')->KB K CA φ I S' e Q->pE m B H Q
inductive tL(m:MM (List E))(B:L2.St)(H:Hp)(Q:List V->Hp->Prop):Prop | mk (φ:List h_) (I:Hp) (ν:Nms) (S:Sto) (e:List E) (S':Sto):Re K CA φ I H S->Nk K φ I ν B->m ν S=some (e,S')->KL K CA φ I S' e Q->tL m B H Q
end
section
variable{K:FAa}{CA:Kl}{H:Hp}
def KE.after{e:E}{Q:VK}(k:KE K CA φ I S e Q)(u:Up φ I al I'):KE K CA al I' S e Q:=λv H' ao I2 r u2 h=>k v H' ao I2 r (u.trans u2) h
def KB.after{e:Bool}{Q:Bool->Hp->Prop}(k:KB K CA φ I S e Q)(u:Up φ I al I'):KB K CA al I' S e Q:=λH' ao I2 r u2=>k H' ao I2 r (u.trans u2)
def KE.now{e:E}{Q:VK}{v:V}(k:KE K CA φ I S e Q)(r:Re K CA φ I H S)(h:IsE K φ I e v):Q v H:=k v H φ I r (Up.refl _ _) h
theorem KE.newL{Q:VK}{es:List E}{p:h_}(k:KE K CA φ I (S++[.lst es]) (.ref S.length) Q)(r:Re K CA φ I H S)(i:IsL K φ I es xs)(hp:H p=none):Q (.ref p) (upd H p (.lst xs)):=by
 obtain⟨r',u⟩:=r.newL hp i;exact k _ _ _ _ r' u (.mkRf (by rw[←r.len];simp))
end
abbrev EE(X:Cx)(CA:Kl)(e:y_)(m:MM E):Prop:=PE X e (tE X.K CA m)
abbrev ET(X:Cx)(CA:Kl)(e:y_)(m:MM Bool):Prop:=PT X e (pE X.K CA m)
abbrev EW(X:Cx)(CA:Kl)(e:y_)(m:MM Bool):Prop:=PW X e (pE X.K CA m)
abbrev EA(X:Cx)(CA:Kl)(es:List y_)(m:MM (List E)):Prop:=PA X es (tL X.K CA m)
section
variable{X:Cx}{CA:Kl}{a b c e:y_}{es:List y_}{ma mb mc:MM E}
def nm(i:Nat):MM E:=λν S=>match ν[i]? with
 | some (some e)=>some (e,S)
 | _=>none
def Ii{i:Nat}{e:E}(h:nm i ν S=some (e,S')):S'=S/\ν[i]?=some (some e):=by
 unfold nm at h;cases q:ν[i]? with
 | none=>rw[q] at h;cases h
 | some o=>cases o with
  | none=>rw[q] at h;cases h
  | some x=>rw[q] at h;cases h;exact⟨rfl,rfl⟩
def Dw{i:Nat}{x:Str}(h:PE X (.Name x pos) (tVar i)):EE X CA (.Name x pos) (nm i):=PE.imp h λB H Q q=>by
 tm_at"b";obtain⟨rfl,e2⟩:=Ii e1;obtain⟨v,h1,h2⟩:=n.slot i e e2;exact⟨v,h1,k.now r h2⟩
def con(d:D):MM E:=pur (.d d)
def ee_c{v:V}(h:PE X e (tC v))(hd:∀I,Is X.K I d v):EE X CA e (con d):=PE.imp h λB H Q q=>by
 tm_at"b";cases e1;exact k.now r (.of (hd I))
def nilE:MM (List E):=pur []
def csE(g:MM E)(t:MM (List E)):MM (List E):=bd g λd=>bd t λds=>pur (d::ds)
def Ij:EA X CA [] nilE:=PA.imp zt λB H Q q=>by
 tm_at"b";cases e1;exact k _ _ _ _ r (Up.refl _ _) IsL.nil
def Mi{g:MM E}{t:MM (List E)}(ha:EE X CA e g)(hr:EA X CA es t)(hs:D_ (e::es) X.env=(false,MW e X.env)::D_ es X.env):EA X CA (e::es) (csE g t):=
 PA.imp (wp ha hr hs) λB H Q q=>by
  obtain⟨φ,I,ν,S,es,S',r,n,e1,k⟩:=q;obtain⟨d1,S1,e2,e3⟩:=oG e1;obtain⟨d2,S2,e4,e5⟩:=oG e3;cases e5;exact⟨φ,I,ν,S,d1,S1,r,n,e2,λv H1 af I1 r1 u1 h1=>⟨af,I1,ν,S1,d2,_,r1,n.mono u1,e4,λvs H2 ao I2 r2 u2 h2=>k _ _ _ _ r2 (u1.trans u2) (IsL.cons (h1.mono u2) h2)⟩⟩
noncomputable def pures:List E->Option (List D)
 | []=>some []
 | .d x::es=>match pures es with
  | some xs=>some (x::xs)
  | none=>none
 | _::_=>none
theorem sI:∀{es:List E}{xs:List D},pures es=some xs->es=xs.map .d
 | [],xs,h=>by cases h;rfl
 | .d x::es,xs,h=>by
  rw[pures] at h;cases q:pures es with
  | none=>rw[q] at h;cases h
  | some ys=>rw[q] at h;cases h;rw[sI q];rfl
 | .ref _::es,xs,h=>by cases h
 | .tup _::es,xs,h=>by cases h
def mkT(es:List E):E:=match pures es with
 | some xs=>.d (.tup xs)
 | none=>.tup es
def qk{K:FAa}{es:List E}{t:h_}(h:I t=some (.tup xs))(i:IsL K φ I es xs):IsE K φ I (mkT es) (.ref t):=by
 unfold mkT;cases q:pures es with
 | none=>exact .mkTp h i
 | some ys=>have:=sI q;subst this;exact .of (Is.tup h (pP.mp i))
def tupE(t:MM (List E)):MM E:=bd t λes=>lif λS=>if es.length<=lim then some (mkT es,S) else none
def lstE(t:MM (List E)):MM E:=bd t λes=>lif λS=>if es.length<=lim then some (.ref S.length,S++[.lst es]) else none
def Jk{x1}{t:MM (List E)}(h:EA X CA es t):EE X CA (.Tuple es x1 pos) (tupE t):=PE.imp (DA h) λB H Q q=>by
 tm_at"j";obtain⟨hl,e4⟩:=o3 (show(if d1.length<=lim then some (mkT d1,S1) else none)=some (e,S') from e3);cases e4;refine⟨φ,I,ν,S,d1,_,r,n,e2,λvs H1 af I1 r1 u1 h1=>⟨by rw[←h1.length];exact ql hl,λp hp=>?_⟩⟩;obtain⟨r2,u2⟩:=r1.tup hp vs;exact k _ _ _ _ r2 (u1.trans u2) (qk oK (h1.mono u2))
def LR{t:MM (List E)}(h:EA X CA es t):EE X CA (.List es pos) (lstE t):=PE.imp (Fo h) λB H Q q=>by
 tm_at"j";obtain⟨hl,e4⟩:=o3 (show(if d1.length<=lim then some (E.ref S1.length,S1++[.lst d1]) else none)=some (e,S') from e3);cases e4;exact⟨φ,I,ν,S,d1,_,r,n,e2,λvs H1 af I1 r1 u1 h1=>⟨by rw[←h1.length];exact ql hl,λp hp=>(k.after u1).newL r1 h1 hp⟩⟩
abbrev F2:=E->E->Sto->Option (E×Sto)
abbrev FL:=List E->Sto->Option (E×Sto)
def OpE(K:FAa)(CA:Kl)(r:R2)(F:F2):Prop:=∀a b S e S',F a b S=some (e,S')->∀φ I H x y Q,Re K CA φ I H S->IsE K φ I a x->IsE K φ I b y->KE K CA φ I S' e Q->r x y H Q
def CallE(K:FAa)(CA:Kl)(r:List V->Hp->VK->Prop)(F:FL):Prop:=∀es S e S',F es S=some (e,S')->∀φ I H xs Q,Re K CA φ I H S->IsL K φ I es xs->KE K CA φ I S' e Q->r xs H Q
def o2(F:F2)(ga gb:MM E):MM E:=bd ga λx=>bd gb λy=>lif (F x y)
def fn(F:FL)(t:MM (List E)):MM E:=bd t λes=>lif (F es)
def t_o2{F:F2}{K:FAa}(h:OpE K CA r F):∀B H Q,tE K CA (o2 F ma mb) B H Q->tOp r (tE K CA ma) (tE K CA mb) B H Q:=λB H Q q=>by
 tm_at"j";obtain⟨d2,S2,e4,e5⟩:=oG e3;exact⟨φ,I,ν,S,d1,S1,r,n,e2,λv H1 af I1 r1 u1 h1=>⟨af,I1,ν,S1,d2,S2,r1,n.mono u1,e4,λw H2 ao I2 r2 u2 h2=>h _ _ _ _ _ e5 ao I2 H2 v w Q r2 (h1.mono u2) h2 (k.after (u1.trans u2))⟩⟩
def D'{op:Sx}{F:F2}(ho:OpR X (NG op) r)(h:OpE X.K CA r F)(ha:EE X CA a ma)(hb:EE X CA b mb):EE X CA (.BinOp a op b pos) (o2 F ma mb):=PE.imp (JE ho ha hb) (t_o2 h)
def Ll{F:F2}(ho:OpR X (MX op) r)(h:OpE X.K CA r F)(ha:EE X CA a ma)(hb:EE X CA b mb)(hm:QN op b=false):EE X CA (.Compare a [op] [b] pos) (o2 F ma mb):=PE.imp (Ja ho ha hb hm) (t_o2 h)
noncomputable def asBE(e:E):Option Bool:=match e with
 | .d (.bl b)=>some b
 | _=>none
def CO{e:E}{b:Bool}(h:asBE e=some b):e=.d (.bl b):=by
 unfold asBE at h;split at h<;>cases h;rfl
def bool(e:E):MM Bool:=λ_ S=>match asBE e with
 | some b=>some (b,S)
 | none=>none
def xa{e:E}{b:Bool}(h:bool e ν S=some (b,S')):S'=S/\e=.d (.bl b):=by
 unfold bool at h;cases q:asBE e with
 | none=>rw[q] at h;cases h
 | some x=>rw[q] at h;cases h;exact⟨rfl,CO q⟩
def ts(g:MM E):MM Bool:=bd g bool
def t_ts{K:FAa}{g:MM E}{t:TE}(ht:∀B H Q,tE K CA g B H Q->t B H Q):∀B H Q,pE K CA (ts g) B H Q->tTest t B H Q:=λB H Q q=>by
 tm_at"j";obtain⟨rfl,rfl⟩:=xa e3;exact ht _ _ _ ⟨φ,I,ν,S,_,_,r,n,e2,λv H1 af I1 r1 u1 h1=>⟨e,pA h1.inv,k _ _ _ r1 u1⟩⟩
def CZ{F:F2}(ho:OpR X (MX op) r)(h:OpE X.K CA r F)(ha:EE X CA a ma)(hb:EE X CA b mb)(hm:QN op b=false):ET X CA (.Compare a [op] [b] pos) (ts (o2 F ma mb)):=PT.imp (Iz ho ha hb hm) (t_ts (t_o2 h))
def G3(ha:EE X CA a ma)(he:∀aG,SY a X.env aG=(do let v ←aG;Qz a.pos;OA [v] (truthy v))):ET X CA a (ts ma):=PT.imp (Hu ha he) (t_ts λ_ _ _ z=>z)
def ch3(F F':F2)(ga gb gc:MM E):MM E:=bd ga λx=>bd gb λy=>bd (lif (F x y)) λz=>bd (bool z) λk=>if k then bd gc λw=>lif (F' y w) else con (.bl false)
def Ak{F F':F2}{K:FAa}(h:OpE K CA r F)(h':OpE K CA r' F'):∀B H Q,tE K CA (ch3 F F' ma mb mc) B H Q->tChain r r' (tE K CA ma) (tE K CA mb) (tE K CA mc) B H Q:=λB H Q q=>by
 tm_at"j";obtain⟨d2,S2,e4,e5⟩:=oG e3;obtain⟨d3,S3,e6,e7⟩:=oG e5;obtain⟨k1,S4,e9,f1⟩:=oG e7;obtain⟨rfl,rfl⟩:=xa e9;refine⟨φ,I,ν,S,d1,S1,r,n,e2,λv H1 af I1 r1 u1 h1=>⟨af,I1,ν,S1,d2,S2,r1,n.mono u1,e4,λw H2 ao I2 r2 u2 h2=>h _ _ _ _ _ e6 ao I2 H2 v w _ r2 (h1.mono u2) h2 λx H3 bw I3 r3 u3 h3=>⟨k1,pA h3.inv,?_⟩⟩⟩;cases k1 with
 | false=>cases f1;exact iteF (k _ _ _ _ r3 (u1.trans (u2.trans u3)) (.of (Is.bl false)))
 | true =>
  obtain⟨d4,S5,f3,f4⟩:=oG f1;exact iteT ⟨bw,I3,ν,_,d4,S5,r3,n.mono (u1.trans (u2.trans u3)),f3,λz H4 cu I4 r4 u4 h4=>h' _ _ _ _ _ f4 cu I4 H4 w z Q r4 (h2.mono (u3.trans u4)) h4 (k.after (u1.trans (u2.trans (u3.trans u4))))⟩
def F6{F F':F2}(ho:OpR X (MX op) r)(h:OpE X.K CA r F)(bo:OpR X (MX aV) r')(h':OpE X.K CA r' F')(ha:EE X CA a ma)(hb:EE X CA b mb)(hc:EE X CA c mc)(hm:SZ [op,aV] [b,c]=false):EE X CA (.Compare a [op,aV] [b,c] pos) (ch3 F F' ma mb mc):=PE.imp (Jq ho bo ha hb hc hm) (Ak h h')
def GY{F F':F2}(ho:OpR X (MX op) r)(h:OpE X.K CA r F)(bo:OpR X (MX aV) r')(h':OpE X.K CA r' F')(ha:EE X CA a ma)(hb:EE X CA b mb)(hc:EE X CA c mc)(hm:SZ [op,aV] [b,c]=false):ET X CA (.Compare a [op,aV] [b,c] pos) (ts (ch3 F F' ma mb mc)):=PT.imp (Jn ho bo ha hb hc hm) (t_ts (Ak h h'))
def anT(a b:MM Bool):MM Bool:=bd a λk=>if k then b else pur false
def orT'(a b:MM Bool):MM Bool:=bd a λk=>if k then pur true else b
def noT(a:MM Bool):MM Bool:=bd a λk=>pur (!k)
def anE(a b:MM E):MM E:=bd a λd=>bd (bool d) λk=>if k then b else con (.bl false)
def ifE(c:MM Bool)(a b:MM E):MM E:=bd c λk=>if k then a else b
variable {ta tb:MM Bool}{ad:List y_}
def IV(ha:ET X CA a ta)(hb:EW X CA (.BoolOp .And (b::ad) pos) tb):EW X CA (.BoolOp .And (a::b::ad) pos) (anT ta tb):=PW.imp (HJ ha hb) λB H Q q=>by
 tm_at"j";refine⟨φ,I,ν,S,d1,S1,r,n,e2,λH1 af I1 r1 u1=>?_⟩;cases d1 with
 | true=>exact iteT ⟨af,I1,ν,S1,e,S',r1,n.mono u1,e3,k.after u1⟩
 | false=>cases e3;exact iteF (k _ _ _ r1 u1)
def HU(ha:ET X CA a ta)(hb:EW X CA (.BoolOp .Or (b::ad) pos) tb):EW X CA (.BoolOp .Or (a::b::ad) pos) (orT' ta tb):=PW.imp (Li ha hb) λB H Q q=>by
 tm_at"j";refine⟨φ,I,ν,S,d1,S1,r,n,e2,λH1 af I1 r1 u1=>?_⟩;cases d1 with
 | false=>exact iteF ⟨af,I1,ν,S1,e,S',r1,n.mono u1,e3,k.after u1⟩
 | true=>cases e3;exact iteT (k _ _ _ r1 u1)
def Go(ha:ET X CA a ta):ET X CA (.UnaryOp .Not a pos) (noT ta):=PT.imp (DK ha) λB H Q q=>by
 tm_at"j";cases e3;exact⟨φ,I,ν,S,d1,_,r,n,e2,λH1 af I1 r1 u1=>k _ _ _ r1 u1⟩
def Gi(ha:EE X CA a ma)(hb:EE X CA (.BoolOp .And (b::ad) pos) mb):EE X CA (.BoolOp .And (a::b::ad) pos) (anE ma mb):=PE.imp (DN ha hb) λB H Q q=>by
 tm_at"j";obtain⟨k1,S2,e4,e5⟩:=oG e3;obtain⟨rfl,rfl⟩:=xa e4;refine⟨φ,I,ν,S,_,_,r,n,e2,λv H1 af I1 r1 u1 h1=>⟨k1,pA h1.inv,?_⟩⟩;cases k1 with
 | true=>exact iteT ⟨af,I1,ν,_,e,S',r1,n.mono u1,e5,k.after u1⟩
 | false=>cases e5;exact iteF (k _ _ _ _ r1 u1 (.of (Is.bl false)))
def Cm(hc:ET X CA c ta)(ha:EE X CA a ma)(hb:EE X CA b mb):EE X CA (.IfExp c a b pos) (ifE ta ma mb):=PE.imp (LY hc ha hb) λB H Q q=>by
 tm_at"j";refine⟨φ,I,ν,S,d1,S1,r,n,e2,λH1 af I1 r1 u1=>?_⟩;cases d1 with
 | true=>exact iteT ⟨af,I1,ν,S1,e,S',r1,n.mono u1,e3,k.after u1⟩
 | false=>exact iteF ⟨af,I1,ν,S1,e,S',r1,n.mono u1,e3,k.after u1⟩
def uZ{r:List V->Hp->VK->Prop}{F:FL}{K:FAa}{t:MM (List E)}(h:CallE K CA r F):∀B H Q,tE K CA (fn F t) B H Q->tCB r (tL K CA t) B H Q:=λB H Q q=>by
 tm_at"j";exact⟨φ,I,ν,S,d1,S1,r,n,e2,λvs H1 af I1 r1 u1 h1=>h _ _ _ _ e3 af I1 H1 vs Q r1 h1 (k.after u1)⟩
end
def NoFrz(X:Cx)(a:h_):Prop:=∀o u,X.H₀ a≠some (.frz o u)
def Th(X:Cx)(H:Hp)(P:Hp->Prop):Prop:=P H\/∃a o u,H a=some (.frz o u)/\Mut (some u)/\NoFrz X a/\P (upd H a u)
section
variable{X:Cx}{H:Hp}{s:e_}{a:h_}
def Inv.turn{u v:HO}(I:Inv X aa B H s)(e:H a=some u)(mu:∀x,u≠.own x)(mt:∀x,u≠.tup x)(mb:∀x,u≠.tbl x)(nf:(∀o w,u≠.frz o w)\/NoFrz X a)(new:∀H',(∀b c,H b=some (.own c)->H' b=some (.own c))->(∀b xs,H b=some (.tup xs)->H' b=some (.tup xs))->ObjOk X.prog X.w H' s.heap a v):
  Inv X aa B (upd H a v) s:=by
 have ne:∀{b:h_},H b=none->b≠a:=λ{b} z y=>by rw[y,e] at z;cases z
 have no:∀b c,H b=some (.own c)->(upd H a v) b=some (.own c):=λb c z=>by rw[oI (λy=>by rw[y,e] at z;cases z;exact mu c rfl)];exact z
 have nt:∀b xs,H b=some (.tup xs)->(upd H a v) b=some (.tup xs):=λb c z=>by rw[oI (λy=>by rw[y,e] at z;cases z;exact mt c rfl)];exact z
 refine⟨I.ok,I.os,I.bare,⟨I.base.keep,I.base.slot,λb o h1 h2 h3=>?_,I.base.there,λb xs h=>nt _ _ (I.base.tups b xs h),λb o w h=>?_,λb ps h=>?_⟩,I.loc,I.cell,?_,λx c h=>?_,λp hp=>?_,λb o h=>?_,I.len⟩
 ·have h:=I.base.free b o h1 h2 h3;rw[oI (ne h)];exact h
 ·have h':=I.base.frzs b o w h;rw[oI (λy=>?_)]
  ·exact h'
  ·subst y
   rcases nf with nf | nf
   ·rw[e] at h';cases h';exact nf _ _ rfl
   ·exact nf _ _ h
 ·obtain⟨m,h'⟩:=I.base.tbls b ps h;refine⟨m,?_⟩;rw[oI (λy=>by rw[y,e] at h';cases h';exact mb _ rfl)];exact h'
 ·rw[oI (ne I.free)];exact I.free
 ·rw[oI (ne (I.freeC x c h))];exact I.freeC x c h
 ·obtain⟨h1,h2,h3⟩:=I.pin p hp;exact⟨h1,by rw[oI (ne h2)];exact h2,h3⟩
 ·by_cases hb:b=a
  ·subst hb;rw[oK] at h;cases h;exact new _ no nt
  ·rw[oI hb] at h;exact(I.hok b o h).stay (λ_ _ _ q=>q) (λc z=>no c b z) nt
def Inv.thaw{o:Obj}{u:HO}(I:Inv X aa B H s)(e:H a=some (.frz o u))(nf:NoFrz X a):Inv X aa B (upd H a u) s:=
 Inv.turn I e (λ_ z=>by cases z) (λ_ z=>by cases z) (λ_ z=>by cases z) (.inr nf) λH' h1 h2=>ObjOk.stay (I.hok a _ e).2 (λ_ _ _ q=>q) (λc z=>h1 c a z) h2
def Inv.freeze{u:HO}(I:Inv X aa B H s)(e:H a=some u)(mu:Mut (some u))(hd:(∃xs,u=.dK xs)\/∃xs,u=.dT xs):NoFrz X a/\∃o,s.heap.get? a=some o/\Inv X aa B (upd H a (.frz o u)) s:=by
 have nf:∀o w,u≠.frz o w:=λo w z=>by rw[z] at mu;exact mu
 obtain⟨o,ho⟩:∃o,s.heap.get? a=some o:=by
  rcases hd with⟨xs,rfl⟩ | ⟨xs,rfl⟩
  ·obtain⟨_,_,_,_,o,_,_,z,_⟩:=I.hok a _ e;exact⟨o,z⟩
  ·obtain⟨_,_,_,_,o,_,_,z,_⟩:=I.hok a _ e;exact⟨o,z⟩
 refine⟨λo' w z=>?_,o,ho,Inv.turn I e (λ_ z=>by rw[z] at mu;exact mu) (λ_ z=>by rw[z] at mu;exact mu) (λ_ z=>by rw[z] at mu;exact mu) (.inl nf) λH' h1 h2=>⟨ho,ObjOk.stay (I.hok a _ e) (λ_ _ _ q=>q) (λc z=>h1 c a z) h2⟩⟩;have:=I.base.frzs a o' w z;rw[e] at this;cases this;exact nf _ _ rfl
def Th.out{P:Hp->Prop}(I:Inv X aa B H s)(h:Th X H P):∃H',Inv X aa B H' s/\P H':=by
 rcases h with h | ⟨a,o,u,e,mu,nf,h⟩
 ·exact⟨H,I,h⟩
 ·exact⟨_,Inv.thaw I e nf,h⟩
end
noncomputable def thD(X:Cx)(D:Ends):Ends:={ nx:=λB H=>Th X H (D.nx B),rt:=λv H=>Th X H (D.rt v),bk:=λB H=>Th X H (D.bk B),ct:=λB H=>Th X H (D.ct B) }
def PS.thaw{X:Cx}{st:Nr}{t:TS}(h:PS X st t):PS X st (λD B H=>t (thD X D) B H):=λaa s B H D I q=>thn (h aa s B H _ I q) λf s' z=>by
 cases f with
 | next=>obtain⟨ak,H',I',z⟩:=z;obtain⟨H2,I2,z⟩:=Th.out I' z;exact⟨ak,H2,I2,z⟩
 | brk=>obtain⟨ak,H',I',z⟩:=z;obtain⟨H2,I2,z⟩:=Th.out I' z;exact⟨ak,H2,I2,z⟩
 | cont=>obtain⟨ak,H',I',z⟩:=z;obtain⟨H2,I2,z⟩:=Th.out I' z;exact⟨ak,H2,I2,z⟩
 | ret u=>obtain⟨v,ak,H',I',r,z⟩:=z;obtain⟨H2,I2,z⟩:=Th.out I' z;exact⟨v,ak,H2,I2,r,z⟩
def PE.thaw{X:Cx}{e:y_}{t:TE}(h:PE X e t):PE X e (λB H Q=>t B H λv H'=>Th X H' (Q v)):=λaa s B H Q I q=>thn (h aa s B H _ I q) λf s' ⟨v,H',I',r,z⟩=>by
 obtain⟨H2,I2,z⟩:=Th.out I' z;exact⟨v,H2,I2,r,z⟩
noncomputable def lose(I:Hp)(a:h_):Hp:=λb=>if b=a then none else I b
def qV{a b:h_}(h:b≠a):lose I a b=I b:=if_neg h
def Odd(I:Hp)(a:h_):Prop:=∃o u,I a=some (.frz o u)/\Mut (some u)/\∀xs,u≠.lst xs
section
variable{K:FAa}{CA:Kl}{H:Hp}{a:h_}
def Odd.rd{b:h_}(o:Odd I a)(h:Rd I b (.lst xs)):Rd (lose I a) b (.lst xs):=by
 have ne:b≠a:=λz=>by
  obtain⟨o,u,e,mu,nl⟩:=o;subst z
  rcases h with h | ⟨o',h⟩<;>rw[e] at h<;>cases h
  exact nl _ rfl
 unfold Rd;rw[qV ne];exact h
theorem Odd.tup{b:h_}(o:Odd I a)(h:I b=some (.tup xs)):lose I a b=some (.tup xs):=by
 obtain⟨o,u,e,_⟩:=o;rw[qV (λz=>by rw[z,e] at h;cases h)];exact h
mutual
theorem Odd.is(o:Odd I a):∀{d:D}{v:V},Is K I d v->Is K (lose I a) d v
 | .non,_,h=>by rw[Is] at h ⊢;exact h
 | .bl _,_,h=>by rw[Is] at h ⊢;exact h
 | .int _,_,h=>by rw[Is] at h ⊢;exact h
 | .str _,_,h=>by rw[Is] at h ⊢;exact h
 | .tup ds,v,h=>by
  obtain⟨b,xs,e1,e2,e3⟩:=h;exact⟨b,xs,e1,o.tup e2,Odd.isA o e3⟩
 | .lst ds,v,h=>by
  obtain⟨b,xs,e1,e2,e3⟩:=h;exact⟨b,xs,e1,e2.imp o.rd id,Odd.isA o e3⟩
theorem Odd.isA(o:Odd I a):∀{ds:List D}{xs:List V},IsA K I ds xs->IsA K (lose I a) ds xs
 | [],_,h=>by rw[IsA] at h ⊢;exact h
 | d::ds,xs,h=>by
  obtain⟨x,r,e1,e2,e3⟩:=h;exact⟨x,r,e1,Odd.is o e2,Odd.isA o e3⟩
end
mutual
theorem Odd.isE(o:Odd I a):∀{e:E}{v:V},IsE K φ I e v->IsE K φ (lose I a) e v
 | .d _,_,h=>.of (o.is h.inv)
 | .ref _,_,h=>by rw[IsE] at h ⊢;exact h
 | .tup es,v,h=>by
  obtain⟨b,xs,rfl,e2,e3⟩:=h.tp;exact .mkTp (o.tup e2) (Odd.isL o e3)
theorem Odd.isL(o:Odd I a):∀{es:List E}{xs:List V},IsL K φ I es xs->IsL K φ (lose I a) es xs
 | [],_,h=>by rw[h.nil_inv];exact IsL.nil
 | e::es,xs,h=>by
  obtain⟨x,r,rfl,e2,e3⟩:=h.cons_inv;exact IsL.cons (Odd.isE o e2) (Odd.isL o e3)
end
def Odd.nk(o:Odd I a)(n:Nk K φ I ν B):Nk K φ (lose I a) ν B:=⟨n.len,λi e q=>by obtain⟨v,h1,h2⟩:=n.slot i e q;exact⟨v,h1,o.isE h2⟩⟩
noncomputable def lockS(n:Nat)(S:Sto):Option Sto:=match S[n]? with
 | some (.dct tk false kvs)=>some (S.set n (.dct tk true kvs))
 | _=>none
noncomputable def freeS(n:Nat)(S:Sto):Option Sto:=match S[n]? with
 | some (.dct tk true kvs)=>some (S.set n (.dct tk false kvs))
 | _=>none
def Re.lock(r:Re K CA φ I H S)(h:lockS n S=some S'):∃a u,φ[n]?=some a/\H a=some u/\Mut (some u)/\((∃xs,u=.dK xs)\/∃xs,u=.dT xs)/\∀o,Re K CA φ (upd I a (.frz o u)) (upd H a (.frz o u)) S'/\Up φ I φ (upd I a (.frz o u)):=by
 unfold lockS at h;split at h
 ·rename_i tk kvs hn;cases h;obtain⟨a,ha,ia,ok⟩:=r.cell n _ hn;have iE:=ia rfl
  have go:∀u,H a=some u->Mut (some u)->(∀o,ObOk K CA φ (upd I a (.frz o u)) (upd H a (.frz o u)) a (.dct tk true kvs))->∀o,Re K CA φ (upd I a (.frz o u)) (upd H a (.frz o u)) (S.set n (.dct tk true kvs))/\Up φ I φ (upd I a (.frz o u)):=λu hu mu aC o=>by
   have up:Up φ I φ (upd I a (.frz o u)):=⟨⟨[],by simp⟩,pW iE _⟩;refine⟨⟨λb q e=>?_,by rw[OT];exact r.len,r.nd,λm o' e=>?_⟩,up⟩
   ·by_cases hb:b=a
    ·subst hb;rw[oK] at e;cases e;exact oK
    ·rw[oI hb] at e ⊢;exact r.iH b q e
   ·rcases qX e with⟨rfl,rfl,_⟩ | ⟨ne,e⟩
    ·exact⟨a,ha,(λz=>by cases z),aC o⟩
    ·obtain⟨b,h1,h2,h3⟩:=r.cell m o' e
     have nb:b≠a:=λz=>by
      subst z;exact ne ((QH (j_.mp h1).1 r.nd).mp (h1.trans ha.symm))
     refine⟨b,h1,λl=>by rw[oI nb];exact h2 l,h3.keep up (oI nb) λc hc=>?_⟩;have nc:c≠a:=λz=>by subst z;rw[hc] at hu;cases hu;exact mu
     rw[oI nc];exact hc
  cases tk with
  | false =>
   obtain⟨xs,h1,h2,h3⟩:=ok;exact⟨a,_,ha,h1,M5,.inl ⟨xs,rfl⟩,go _ h1 M5 λo=>⟨xs,⟨o,oK,oK⟩,h2,h3.mono ⟨⟨[],by simp⟩,pW iE _⟩⟩⟩
  | true =>
   obtain⟨xs,h1,h2,h3⟩:=ok;exact⟨a,_,ha,h1,M5,.inr ⟨xs,rfl⟩,go _ h1 M5 λo=>⟨xs,⟨o,oK,oK⟩,h2,h3.mono ⟨⟨[],by simp⟩,pW iE _⟩⟩⟩
 ·cases h
def Re.free(r:Re K CA φ I H S)(h:freeS n S=some S'):∃a o u,φ[n]?=some a/\H a=some (.frz o u)/\Mut (some u)/\Odd I a/\Re K CA φ (lose I a) (upd H a u) S':=by
 unfold freeS at h;split at h
 ·rename_i tk kvs hn;cases h;obtain⟨a,ha,_,ok⟩:=r.cell n _ hn
  have go:∀o u,I a=some (.frz o u)->H a=some (.frz o u)->Mut (some u)->(∀xs,u≠.lst xs)->(Odd I a->ObOk K CA φ (lose I a) (upd H a u) a (.dct tk false kvs))->Odd I a/\Re K CA φ (lose I a) (upd H a u) (S.set n (.dct tk false kvs)):=λo u hi hu mu nl aC=>by
   have od:Odd I a:=⟨o,u,hi,mu,nl⟩;refine⟨od,λb q e=>?_,by rw[OT];exact r.len,r.nd,λm o' e=>?_⟩
   ·by_cases hb:b=a
    ·subst hb;unfold lose at e;rw[if_pos rfl] at e;cases e
    ·rw[qV hb] at e;rw[oI hb];exact r.iH b q e
   ·rcases qX e with⟨rfl,rfl,_⟩ | ⟨ne,e⟩
    ·exact⟨a,ha,λ_=>if_pos rfl,aC od⟩
    ·obtain⟨b,h1,h2,h3⟩:=r.cell m o' e
     have nb:b≠a:=λz=>by
      subst z;exact ne ((QH (j_.mp h1).1 r.nd).mp (h1.trans ha.symm))
     refine⟨b,h1,λl=>by rw[qV nb];exact h2 l,?_⟩;have hb:(upd H a u) b=H b:=oI nb;cases o' with
     | lst es=>obtain⟨xs,g,i⟩:=h3;exact⟨xs,hb.trans g,od.isL i⟩
     | dct cT lk' kvs' =>
      cases cT<;>cases lk'<;>obtain⟨xs,g,k,i⟩:=h3
      ·exact⟨xs,(hb.trans g:_),k,od.isL i⟩
      ·obtain⟨o2,g1,g2⟩:=g;exact⟨xs,⟨o2,(qV nb).trans g1,hb.trans g2⟩,k,od.isL i⟩
      ·exact⟨xs,(hb.trans g:_),k,od.isL i⟩
      ·obtain⟨o2,g1,g2⟩:=g;exact⟨xs,⟨o2,(qV nb).trans g1,hb.trans g2⟩,k,od.isL i⟩
     | ins c fs =>
      obtain⟨hc,hf,dx,xs,g,k,f,i⟩:=h3;exact⟨hc,hf,dx,xs,hb.trans g,by rw[oI (λz=>by rw[z,hu] at k;cases k)];exact k,f,od.isL i⟩
  cases tk with
  | false =>
   obtain⟨xs,⟨o,h1,h2⟩,h3,h4⟩:=ok;have:=go o _ h1 h2 M5 (λ_ z=>by cases z) λod=>⟨xs,(oK:_),h3,od.isL h4⟩
   exact⟨a,o,_,ha,h2,M5,this.1,this.2⟩
  | true =>
   obtain⟨xs,⟨o,h1,h2⟩,h3,h4⟩:=ok;have:=go o _ h1 h2 M5 (λ_ z=>by cases z) λod=>⟨xs,(oK:_),h3,od.isL h4⟩
   exact⟨a,o,_,ha,h2,M5,this.1,this.2⟩
 ·cases h
theorem Up.lose{al:List h_}{I':Hp}(u:Up φ I al I')(h:I a=none):Up φ I al (lose I' a):=⟨u.1,λb q e=>by
 have nb:b≠a:=λz=>by rw[z,h] at e;cases e
 rw[qV nb];exact u.2 b q e⟩
end
end EV
variable{F':EV.F2}{mv el:EV.MM EV.E}{gc:EV.MM Bool}{ms:List (EV.MM EV.E×EV.MM EV.E)}
namespace EV
open PySem PySem.Spec PyProof.Rows L2 DL
inductive Fl where
 | nx | rt (e:E) | bk | ct
abbrev SM:=Nms->Sto->Option (Fl×Nms×Sto)
def EndE(K:FAa)(φ:List h_)(I H:Hp)(B:L2.St)(D:Ends):Fl->Prop
 | .nx=>D.nx B H
 | .bk=>D.bk B H
 | .ct=>D.ct B H
 | .rt e=>∀v,IsE K φ I e v->D.rt v H
section
variable (K:FAa)(CA:Kl)
def sJ(φ:List h_)(I:Hp)(f:Fl)(ν:Nms)(S:Sto)(D:Ends):Prop:=∀ak H' al I',Re K CA al I' H' S->Nk K al I' ν ak->Up φ I al I'->EndE K al I' H' ak D f
inductive tN(m:SM)(D:Ends)(B:L2.St)(H:Hp):Prop | mk (φ:List h_) (I:Hp) (ν:Nms) (S:Sto) (f:Fl) (ag:Nms) (S':Sto):Re K CA φ I H S->Nk K φ I ν B->m ν S=some (f,ag,S')->sJ K CA φ I f ag S' D->tN m D B H
abbrev GM:=E->Nms->Option Nms
inductive tG(f:GM)(v:V)(B:L2.St)(H:Hp)(Q:L2.St->Hp->Prop):Prop | mk (φ:List h_) (I:Hp) (ν:Nms) (S:Sto) (e:E) (ag:Nms):Re K CA φ I H S->Nk K φ I ν B->IsE K φ I e v->f e ν=some ag->(∀ak,Nk K φ I ag ak->Q ak H)->tG f v B H Q
inductive tGs'(f:List E->Nms->Option Nms)(vs:List V)(B:L2.St)(H:Hp)(Q:L2.St->Hp->Prop):Prop | mk (φ:List h_) (I:Hp) (ν:Nms) (S:Sto) (es:List E) (ag:Nms):Re K CA φ I H S->Nk K φ I ν B->IsL K φ I es vs->f es ν=some ag->(∀ak,Nk K φ I ag ak->Q ak H)->tGs' f vs B H Q
end
abbrev ES(X:Cx)(CA:Kl)(st:Nr)(m:SM):Prop:=PS X st (tN X.K CA m)
abbrev ESs(X:Cx)(CA:Kl)(st:List Nr)(m:SM):Prop:=PSs X st (tN X.K CA m)
abbrev EG(X:Cx)(CA:Kl)(tg:y_)(f:GM):Prop:=PG X tg (tG X.K CA f)
abbrev EGs(X:Cx)(CA:Kl)(fQ:List y_)(f:List E->Nms->Option Nms):Prop:=PGs X fQ (tGs' X.K CA f)
noncomputable def bs(m:SM)(f:Fl->SM):SM:=λν S=>match m ν S with
 | some (a,aw,S1)=>f a aw S1
 | none=>none
def ve{α:Type}(m:MM α)(f:α->SM):SM:=λν S=>match m ν S with
 | some (a,S1)=>f a ν S1
 | none=>none
noncomputable def ends(f:Fl):SM:=λν S=>some (f,ν,S)
inductive BsI(m:SM)(f:Fl->SM)(ν ag:Nms)(S S':Sto)(b:Fl):Prop | mk (a:Fl) (aw:Nms) (S1:Sto):m ν S=some (a,aw,S1)->f a aw S1=some (b,ag,S')->BsI m f ν ag S S' b
def Al{m:SM}{f:Fl->SM}{b:Fl}(h:bs m f ν S=some (b,ag,S')):BsI m f ν ag S S' b:=by
 unfold bs at h;cases e:m ν S with
 | none=>rw[e] at h;cases h
 | some q=>obtain⟨a,aw,S1⟩:=q;rw[e] at h;exact⟨a,aw,S1,e,h⟩
inductive VeI{α:Type}(m:MM α)(f:α->SM)(ν ag:Nms)(S S':Sto)(b:Fl):Prop | mk (a:α) (S1:Sto):m ν S=some (a,S1)->f a ν S1=some (b,ag,S')->VeI m f ν ag S S' b
def pJ{α:Type}{m:MM α}{f:α->SM}{b:Fl}(h:ve m f ν S=some (b,ag,S')):VeI m f ν ag S S' b:=by
 unfold ve at h;cases e:m ν S with
 | none=>rw[e] at h;cases h
 | some q=>obtain⟨a,S1⟩:=q;rw[e] at h;exact⟨a,S1,e,h⟩
section
variable{K:FAa}{CA:Kl}{f:Fl}{D:Ends}
def sJ.after(k:sJ K CA φ I f ν S D)(u:Up φ I al I'):sJ K CA al I' f ν S D:=λB H ao I2 r n u2=>k B H ao I2 r n (u.trans u2)
end
section
variable{X:Cx}{CA:Kl}{a b c e:y_}{es:List y_}{ma mb:MM E}{st:Nr}{ad:List Nr}{g h:SM}
def sq(g h:SM):SM:=bs g λf=>match f with
 | .nx=>h
 | .rt r=>ends (.rt r)
 | .bk=>ends .bk
 | .ct=>ends .ct
def IZ:ESs X CA [] (ends .nx):=PSs.imp Io λD B H q=>by
 obtain⟨φ,I,ν,S,f,ag,S',r,n,e1,k⟩:=q;cases e1;exact k B H φ I r n (Up.refl _ _)
def Fh(h:ES X CA st g):ESs X CA [st] g:=Kt h
def CW(h1:ES X CA st g)(h2:ESs X CA ad h):ESs X CA (st::ad) (sq g h):=PSs.imp (F1 h1 h2) λD B H q=>by
 obtain⟨φ,I,ν,S,f,ag,S',r,n,e1,k⟩:=q;obtain⟨f1,aw,S1,e2,e3⟩:=Al e1;refine⟨φ,I,ν,S,f1,aw,S1,r,n,e2,λbM H1 af I1 r1 n1 u1=>?_⟩;cases f1 with
 | nx=>exact⟨af,I1,aw,S1,f,ag,S',r1,n1,e3,k.after u1⟩
 | bk=>cases e3;exact k bM H1 af I1 r1 n1 u1
 | ct=>cases e3;exact k bM H1 af I1 r1 n1 u1
 | rt v=>cases e3;exact k bM H1 af I1 r1 n1 u1
noncomputable def nev:SM:=λ_ _=>none
def qG:ES X CA st nev:=PS.imp Db λD B H q=>by
 obtain⟨φ,I,ν,S,f,ag,S',r,n,e1,k⟩:=q;cases e1
def drp(g:MM E):SM:=ve g λ_=>ends .nx
def Jp(he:EE X CA e ma)(hs:N6 e none pos.line X.env=pure false):ES X CA (.Expr e pos) (drp ma):=PS.imp (EH he hs) λD B H q=>by
 obtain⟨φ,I,ν,S,f,ag,S',r,n,e1,k⟩:=q;obtain⟨d1,S1,e2,e3⟩:=pJ e1;cases e3;exact⟨φ,I,ν,S,d1,_,r,n,e2,λv H1 af I1 r1 u1 h1=>k B H1 af I1 r1 (n.mono u1) u1⟩
def rtn(g:MM E):SM:=ve g λe=>ends (.rt e)
def G1(he:EE X CA e ma):ES X CA (.Return (some e) pos) (rtn ma):=PS.imp (JR he) λD B H q=>by
 obtain⟨φ,I,ν,S,f,ag,S',r,n,e1,k⟩:=q;obtain⟨d1,S1,e2,e3⟩:=pJ e1;cases e3;exact⟨φ,I,ν,S,d1,_,r,n,e2,λv H1 af I1 r1 u1 h1=>k B H1 af I1 r1 (n.mono u1) u1 v h1⟩
def iff(c:MM Bool)(a b:SM):SM:=ve c λk=>if k then a else b
def DZ{tc:MM Bool}{sa sb:List Nr}(hc:ET X CA c tc)(ha:ESs X CA sa g)(hb:ESs X CA sb h):ES X CA (.If c sa sb pos) (iff tc g h):=PS.imp (Fx hc ha hb) λD B H q=>by
 obtain⟨φ,I,ν,S,f,ag,S',r,n,e1,k⟩:=q;obtain⟨d1,S1,e2,e3⟩:=pJ e1;refine⟨φ,I,ν,S,d1,S1,r,n,e2,λH1 af I1 r1 u1=>?_⟩;cases d1 with
 | true=>exact iteT ⟨af,I1,ν,S1,f,ag,S',r1,n.mono u1,e3,k.after u1⟩
 | false=>exact iteF ⟨af,I1,ν,S1,f,ag,S',r1,n.mono u1,e3,k.after u1⟩
theorem Nk.set{K:FAa}(n:Nk K φ I ν B){i:Nat}{e:E}{v:V}(hi:i < ν.length)(h:IsE K φ I e v):Nk K φ I (ν.set i (some e)) (B.set i (some v)):=⟨by rw[OT,OT];exact n.len,λj d q=>by
 rcases qX q with⟨rfl,z,_⟩ | ⟨ne,q⟩
 ·cases z;exact⟨v,Os (by rw[n.len];exact hi),h⟩
 ·rw[OP (MQ ne)];exact n.slot j d q⟩
noncomputable def tgn(i:Nat):GM:=λe ν=>if i < ν.length then some (ν.set i (some e)) else none
def eg_n{i:Nat}{x:Str}(hN:X.N.Nodup)(hi:X.N[i]?=some x)(hx:Loc X.env.scope x)(hf:X.fn x=true\/X.env.scope.names.lookup x=some .local):EG X CA (.Name x pos) (tgn i):=
 PG.imp (F9 hN hi hx hf) λv B H Q q=>by
  obtain⟨φ,I,ν,S,e,ag,r,n,hd,e1,k⟩:=q;obtain⟨hl,e2⟩:=o3 (show(if i < ν.length then some (ν.set i (some e)) else none)=some ag from e1);cases e2;exact k _ (n.set hl hd)
noncomputable def tg0:List E->Nms->Option Nms:=λes ν=>match es with
 | []=>some ν
 | _=>none
noncomputable def tgc(f:GM)(t:List E->Nms->Option Nms):List E->Nms->Option Nms:=λes ν=>match es with
 | e::r=>match f e ν with
  | some aw=>t r aw
  | none=>none
 | []=>none
def Iq:EGs X CA [] tg0:=PGs.imp Ed λv B H Q q=>by
 obtain⟨φ,I,ν,S,es,ag,r,n,hd,e1,k⟩:=q;cases es with
 | nil=>cases e1;exact⟨hd.nil_inv,k _ n⟩
 | cons d t=>cases e1
def Ez{f:GM}{t:List E->Nms->Option Nms}(h1:EG X CA e f)(h2:EGs X CA es t)(hs:(M7 (e::es) X.env).map (·.2)=Rg e X.env::(M7 es X.env).map (·.2)):EGs X CA (e::es) (tgc f t):=PGs.imp (Dm h1 h2 hs) λv B H Q q=>by
 obtain⟨φ,I,ν,S,es,ag,r,n,hd,e1,k⟩:=q;cases es with
 | nil=>cases e1
 | cons d t' =>
  obtain⟨x,xs,rfl,h1,h2⟩:=hd.cons_inv;unfold tgc at e1;dsimp only at e1;cases e2:f d ν with
  | none=>rw[e2] at e1;cases e1
  | some aw =>
   rw[e2] at e1;exact⟨x,xs,rfl,φ,I,ν,S,d,aw,r,n,h1,e2,λbM n1=>⟨φ,I,aw,S,t',ag,r,n1,h2,e1,λbb n2=>k bb n2⟩⟩
noncomputable def unT:E->Option (List E)
 | .d (.tup ds)=>some (ds.map .d)
 | .tup es=>some es
 | _=>none
def qC{K:FAa}{e:E}{es:List E}{v:V}(h:unT e=some es)(i:IsE K φ I e v):∃a xs,v=.ref a/\I a=some (.tup xs)/\IsL K φ I es xs:=by
 unfold unT at h;split at h
 ·cases h;obtain⟨a,xs,h1,h2,h3⟩:=wE i.inv;exact⟨a,xs,h1,h2,pP.mpr h3⟩
 ·cases h;exact i.tp
 ·cases h
def tgt(k:Nat)(t:List E->Nms->Option Nms):GM:=λe ν=>match unT e with
 | some es=>if es.length=k then t es ν else none
 | none=>none
def FE{k:Nat}{t:List E->Nms->Option Nms}(hc:X.calm=true)(h:EGs X CA es t)(hn:(M7 es X.env).length=n)(cB:(M7 es X.env).findIdx? (·.1)=none):EG X CA (.Tuple es k pos) (tgt n t):=
 PG.imp (HM hc h hn cB) λv B H Q q=>by
  obtain⟨φ,I,ν,S,e,ag,r,n',hd,e1,k⟩:=q;unfold tgt at e1;cases q:unT e with
  | none=>rw[q] at e1;cases e1
  | some es' =>
   rw[q] at e1;dsimp only at e1;by_cases hl:es'.length=n
   ·rw[if_pos hl] at e1;obtain⟨a,xs,rfl,h1,h2⟩:=qC q hd;exact⟨a,xs,rfl,SqT.of (r.iH _ _ h1),by rw[←h2.length];exact hl,φ,I,ν,S,es',ag,r,n',h2,e1,k⟩
   ·rw[if_neg hl] at e1;cases e1
def asg(g:MM E)(f:GM):SM:=ve g λe ν S=>match f e ν with
 | some ag=>some (.nx,ag,S)
 | none=>none
def F4{K:FAa}{f:GM}{t:TE}{tg:TG}(ht:∀B H Q,tE K CA ma B H Q->t B H Q)(hg:∀v B H Q,tG K CA f v B H Q->tg v B H Q):∀D B H,tN K CA (asg ma f) D B H->tAsg t tg D B H:=λD B H q=>by
 obtain⟨φ,I,ν,S,fl,ag,S',r,n,e1,k⟩:=q;obtain⟨d1,S1,e2,e3⟩:=pJ e1;cases e4:f d1 ν with
 | none=>rw[e4] at e3;cases e3
 | some aw =>
  rw[e4] at e3;cases e3;exact ht _ _ _ ⟨φ,I,ν,S,d1,_,r,n,e2,λv H1 af I1 r1 u1 h1=>hg _ _ _ _ ⟨af,I1,ν,_,d1,ag,r1,n.mono u1,h1,e4,λbb n2=>k bb H1 af I1 r1 n2 u1⟩⟩
def wW{f:GM}(he:EE X CA e ma)(hg:EG X CA tg f)(hs:Ps [tg] e pos.line X.env=pure false)(hw:QM [tg] e X.env=pure none)(h1:(M7 [tg] X.env).map (·.2)=[Rg tg X.env]):ES X CA (.Assign [tg] e pos) (asg ma f):=PS.imp (yZ he hg hs hw h1) (F4 (λ_ _ _ z=>z) λ_ _ _ _ z=>z)
abbrev F3:=E->E->E->Sto->Option Sto
def SetE(K:FAa)(CA:Kl)(r:TSet)(F:F3):Prop:=∀o i v S S',F o i v S=some S'->∀φ I H x y z Q,Re K CA φ I H S->IsE K φ I o x->IsE K φ I i y->IsE K φ I v z->(∀H',Re K CA φ I H' S'->Q H')->r x y z H Q
def putE(F:F3)(mv mo mi:MM E):SM:=ve mv λv=>ve mo λo=>ve mi λi ν S=>match F o i v S with
 | some S'=>some (.nx,ν,S')
 | none=>none
noncomputable def noSl:y_->Bool
 | .Slice _ _ _ _=>false
 | _=>true
def E7{o i:y_}{p:Pos}(h:noSl i=true)(v:b_):Rg (.Subscript o i p) env v=(do
   let ov ←OA [v] (MW o env)
   let iv ←OA [v,ov] (MW i env)
   Qz p
   OA [v,ov,iv] (T5 ov iv v)
   release [v,ov,iv] []):=by
 cases i<;>first | rfl | cases h
def Hx{F:F3}{t:TSet}(hs:PSet X t)(h:SetE X.K CA t F)(hv:EE X CA e mv)(ho:EE X CA a ma)(hi:EE X CA b mb)(hn:noSl b=true)(h1:Ps [.Subscript a b p'] e pos.line X.env=pure false):ES X CA (.Assign [.Subscript a b p'] e pos) (putE F mv ma mb):=
 PS.imp (yZ hv (Ft ho hi hs (E7 hn)) h1 (by rfl) (by rfl)) λD B H q=>by
  obtain⟨φ,I,ν,S,fl,ag,S',r,n,e1,k⟩:=q;obtain⟨v,S1,e2,e3⟩:=pJ e1;obtain⟨o,S2,e4,e5⟩:=pJ e3;obtain⟨i,S3,e6,e7⟩:=pJ e5;cases e8:F o i v S3 with
  | none=>rw[e8] at e7;cases e7
  | some S4 =>
   rw[e8] at e7;cases e7
   exact⟨φ,I,ν,S,v,S1,r,n,e2,λx H1 af I1 r1 u1 h1=>⟨af,I1,ν,S1,o,S2,r1,n.mono u1,e4,λy H2 ao I2 r2 u2 h2=>⟨ao,I2,ν,S2,i,S3,r2,n.mono (u1.trans u2),e6,λz H3 bw I3 r3 u3 h3 =>
    h _ _ _ _ _ e8 bw I3 H3 _ _ _ _ r3 (h2.mono u3) h3 (h1.mono (u2.trans u3)) λH4 r4=>k B H4 bw I3 r4 (n.mono (u1.trans (u2.trans u3))) (u1.trans (u2.trans u3))⟩⟩⟩
abbrev Src:=Sto->Option (List E)
def Yld(K:FAa)(CA:Kl)(φ:List h_)(I:Hp)(src:Src)(J:It):Prop:=∀(i:Nat) (al:List h_) (I' H':Hp) (S':Sto) (es:List E),Up φ I al I'->Re K CA al I' H' S'->src S'=some es →
 (∀e,es[i]?=some e->J.go i H'/\∀x H2,J.yld i H' x H2->(H2=H'/\∃I2,Re K CA al I2 H' S'/\Up al I' al I2/\IsE K al I2 e x)\/(∃p es' xs,e=mkT es'/\x=.ref p/\H' p=none/\H2=upd H' p (.tup xs)/\IsL K al I' es' xs))/\(es.length<=i->J.stop i H')
structure Itn where
 src:Src
 lk:Option Nat
def LkOk(X:Cx)(φ:List h_)(I:Hp)(lk:Option Nat):Prop:=∀n,lk=some n->∃a,φ[n]?=some a/\NoFrz X a/\I a=none
def unl:Option Nat->Sto->Option Sto
 | none,S=>some S
 | some n,S=>freeS n S
inductive xd(X:Cx)(CA:Kl)(g:MM Itn)(B:L2.St)(H:Hp)(R:It->Hp->Prop):Prop | mk (φ:List h_) (I:Hp) (ν:Nms) (S:Sto) (it:Itn) (S':Sto):Re X.K CA φ I H S->Nk X.K φ I ν B->g ν S=some (it,S')->(∀J H' al I',Re X.K CA al I' H' S'->Up φ I al I'->LkOk X al I it.lk->Yld X.K CA al I' it.src J->R J H')->xd X CA g B H R
abbrev EI(X:Cx)(CA:Kl)(tg iter:y_)(g:MM Itn):Prop:=PI X tg iter (xd X CA g)
def Up.losing{a:h_}(u:Up φ I af I1)(u':Up af I1 ao I2)(h:I a=none):Up φ I ao (EV.lose I2 a):=(u.trans u').lose h
def yL{X:Cx}{CA:Kl}{lk:Option Nat}(hl:LkOk X af I lk)(hf:unl lk S=some S')(r:Re X.K CA ao I2 H2 S)(u:Up φ I af I1)(u':Up af I1 ao I2):
  ∃I3 H3,Re X.K CA ao I3 H3 S'/\Up φ I ao I3/\(∀e v,IsE X.K ao I2 e v->IsE X.K ao I3 e v)/\(∀ν B,Nk X.K ao I2 ν B->Nk X.K ao I3 ν B)/\∀P:Hp->Prop,P H3->Th X H2 P:=by
 cases lk with
 | none=>cases hf;exact⟨I2,H2,r,u.trans u',λ_ _ h=>h,λ_ _ h=>h,λP h=>.inl h⟩
 | some n =>
  obtain⟨a,ha,nf,ia⟩:=hl n rfl;obtain⟨b,o,w,hb,hH,mu,od,r3⟩:=r.free hf;rw[u'.get ha] at hb;cases hb;exact⟨_,_,r3,Up.losing u u' ia,λ_ _ h=>od.isE h,λ_ _ h=>od.nk h,λP h=>.inr ⟨a,o,w,hH,mu,nf,h⟩⟩
def Th.exit{X:Cx}{CA:Kl}{lk:Option Nat}{fl:Fl}{D:Ends}(k:sJ X.K CA φ I fl ν S' D)(hl:LkOk X af I lk)(hf:unl lk S=some S')(r:Re X.K CA ao I2 H2 S)(n:Nk X.K ao I2 ν B)(u:Up φ I af I1)(u':Up af I1 ao I2):
  EndE X.K ao I2 H2 B (thD X D) fl:=by
 obtain⟨I3,H3,r3,u3,h1,h2,h3⟩:=yL hl hf r u u';have kk:=k B H3 ao I3 r3 (h2 _ _ n) u3;cases fl with
 | nx=>exact h3 _ kk
 | bk=>exact h3 _ kk
 | ct=>exact h3 _ kk
 | rt e=>exact λv hv=>h3 _ (kk v (h1 _ _ hv))
def Yld.item{K:FAa}{src:Src}{J:It}{es:List E}{i:Nat}{e:E}{x:V}(y:Yld K CA φ I src J)(u:Up φ I af I1)(r:Re K CA af I1 H1 S1)(hs:src S1=some es)(he:es[i]?=some e)(hy:J.yld i H1 x H2):
  ∃I2,Re K CA af I2 H2 S1/\Up af I1 af I2/\IsE K af I2 e x:=by
 rcases(((y i af I1 H1 S1 es u r hs).1 e he).2 x H2 hy) with⟨rfl,h⟩ | ⟨p,es',xs,rfl,rfl,hp,rfl,h⟩
 ·exact h
 ·obtain⟨r2,u2⟩:=r.tup hp xs;exact⟨_,r2,u2,qk oK (h.mono u2)⟩
def forL(src:Src)(f:GM)(body:SM):Nat->Nat->SM
 | 0,_=>nev
 | n+1,i=>λν S=>match src S with
  | some es=>match es[i]? with
   | some e=>match f e ν with
    | some aw=>match body aw S with
     | some (.nx,aq,S2)=>forL src f body n (i+1) aq S2
     | some (.ct,aq,S2)=>forL src f body n (i+1) aq S2
     | some (.bk,aq,S2)=>some (.nx,aq,S2)
     | some (.rt r,aq,S2)=>some (.rt r,aq,S2)
     | none=>none
    | none=>none
   | none=>some (.nx,ν,S)
  | none=>none
def forE(it:MM Itn)(f:GM)(body:SM):SM:=ve it λi ν S=>match forL i.src f body 1000000 0 ν S with
 | some (fl,ag,S')=>match unl i.lk S' with
  | some S2=>some (fl,ag,S2)
  | none=>none
 | none=>none
def KH{it:MM Itn}{f:GM}(hp:RR (t_ X.prog X.w) X.A X.env X.xe)(hc:X.calm=true)(hi:EI X CA tg iter it)(hg:EG X CA tg f)(hb:ESs X CA body g)(hs:∀x,NJ iter X.env x=pure x):ES X CA (.For tg iter body [] pos) (forE it f g):=PS.imp (PS.thaw (EO hp hc hi hg hb hs)) λD B H q=>by
 obtain⟨φ,I,ν,S,fl,ag,S',r,n,e1,k⟩:=q;obtain⟨⟨src,lk⟩,S1,e2,e3⟩:=pJ e1;split at e3
 ·rename_i nN nO Se f6;split at e3
  ·rename_i S9 hf;cases e3;have e3:=f6;refine⟨φ,I,ν,S,_,S1,r,n,e2,λJ H1 af I1 r1 u1 hl y=>?_⟩;refine⟨λi m B H=>∃ao I2 aq S2,Re X.K CA ao I2 H S2/\Nk X.K ao I2 aq B/\Up af I1 ao I2/\forL src f g m i aq S2=some (fl,ag,Se),⟨1000000,af,I1,ν,S1,r1,n.mono u1,Up.refl _ _,e3⟩,?_⟩;rintro i m' bb H2 ⟨ao,I2,aq,S2,r2,n2,u2,e4⟩;cases m' with
   | zero=>cases e4
   | succ m' =>
    rw[forL] at e4;dsimp only at e4;cases q:src S2 with
    | none=>rw[q] at e4;cases e4
    | some es =>
     rw[q] at e4;dsimp only at e4;obtain⟨yg,ys⟩:=y i ao I2 H2 S2 es u2 r2 q;cases qe:es[i]? with
     | none =>
      rw[qe] at e4;cases e4;exact .inl ⟨ys (Qx.mp qe),Th.exit k hl hf r2 n2 u1 u2⟩
     | some e =>
      rw[qe] at e4;dsimp only at e4;cases qf:f e aq with
      | none=>rw[qf] at e4;cases e4
      | some bB =>
       rw[qf] at e4;dsimp only at e4;cases qb:g bB S2 with
       | none=>rw[qb] at e4;cases e4
       | some z =>
        obtain⟨f3,cv,S4⟩:=z;rw[qb] at e4;refine .inr ⟨(yg e qe).1,λak H'=>∃bw I3,Re X.K CA bw I3 H' S4/\Nk X.K bw I3 cv ak/\Up af I1 bw I3/\(f3=.nx\/f3=.ct),λak H' ⟨bw,I3,r3,n3,u3,hf⟩=>⟨m',Nb _,bw,I3,cv,S4,r3,n3,u3,?_⟩,λx H3 hy=>?_⟩
        ·rcases hf with rfl | rfl<;>exact e4
        ·obtain⟨I3,r3,u3,h3⟩:=y.item u2 r2 q qe hy;refine⟨ao,I3,aq,S2,e,bB,r3,n2.mono u3,h3,qf,λlA n4=>⟨ao,I3,bB,S2,f3,cv,S4,r3,n4,qb,λc6 H5 ca I5 r5 n5 u5=>?_⟩⟩;have uu:Up af I1 ca I5:=u2.trans (u3.trans u5);cases f3 with
         | nx=>exact⟨ca,I5,r5,n5,uu,.inl rfl⟩
         | ct=>exact⟨ca,I5,r5,n5,uu,.inr rfl⟩
         | bk=>cases e4;exact Th.exit k hl hf r5 n5 u1 uu
         | rt v=>cases e4;exact Th.exit k hl hf r5 n5 u1 uu
  ·cases e3
 ·cases e3
def whL(c:MM Bool)(body:SM):Nat->SM
 | 0=>nev
 | n+1=>ve c λk=>if k=true then bs body λf=>match f with
   | .nx=>whL c body n
   | .ct=>whL c body n
   | .bk=>ends .nx
   | .rt r=>ends (.rt r)
  else ends .nx
def JU{N:Nat}(hp:RR (t_ X.prog X.w) X.A X.env X.xe)(hc:ET X CA c gc)(hb:ESs X CA body g):ES X CA (.While c body [] pos) (whL gc g N):=PS.imp (Gm hp hc hb) λD B H q=>by
 obtain⟨φ,I,ν,S,fl,ag,S',r,n,e1,k⟩:=q;refine⟨λm B H=>∃ao I2 aq S2,Re X.K CA ao I2 H S2/\Nk X.K ao I2 aq B/\Up φ I ao I2/\whL gc g m aq S2=some (fl,ag,S'),⟨N,φ,I,ν,S,r,n,Up.refl _ _,e1⟩,?_⟩;rintro m bb H2 ⟨ao,I2,aq,S2,r2,n2,u2,e2⟩;cases m with
 | zero=>cases e2
 | succ m =>
  obtain⟨b,S3,e3,e4⟩:=pJ e2;refine⟨ao,I2,aq,S2,b,S3,r2,n2,e3,λH3 bw I3 r3 u3=>?_⟩;cases b with
  | true =>
   obtain⟨f3,cv,S4,e5,e6⟩:=Al e4;refine⟨λak H'=>∃cu I4,Re X.K CA cu I4 H' S4/\Nk X.K cu I4 cv ak/\Up φ I cu I4/\(f3=.nx\/f3=.ct),λak H' ⟨cu,I4,r4,n4,u4,hf⟩=>⟨m,Nb m,cu,I4,cv,S4,r4,n4,u4,?_⟩,bw,I3,aq,S3,f3,cv,S4,r3,n2.mono u3,e5,λc6 H5 ca I5 r5 n5 u5=>?_⟩
   ·rcases hf with rfl | rfl<;>exact e6
   ·have uu:Up φ I ca I5:=u2.trans (u3.trans u5);cases f3 with
    | nx=>exact⟨ca,I5,r5,n5,uu,.inl rfl⟩
    | ct=>exact⟨ca,I5,r5,n5,uu,.inr rfl⟩
    | bk=>cases e6;exact k c6 H5 ca I5 r5 n5 uu
    | rt v=>cases e6;exact k c6 H5 ca I5 r5 n5 uu
  | false =>
   cases e4;exact k bb H3 bw I3 r3 (n2.mono u3) (u2.trans u3)
end
structure CmpSc(br sc:M_)(N N':List Str)(m:Nat):Prop where
 kind:sc.kind=.function
 cells:∀y∈sc.names,y.2=.cell->sc.names.lookup y.1=some .cell
 locals:∀y∈sc.names,y.2=.local->sc.names.lookup y.1=some .local
 free:∀y∈sc.names,y.2=.free->sc.names.lookup y.1=some .free/\(br.names.lookup y.1=some .cell\/br.names.lookup y.1=some .free)
 nd:N'.Nodup
 len:N'.length=m+N.length
 up:∀p∈(N'.drop m).zip N,((relab sc br).names.lookup p.1=none)\/(p.1=p.2/\(relab sc br).names.lookup p.1≠some .local/\sc.names.lookup p.1≠some .cell)
def cmpS(br sc:M_)(N N':List Str)(m:Nat):Bool:=decide (sc.kind=.function/\(∀y∈sc.names,y.2=.cell->sc.names.lookup y.1=some .cell)/\(∀y∈sc.names,y.2=.local->sc.names.lookup y.1=some .local)/\(∀y∈sc.names,y.2=.free->sc.names.lookup y.1=some .free/\(br.names.lookup y.1=some .cell\/br.names.lookup y.1=some .free))/\N'.Nodup/\N'.length=m+N.length ∧
   (∀p∈(N'.drop m).zip N,((relab sc br).names.lookup p.1=none)\/(p.1=p.2/\(relab sc br).names.lookup p.1≠some .local/\sc.names.lookup p.1≠some .cell)))
def CmpSc.of{br sc:M_}{N:List Str}{m:Nat}(h:cmpS br sc N N' m=true):CmpSc br sc N N' m:=by
 obtain⟨h1,h2,h3,h4,h5,h6,h7⟩:=of_decide_eq_true h;exact⟨h1,h2,h3,h4,h5,h6,h7⟩
def cls(X:Cx)(scope:M_)(C:h_):List (Str×h_):=NN (C+1) scope.names []++clo X.env.cells scope.names []
theorem tW:∀(names:List (Str×MK)) (n:Nat) (ac:List (Str×h_)),NN n names ac=NN n names []++ac
 | [],_,_=>rfl
 | (x,k)::r,n,ac=>by
  unfold NN;split
  ·rw[tW r (n+1) ((x,n)::ac),tW r (n+1) [(x,n)],MF];rfl
  ·exact tW r n ac
theorem xz:∀{names:List (Str×MK)}{n:Nat}{ac:List (Str×h_)}{x:Str}{c:h_},(x,c)∈NN n names ac->(x,MK.cell)∈names\/(x,c)∈ac
 | [],_,_,_,_,h=>.inr h
 | (y,k)::r,n,ac,x,c,h=>by
  unfold NN at h;split at h
  ·rename_i hk
   rcases xz h with z | z
   ·exact .inl (n_ _ z)
   ·rcases x_.mp z with z | z
    ·cases z;cases beq_iff_eq.mp hk;exact .inl p_
    ·exact .inr z
  ·rcases xz h with z | z
   ·exact .inl (n_ _ z)
   ·exact .inr z
theorem xm{α:Type}{x:Str}:∀{l r:List (Str×α)},(l++r).lookup x=match l.lookup x with
  | some a=>some a
  | none=>r.lookup x
 | [],_=>rfl
 | (y,a)::l,r=>by
  rw[Q8,N0,N0];cases x == y
  ·exact xm
  ·rfl
def cxD(X:Cx)(scope:M_)(N':List Str)(C:h_)(s:e_)(H:Hp)(ex:List h_):Cx:=
 { X with N:=N',s₀:=s,H₀:=H,env:=compEnvC scope (cls X scope C) C X.env,outer:=X.stack,stack:=X.stack,ex:=ex,fn:=λx=>scope.names.lookup x == some .cell,pn:=[],xe:=λ_ _=>False }
def CJ{M:Model}{A:Mn}{E:b_->e_->Prop}{s:e_}{clo:List (Str×h_)}{outer:Env}{Q:Env->e_->Prop}(hQ:Q (newEnv scope s.heap.objs.size globals (NN (s.heap.objs.size+1) scope.names []++clo) qual none .none (some outer) Rf) { s with heap:=pushCells (s.heap.push { cls:=.type "dict", data:=.dict #[] }) scope.names }):
  u_ M A (RL scope globals clo [] qual none .none (some outer)) Q E s:=by
 simp only[RL,Sl,if_true];refine a_ (wpAny_alloc ?_);refine a_ (wpAny_layCells _ (λname kind cells=>by cases hkc:kind == MK.cell<;>simp[hkc]) _ _ _ _ ?_);rw[show({ s with heap:=s.heap.push { cls:=.type "dict", data:=.dict #[] } }:e_).heap.objs.size=s.heap.objs.size+1 from Na ..,tW];exact a_ (d_ (d_ hQ))
section
variable{X:Cx}{m:Nat}{g:TG}{tt:TT}{te:TE}{wi:TI}
inductive CEd(X:Cx)(aa:List (h_×Obj))(B:L2.St)(Q:VK)(ac:b_)(C:h_)(s':e_):Prop | mk (p:h_) (H':Hp) (mm:Str->Option b_):ac=.ref p->s'.heap.Ns C mm->Inv X aa B H' s'->Clear X aa H' C->Q (.ref p) H'->CEd X aa B Q ac C s'
abbrev CEnd(X:Cx)(aa:List (h_×Obj))(B:L2.St)(Q:VK)(ac:b_)(C:h_)(r:TB)(s':e_):Prop:=match r with | .ok _=>CEd X aa B Q ac C s' | .error _=>False
def AR{it:h_}{tn:Nat->Mr->Prop}{J:It}{Q:VK}{E:b_->e_->Prop}(S:CmpSc X.env.scope scope X.N N' m)(hc:X.calm=true)(hg:∀C s H ex,PG (cxD X scope N' C s H ex) tg g)(ht:∀C s H ex,PTs (cxD X scope N' C s H ex) aI tt)(he:∀C s H ex,PE (cxD X scope N' C s H ex) aF te)(I2:Inv X aa B H2 s2)(T:Turn X.prog X.w X.K tg J fp it tn)(cM:tn 0 s2.heap)(f2:∀b∈fp,FpOk X aa H2 b)(hw:∀p,H2 p=none->CompW m J g tt te B H2 p Q):
  u_ (t_ X.prog X.w) X.A (Ue []) (λac s3=>u_ (t_ X.prog X.w) X.A (RL scope X.env.globals (clo X.env.cells scope.names []) [] X.env.qual none .none (some X.env)) (λcA s4 =>
   OB (t_ X.prog X.w) X.A (.compStart (.ListComp aF [⟨tg,iter,aI,0⟩] scope pos) 0 (.ref it) ac { cA with scope:=relabel scope X.env })
    (CEnd X aa B Q ac cA.locals) s4) E s3) E s2:=by
 refine K_ (CJ ?_)
 -- the new list
 have hp:H2 s2.heap.objs.size=none:=I2.hok.fresh (s_ _);obtain⟨W,⟨n0,w0⟩,turn⟩:=hw _ hp;obtain⟨p,hP⟩:∃p,p=s2.heap.objs.size:=⟨_,rfl⟩;obtain⟨s3,iF⟩:∃s3:e_,s3={ s2 with heap:=s2.heap.push { cls:=.type "list", dict:=none,data:=.seq ([]:List b_).toArray } }:=⟨_,rfl⟩;obtain⟨C,hC⟩:∃C,C=s3.heap.objs.size:=⟨_,rfl⟩;obtain⟨H3,iG⟩:∃H3,H3=upd H2 p (.lst []):=⟨_,rfl⟩;have h3:s3.heap=s2.heap.push { cls:=.type "list", dict:=none,data:=.seq ([]:List b_).toArray }:=by rw[iF]
 obtain⟨h1,bI⟩:∃h1,h1=pushCells (s3.heap.push { cls:=.type "dict", data:=.dict #[] }) scope.names:=⟨_,rfl⟩;have bu:h1.Ns C (λ_=>none):=by rw[bI,hC];exact(Mr.Ns.new s3.heap (.type "dict")).keeps (pushCells_keeps _ _)
 have dJ:CellsOk h1 (C+1) (NN (C+1) scope.names []):=by
  have ok:=cellsFrom_ok scope.names (s3.heap.push { cls:=.type "dict", data:=.dict #[] }) (C+1) [] ⟨λ_ _ hm=>(nomatch hm),Sc.nil⟩ (by rw[Na,hC];exact s_ _);rw[Na,←hC] at ok;rw[bI];exact ok
 have lB:W 0 n0 (Mm m none++B) H3:=by rw[iG,hP];exact w0
 have iI:∀i n ak H',W i n ak H'->(J.stop i H'/\Q (.ref p) H')\/(J.go i H'/\∀x H2,J.yld i H' x H2->g x ak H2 λbb H3=>tt bb H3 λb H4 =>
   if b=true then te bb H4 λy H5=>∃ac,H5 p=some (.lst ac)/\ac.length < B_/\∃n',n' < n/\W (i+1) n' bb (upd H5 p (.lst (ac++[y])))
   else ∃n',n' < n/\W (i+1) n' bb H4):=by rw[hP];exact turn
 have I3:Inv X aa B H3 s3:=by
  rw[iG,iF,hP];exact I2.laid (t':=s2.toks) (λb u e=>f_ _ e) (s_ _) ⟨Mu _,[],0,.nil,r_ _ rfl⟩
 have de:tn 0 s3.heap:=T.keep _ _ _ cM λb _ o e=>by rw[h3];exact f_ _ e
 have f3:∀b∈fp,FpOk X aa H3 b:=λb hb=>by
  obtain⟨a0,a1⟩:=f2 b hb;refine⟨?_,a1⟩;obtain⟨o,e,_⟩:=T.obj _ _ cM b hb
  have ne:b≠p:=λz=>by
   have:=Mq e;rw[←hP,z] at this;exact NT _ this
  rw[iG,oI ne];exact a0
 -- the block's context
 have outer:∀x c,(clo X.env.cells scope.names []).lookup x=some c->X.env.cells.lookup x=some c/\(x,MK.free)∈scope.names:=λx c e=>by
  rcases wK (mem_of_lookup e) with z | ⟨z1,z2⟩
  ·cases z
  ·obtain⟨c',aZ⟩:=I2.ok.has x (S.free _ z1 rfl).2;rw[aZ] at z2;exact⟨by rw[z2];exact aZ,z1⟩
 have split:∀x c,(cls X scope C).lookup x=some c->((x,c)∈NN (C+1) scope.names []/\scope.names.lookup x=some .cell)\/((clo X.env.cells scope.names []).lookup x=some c/\X.env.cells.lookup x=some c/\(x,MK.free)∈scope.names):=λx c e=>by
  unfold cls at e;rw[xm] at e;cases q:(NN (C+1) scope.names []).lookup x with
  | some c' =>
   rw[q] at e;cases e;have hm:=mem_of_lookup q
   rcases xz hm with z | z
   ·exact .inl ⟨hm,S.cells _ z rfl⟩
   ·cases z
  | none=>rw[q] at e;exact .inr ⟨e,outer x c e⟩
 have jB:∀x c,X.env.cells.lookup x=some c->c < C:=λx c e=>by
  obtain⟨v,q⟩:=I3.cell x c e;rw[hC];exact q.lt
 have dU:Clear X aa H3 C:=by
  refine⟨?_,?_,?_,λx c e z=>?_,λq hq z=>?_⟩
  ·exact I3.hok.fresh (TC hC.symm)
  ·have:=I3.lt;rw[←hC] at this;exact O8 this
  ·have:=I3.sz;rw[←hC] at this;exact this
  ·obtain⟨v,q⟩:=I3.cell x c e;have:=q.lt;rw[←hC,z] at this;exact NT _ this
  ·have:=Mq (I3.pin q hq).1;rw[←hC,z] at this;exact NT _ this
 have old:∀b o,s3.heap.get? b=some o->h1.get? b=some o:=λb o e=>by
  rw[bI];exact pushCells_keeps _ _ b o (f_ _ e)
 have ok:(cxD X scope N' C s3 H3 fp).Ok:=by
  refine⟨I3.ok.mod,S.kind,I3.ok.glob,I3.ok.blt,TC hC.symm,λx y c e1 e2=>?_,λx hx=>?_,λx c z e=>?_,λz=>I3.ok.hd z,I3.ok.frames,.inl rfl,λb hb=>⟨λz=>?_,λx c e=>?_⟩,I3.bs,A_ I3.ok.bsz I3.sz,λb o e hb=>?_,λb hb z=>?_,I3.stack,λb hb=>I3.stkFree b hb⟩
  ·rcases split x c e1 with⟨a1,a2⟩ | ⟨a1,a2,a3⟩<;>rcases split y c e2 with⟨b1,b2⟩ | ⟨b1,b2,b3⟩
   ·exact name_of_addr dJ.apart a1 b1
   ·exact absurd (dJ.empty _ _ a1).2 (Ud.mpr (Nz (jB y c b2)))
   ·exact absurd (dJ.empty _ _ b1).2 (Ud.mpr (Nz (jB x c a2)))
   ·exact I3.ok.inj x y c a2 b2
  ·-- has
   have eV:(relab scope X.env.scope).names.lookup x=some .cell\/(relab scope X.env.scope).names.lookup x=some .free:=hx
   have mem:∃k,(x,k)∈(relab scope X.env.scope).names/\(k=MK.cell\/k=MK.free):=by
    rcases eV with z | z
    ·exact⟨_,mem_of_lookup z,.inl rfl⟩
    ·exact⟨_,mem_of_lookup z,.inr rfl⟩
   obtain⟨k,hm,hk⟩:=mem;obtain⟨⟨n1,k1⟩,iJ,e1⟩:=F_.mp hm;show ∃c,(cls X scope C).lookup x=some c;unfold cls;rw[xm]
   rcases q:(NN (C+1) scope.names []).lookup x with _ | c'
   case some=>exact⟨c',rfl⟩
   refine ww (.inl ?_);dsimp only at e1;by_cases hcond:(k1 == MK.free&&X.env.scope.kind == ScopeKind.function&&X.env.scope.names.lookup n1 == some MK.cell)=true
   ·rw[if_pos hcond] at e1;cases e1
    have:k1=.free:=by
     simp only[k_,beq_iff_eq] at hcond;exact hcond.1.1
    rw[←this];exact iJ
   ·rw[if_neg hcond] at e1;cases e1
    rcases hk with rfl | rfl
    ·obtain⟨c',aZ⟩:=wH (n:=C+1) (S.cells _ iJ rfl);rw[q] at aZ;cases aZ
    ·exact iJ
  ·rcases split x c e with⟨a1,a2⟩ | ⟨a1,a2,a3⟩
   ·show s3.heap.objs.size<=c;rw[←hC];exact O7 (dJ.empty _ _ a1).2
   ·have z:=beq_iff_eq.mp z;rw[(S.free _ a3 rfl).1] at z;cases z
  ·obtain⟨o,e,_⟩:=T.obj _ _ de b hb;have:=Mq e;rw[←hC] at this;have z':b=C:=z;rw[z'] at this;exact NT _ this
  ·rcases split x c e with⟨a1,a2⟩ | ⟨a1,a2,a3⟩
   ·obtain⟨o,e',_⟩:=T.obj _ _ de b hb;have h1:=Mq e';rw[←hC] at h1;have h2:=(dJ.empty _ _ a1).2;exact λz=>by rw[z] at h2;exact absurd h2 (Ud.mpr (Nz h1))
   ·exact(f3 b hb).2.2.2.2.1 x c a2
  ·obtain⟨a0,a1,a2,a3,_⟩:=f3 b hb
   rcases a3 with z | z
   ·exact I3.ok.noex b o e z
   ·exact absurd (J_ (Mq e) (A_ I3.ok.bsz z)) (NT _)
  ·have z':=I3.stkSub b z;obtain⟨a0,a1,a2,_⟩:=f3 b hb
   rcases x_.mp z' with e | e
   ·exact a1 e
   ·exact a2 e
 -- the block's first state
 have I4:Inv (cxD X scope N' C s3 H3 fp) [] (Mm m none++B) H3 { s3 with heap:=h1 }:=by
  obtain⟨mo,nP,jd⟩:=I3.loc;refine⟨ok,rfl,I3.bare,Un.kept old,⟨_,bu,λi x v e1 e2 e3=>?_⟩,λx c e=>?_,dU.1,λx c e=>?_,λq hq=>absurd (show q∈([]:List (h_×Obj)) from hq) (by simp),I3.hok.kept old,?_⟩
  ·have hi:m<=i:=by
    by_cases z:m<=i
    ·exact z
    ·rw[M9 (by rw[Mw];omega),N7] at e2;split at e2<;>cases e2
   rw[MT (by rw[Mw];exact hi),Mw] at e2;have cQ:N'[i]?=some x:=e1
   have ff:i - m < X.N.length:=by
    have:=(j_.mp cQ).1;rw[S.len] at this;omega
   have e4:(N'.drop m)[i - m]?=some x:=by rw[QV];rw[show m+(i - m)=i from by omega];exact cQ
   have e5:X.N[i - m]?=some X.N[i - m]:=i_ ff;have e6:((N'.drop m).zip X.N)[i - m]?=some (x,X.N[i - m]):=by rw[NS];exact⟨e4,e5⟩
   have f6:Vis (relab scope X.env.scope) x:=e3
   rcases S.up _ (NC e6) with z | ⟨z1,z2⟩
   ·have z':(relab scope X.env.scope).names.lookup x=none:=z
    rcases f6 with y | y | y<;>rw[z'] at y<;>cases y
   ·have lC:x=X.N[i - m]:=z1;have lE:(relab scope X.env.scope).names.lookup x≠some .local:=z2.1;have lF:scope.names.lookup x≠some .cell:=z2.2
    have jC:(relab scope X.env.scope).names.lookup x=some .cell\/(relab scope X.env.scope).names.lookup x=some .free:=by
     rcases f6 with y | y | y
     ·exact absurd y lE
     ·exact .inl y
     ·exact .inr y
    obtain⟨c,ba⟩:=ok.has x jC
    obtain⟨_,lG,mem⟩:(clo X.env.cells scope.names []).lookup x=some c/\X.env.cells.lookup x=some c/\(x,MK.free)∈scope.names:=by
     rcases split x c ba with⟨_,y⟩ | y
     ·exact absurd y lF
     ·exact y
    -- the name in the def's own frame
    have jD:Vis X.env.scope x:=by
     rcases(S.free _ mem rfl).2 with y | y
     ·exact .inr (.inl y)
     ·exact .inr (.inr y)
    obtain⟨u,ru,l⟩:=jd (i - m) x v (by rw[e5,←lC]) e2 jD;refine⟨u,ru,.inr ⟨jC,c,ba,?_⟩⟩
    rcases l with⟨k,_⟩ | ⟨_,c',e',z'⟩
    ·have k':X.env.scope.names.lookup x=some .local:=k
     rcases(S.free _ mem rfl).2 with y | y<;>(have y':X.env.scope.names.lookup x=_:=y;rw[k'] at y';cases y')
    ·rw[lG] at e';cases e';exact z'.keeps old
  ·rcases split x c e with⟨a1,a2⟩ | ⟨a1,a2,a3⟩
   ·exact⟨none,(dJ.empty _ _ a1).1⟩
   ·obtain⟨v,q⟩:=I3.cell x c a2;exact⟨v,q.keeps old⟩
  ·rcases split x c e with⟨a1,a2⟩ | ⟨a1,a2,a3⟩
   ·exact I3.hok.fresh (by rw[←hC];exact O7 (dJ.empty _ _ a1).2)
   ·exact I3.freeC x c a2
  ·show(Mm m none++B).length=N'.length;rw[g_,Mw,S.len,I3.len]
 have bP:∀{H':Hp},(∀b∈fp,H' b=none)->∀b∈fp,FpOk (cxD X scope N' C s3 H3 fp) [] H' b:=λ{H'} hn b hb=>by
  refine⟨hn b hb,(ok.exf b hb).1,ok.exfs b hb,.inl hb,(ok.exf b hb).2,λq hq=>absurd (show q∈([]:List (h_×Obj)) from hq) (by simp)⟩
 -- what stands behind the block
 have jE:∀{ak:L2.St}{H':Hp}{s':e_},Inv (cxD X scope N' C s3 H3 fp) [] ak H' s'->Inv X aa B H' s'/\Clear X aa H' C:=λ{ak H' s'} J'=>by
  refine⟨I3.call' J'.os J'.base J'.hok J'.bare λb hb=>?_,J'.free,dU.2⟩;obtain⟨a0,a1,a2,a3,a4,a5⟩:=f3 b hb;exact⟨a3,a1,a4,a5⟩
 have loop:∀s4:e_,s4={ s3 with heap:=h1 } →
   OB (t_ X.prog X.w) X.A (.compLoop (.ListComp aF [⟨tg,iter,aI,0⟩] scope pos) 0 (.ref it) (.ref p) (compEnvC scope (cls X scope C) C X.env))
    (CEnd X aa B Q (.ref p) C) s4:=by
  rintro s4 rfl;refine Jj (λn s'=>∃i ak H',Inv (cxD X scope N' C s3 H3 fp) [] ak H' s'/\tn i s'.heap/\(∀b∈fp,H' b=none)/\W i n ak H') ?_ n0 ⟨0,_,_,I4,T.keep _ _ _ de λb _ o e=>old b o e,λb hb=>(f3 b hb).1,lB⟩;rintro n s5 ⟨i,c6,H5,I5,dZ,fI,w5⟩
  rcases iI i n c6 H5 w5 with⟨stop,qn⟩ | ⟨go,step⟩
  ·refine M6 (T.done (cxD X scope N' C s3 H3 fp) rfl rfl rfl hc i [] s5 c6 H5 (λ_ _=>False) I5 (bP fI) dZ stop) (λr s6 ⟨hr,I6⟩=>?_) λ_ _ z=>z
   subst hr;obtain⟨mm,lH,_⟩:=I6.loc;obtain⟨b1,b2⟩:=jE I6;exact⟨p,H5,mm,rfl,lH,b1,b2,qn⟩
  ·refine M6 (T.item (cxD X scope N' C s3 H3 fp) rfl rfl rfl hc i [] s5 c6 H5 (λ_ _=>False) I5 (bP fI) dZ go) (λr s6 ⟨u,hr,h6⟩=>?_) λ_ _ z=>z
   subst hr;refine M6 h6 (λ_ s7 ⟨x,H7,I7,r7,y7,iK,lI⟩=>?_) λ_ _ z=>z
   have lJ:=I7.pinned (bP lI) (T.obj _ _ iK);refine M6 (hg C s3 H3 fp _ s7 c6 H7 x u _ lJ r7 (step x H7 y7)) (λ_ s8 ⟨ft,H8,I8,q8⟩=>?_) λ_ _ z=>z
   refine M6 (ht C s3 H3 fp _ s8 ft H8 _ I8 q8) (λok s9 ⟨H9,I9,q9⟩=>?_) λ_ _ z=>z
   have Tf:∀{jF:L2.St}{Ha:Hp}{sa:e_},Inv (cxD X scope N' C s3 H3 fp) ([]++pinsAt fp s7.heap) jF Ha sa->tn (i+1) sa.heap/\(∀b∈fp,Ha b=none):=λ{jF Ha sa} Ia=>by
    refine⟨T.keep _ _ _ iK λb hb o e=>(Ia.pin (b,o) (Mv _ (Mv _ (sY hb e)))).1,λb hb=>?_⟩;obtain⟨o,e,d⟩:=T.obj _ _ iK b hb;exact(Ia.pin (b,o) (Mv _ (Mv _ (sY hb e)))).2.1
   cases ok with
   | false =>
    obtain⟨n',db,w9⟩:=q9;obtain⟨a1,a2⟩:=Tf I9;exact⟨n',db,i+1,ft,H9,I9.unpinned,a1,a2,w9⟩
   | true =>
    refine M6 (he C s3 H3 fp _ s9 ft H9 _ I9 q9) (λxv lK ⟨y,jG,lL,lM,ac,bh,hl,n',db,lN⟩=>?_) λ_ _ z=>z
    refine M6 (AO (X:=cxD X scope N' C s3 H3 fp) _ lK ft jG (.ref p) [y] (.ref p) [xv] (λ_ H'=>H'=upd jG p (.lst (ac++[y]))) lL rfl (.cons lM .nil) ⟨p,ac,y,rfl,rfl,bh,hl,rfl⟩) (λ_ nQ ⟨nR,nS,I11,_,lO⟩=>?_) λ_ _ z=>z
    subst lO;obtain⟨a1,a2⟩:=Tf I11;exact⟨n',db,i+1,ft,_,I11.unpinned,a1,a2,lN⟩
 subst bI;subst hC;subst iF;subst hP;refine codeAny_compStart_list ?_ (T.self X.A 0 _ _ _ (T.keep _ _ _ de λb _ o e=>old b o e) ?_)
 ·exact loop _ rfl
 ·exact loop _ rfl
def Mg(S:CmpSc X.env.scope scope X.N N' m)(hc:X.calm=true)(hi:PI X tg iter wi)(hg:∀C s H ex,PG (cxD X scope N' C s H ex) tg g)(ht:∀C s H ex,PTs (cxD X scope N' C s H ex) aI tt)(he:∀C s H ex,PE (cxD X scope N' C s H ex) aF te)(hs:∀x,NJ iter X.env x=pure x:=by intro _;rfl):PE X (.ListComp aF [⟨tg,iter,aI,0⟩] scope pos) (tComp m wi g tt te):=by
 intro aa s B H Q I h;refine QW (use:=none) rfl hs (yU λn hn=>I.ok.has n (S.free _ hn rfl).2) S.kind S.locals (thn (hi aa s B H _ I h) λxv s1 h1=>thn h1 λfH s2 h2=>?_);obtain⟨it,fp,tn,J,H2,e,I2,T,cM,f2,hw⟩:=h2;subst e;refine thn (AR (pos:=pos) (iter:=iter) S hc hg ht he I2 T cM f2 hw) λac s3 h3=>thn h3 λcA s4 h4=>Oe h4 λr s5 h5=>?_
 cases r with
 | error x=>exact h5.elim
 | ok fl =>
  obtain⟨p,H5,mm,rfl,hn,I5,cl,q⟩:=h5;exact⟨mm,hn,λh' ei=>⟨.ref p,H5,Inv.clear I5 cl ei,rfl,q⟩⟩
def Ff{i:Nat}{y:Str}(S:CmpSc X.env.scope scope X.N N' m)(hc:X.calm=true)(hN:X.N.Nodup)(aL:X.N[i]?=some y)(hy:X.env.scope.names.lookup y=some .local)(hi:PI X tg iter wi)(hg:∀C s H ex,PG (cxD X scope N' C s H ex) tg g)(ht:∀C s H ex,PTs (cxD X scope N' C s H ex) aI tt)(he:∀C s H ex,PE (cxD X scope N' C s H ex) aF te)(iL:N6 (.ListComp aF [⟨tg,iter,aI,0⟩] scope pos) (some (.Name y py)) c7.line X.env=pure true)(hs:∀x,NJ iter X.env x=pure x:=by intro _;rfl):PS X (.Assign [.Name y py] (.ListComp aF [⟨tg,iter,aI,0⟩] scope pos) c7) (tAsg (tComp m wi g tt te) (gName i)):=by
 intro aa s B H D I h;rw[exec_Assign_Name_used _ _ _ _ iL];refine a_ (R9 (a_ ?_))
 refine a_ (thn (QW (use:=some (Rg (.Name y py) X.env)) (Q:=λ_ s'=>SP X aa D .next s') rfl hs (yU λn hn=>I.ok.has n (S.free _ hn rfl).2) S.kind S.locals
  (thn (hi aa s B H _ I h) λxv s1 h1=>thn h1 λfH s2 h2=>?_)) λ_ s' hq=>d_ (d_ hq))
 obtain⟨it,fp,tn,J,H2,e,I2,T,cM,f2,hw⟩:=h2;subst e;refine thn (AR (pos:=pos) (iter:=iter) S hc hg ht he I2 T cM f2 hw) λac s3 h3=>thn h3 λcA s4 h4=>Oe h4 λr s5 h5=>?_
 cases r with
 | error x=>exact h5.elim
 | ok fl =>
  obtain⟨p,H5,mm,rfl,hn,I5,cl,q⟩:=h5;refine Sw (y4 (v:=.ref p) I5 hN aL (.inl hy) rfl (λs6 I6 ⟨a,lP,ha⟩=>?_) (.inr hy))
  have dY:cA.locals≠a:=by
   rcases ha with rfl | ha
   ·exact cl.2.1
   ·exact λz=>cl.2.2.2.1 y a ha z.symm
  refine⟨mm,hn.sameBut lP dY,λh' ei=>?_⟩;have lQ:Clear X aa H5 cA.locals:=cl;exact⟨_,H5,Inv.clear I6 lQ ei,q⟩
end
def compL(src:Src)(f:GM)(ts:MM Bool)(el:MM E)(p:Nat):Nat->Nat->Nms->Sto->Option Sto
 | 0,_,_,_=>none
 | n+1,i,ν,S=>match src S with
  | some es=>match es[i]? with
   | some e=>match f e ν with
    | some aw=>match ts aw S with
     | some (true,S1)=>match el aw S1 with
      | some (x,S2)=>match S2[p]? with
       | some (.lst ac)=>if ac.length<=lim then compL src f ts el p n (i+1) aw (S2.set p (.lst (ac++[x]))) else none
       | _=>none
      | none=>none
     | some (false,S1)=>compL src f ts el p n (i+1) aw S1
     | none=>none
    | none=>none
   | none=>some S
  | none=>none
def comp(m:Nat)(it:MM Itn)(f:GM)(ts:MM Bool)(el:MM E):MM E:=bd it λi ν S=>match compL i.src f ts el S.length 1000000 0 (Mm m none++ν) (S++[.lst []]) with
 | some S'=>match unl i.lk S' with
  | some S2=>some (.ref S.length,S2)
  | none=>none
 | none=>none
def Nk.up{K:FAa}(n:Nk K φ I ν B)(m:Nat):Nk K φ I (Mm m none++ν) (Mm m none++B):=
 ⟨by rw[g_,g_,Mw,Mw,n.len],λi e q=>by
  obtain⟨hi,q⟩:=FQ q;obtain⟨v,h1,h2⟩:=n.slot _ e q
  exact⟨v,by rw[Dx hi];exact h1,h2⟩⟩
def xL{X:Cx}{CA:Kl}{m:Nat}{it:MM Itn}{f:GM}{ts:MM Bool}:∀B H Q,tE X.K CA (comp m it f ts el) B H Q->tComp m (xd X CA it) (tG X.K CA f) (pE X.K CA ts) (tE X.K CA el) B H (λv H'=>Th X H' (Q v)):=λB H Q q=>by
 tm_at"b";obtain⟨⟨src,lk⟩,S1,e2,e3⟩:=oG e1;refine⟨φ,I,ν,S,_,S1,r,n,e2,λJ H1 af I1 r1 u1 hl y p hp=>?_⟩;cases e4:compL src f ts el S1.length 1000000 0 (Mm m none++ν) (S1++[.lst []]) with
 | none=>rw[e4] at e3;cases e3
 | some Se =>
  rw[e4] at e3;dsimp only at e3;cases hf:unl lk Se with
  | none=>rw[hf] at e3;cases e3
  | some S9 =>
  rw[hf] at e3;cases e3;obtain⟨r0,u0⟩:=r1.newL hp IsL.nil;have jH:(af++[p])[S1.length]?=some p:=by rw[←r1.len];simp
  refine⟨λi c ak H'=>∃ao I2 aq S2,Re X.K CA ao I2 H' S2/\Nk X.K ao I2 aq ak/\Up (af++[p]) I1 ao I2/\compL src f ts el S1.length c i aq S2=some Se,⟨1000000,_,_,_,_,r0,(n.mono (u1.trans u0)).up m,Up.refl _ _,e4⟩,?_⟩;rintro i c ak H' ⟨ao,I2,aq,S2,r2,n2,u2,e5⟩;cases c with
  | zero=>cases e5
  | succ c =>
   rw[compL] at e5;cases q:src S2 with
   | none=>rw[q] at e5;cases e5
   | some es =>
    rw[q] at e5;dsimp only at e5;obtain⟨yg,ys⟩:=y i ao I2 H' S2 es (u0.trans u2) r2 q;cases qe:es[i]? with
    | none =>
     rw[qe] at e5;cases e5;obtain⟨I3,H3,r3,u3,g1,_,g3⟩:=yL hl hf r2 u1 (u0.trans u2);exact .inl ⟨ys (Qx.mp qe),g3 _ (k _ _ _ _ r3 u3 (.mkRf (u2.get jH)))⟩
    | some x =>
     rw[qe] at e5;dsimp only at e5;cases qf:f x aq with
     | none=>rw[qf] at e5;cases e5
     | some bB =>
      rw[qf] at e5;dsimp only at e5;refine .inr ⟨(yg x qe).1,λv H3 hy=>?_⟩;obtain⟨I3,r3,u3,h3⟩:=y.item (u0.trans u2) r2 q qe hy;refine⟨ao,I3,aq,S2,x,bB,r3,n2.mono u3,h3,qf,λlA n4=>?_⟩;cases qt:ts bB S2 with
      | none=>rw[qt] at e5;cases e5
      | some z =>
       obtain⟨b,S4⟩:=z;rw[qt] at e5;refine⟨ao,I3,bB,S2,b,S4,r3,n4,qt,λH4 cu I4 r4 u4=>?_⟩;cases b with
       | false=>exact iteF ⟨c,Nb _,cu,I4,bB,S4,r4,n4.mono u4,u2.trans (u3.trans u4),e5⟩
       | true =>
        dsimp only at e5;cases qx:el bB S4 with
        | none=>rw[qx] at e5;cases e5
        | some z2 =>
         obtain⟨w,S5⟩:=z2;rw[qx] at e5;dsimp only at e5;refine iteT ⟨cu,I4,bB,S4,w,S5,r4,n4.mono u4,qx,λyv H5 ca I5 r5 u5 h5=>?_⟩;have uu:=u2.trans (u3.trans (u4.trans u5));have jI:=uu.get jH;obtain⟨o,ho,_,ok⟩:=r5.addr jI;rw[ho] at e5;cases o with
         | lst ac =>
          dsimp only at e5;by_cases hl:ac.length<=lim
          ·rw[if_pos hl] at e5;obtain⟨xs,hx,ix⟩:=ok;refine⟨xs,hx,by rw[←ix.length];have h1:lim < B_:=by { rw[MS];decide };omega,c,Nb _,ca,I5,bB,_,r5.put (o:=.lst _) jI ho rfl ⟨_,oK,ix.append (IsL.cons h5 IsL.nil)⟩,n4.mono (u4.trans u5),uu,e5⟩
          ·rw[if_neg hl] at e5;cases e5
         | dct _ _ _=>cases e5
         | ins _ _=>cases e5
section
variable{X:Cx}{CA:Kl}{m:Nat}{it:MM Itn}{f:GM}{ts:MM Bool}
def ETs(X:Cx)(CA:Kl)(aI:List y_)(g:MM Bool):Prop:=PTs X aI (pE X.K CA g)
def D1:ETs X CA [] (pur true):=λaa s B H Q I h=>KF aa s B H Q I (by
 obtain⟨φ,I,ν,S,b,S',r,n,e1,k⟩:=h;cases e1
 exact k _ _ _ r (Up.refl _ _))
def IU{c:y_}{g:MM Bool}(h:ET X CA c g):ETs X CA [c] g:=Kg h
def zA(S:CmpSc X.env.scope scope X.N N' m)(hc:X.calm=true)(hi:EI X CA tg iter it)(hg:∀C s H ex,EG (cxD X scope N' C s H ex) CA tg f)(ht:∀C s H ex,ETs (cxD X scope N' C s H ex) CA aI ts)(he:∀C s H ex,EE (cxD X scope N' C s H ex) CA aF el)(hs:∀x,NJ iter X.env x=pure x):EE X CA (.ListComp aF [⟨tg,iter,aI,0⟩] scope pos) (comp m it f ts el):=PE.imp (PE.thaw (Mg (g:=tG X.K CA f) (tt:=pE X.K CA ts) (te:=tE X.K CA el) S hc hi hg ht he hs)) xL
def E4{i:Nat}{y:Str}(S:CmpSc X.env.scope scope X.N N' m)(hc:X.calm=true)(hN:X.N.Nodup)(hi:EI X CA tg iter it)(hg:∀C s H ex,EG (cxD X scope N' C s H ex) CA tg f)(ht:∀C s H ex,ETs (cxD X scope N' C s H ex) CA aI ts)(he:∀C s H ex,EE (cxD X scope N' C s H ex) CA aF el)(aL:X.N[i]?=some y)(hy:X.env.scope.names.lookup y=some .local)(iL:N6 (.ListComp aF [⟨tg,iter,aI,0⟩] scope pos) (some (.Name y py)) c7.line X.env=pure true)(hs:∀x,NJ iter X.env x=pure x):ES X CA (.Assign [.Name y py] (.ListComp aF [⟨tg,iter,aI,0⟩] scope pos) c7) (asg (comp m it f ts el) (tgn i)):=
 PS.imp (PS.thaw (Ff (g:=tG X.K CA f) (tt:=pE X.K CA ts) (te:=tE X.K CA el) S hc hN aL hy hi hg ht he iL hs)) λD B H q=>by
  obtain⟨φ,I,ν,S,fl,ag,S',r,n,e1,k⟩:=q;obtain⟨d,S1,e2,e3⟩:=pJ e1;cases e4:tgn i d ν with
  | none=>rw[e4] at e3;cases e3
  | some aw =>
   rw[e4] at e3;cases e3;obtain⟨hl,e5⟩:=o3 (show(if i < ν.length then some (ν.set i (some d)) else none)=some ag from e4);cases e5;exact xL B H (λv H'=>D.nx (B.set i (some v)) H') ⟨φ,I,ν,S,d,_,r,n,e2,λv H1 af I1 r1 u1 h1=>k _ H1 af I1 r1 ((n.mono u1).set hl h1) u1⟩
end
def fldE(f:Str)(e:E)(S:Sto):Option (E×Sto):=match e with
 | .ref n=>match S[n]? with
  | some (.ins _ fs)=>match fs.lookup f with
   | some x=>some (x,S)
   | none=>none
  | _=>none
 | _=>none
structure ClsOk(K:FAa)(CA:Kl):Prop where
 cls:∀c∈CA.cl,Cls K (CA.at' c)
 no:∀c∈CA.cl,∀f∈CA.fl,NoAttr K (CA.at' c) f
def KU{f:Str}{e x:E}(h:fldE f e S=some (x,S')):S'=S/\∃n c fs,e=.ref n/\S[n]?=some (.ins c fs)/\fs.lookup f=some x:=by
 unfold fldE at h;split at h
 ·split at h
  ·split at h
   ·cases h;exact⟨rfl,_,_,_,rfl,by assumption,by assumption⟩
   ·cases h
  ·cases h
 ·cases h
theorem IsL.lookup{K:FAa}{φ:List h_}{I:Hp}{f:Str}{x:E}:∀{fs:List (Str×E)}{xs:List (Str×V)},fs.map (·.1)=xs.map (·.1)->IsL K φ I (fs.map (·.2)) (xs.map (·.2))->fs.lookup f=some x->∃v,xs.lookup f=some v/\IsE K φ I x v
 | [],_,_,_,h=>by cases h
 | (g,y)::fs,[],e,_,_=>by simp at e
 | (g,y)::fs,(g',z)::xs,e,i,h=>by
  simp only[I_,PX] at e;obtain⟨e1,e2⟩:=e;subst e1;obtain⟨w,r,e3,i1,i2⟩:=i.cons_inv;cases e3;rw[N0] at h ⊢;cases q:f == g with
  | true=>rw[q] at h;cases h;exact⟨_,rfl,i1⟩
  | false=>rw[q] at h;exact IsL.lookup e2 i2 h
noncomputable def putS(f:Str)(v:E):List (Str×E)->List (Str×E)
 | []=>[(f,v)]
 | (g,x)::r=>if g=f then(g,v)::r else(g,x)::putS f v r
theorem IsL.putS{K:FAa}{φ:List h_}{I:Hp}{f:Str}{x:E}{v:V}(hx:IsE K φ I x v):∀{fs:List (Str×E)}{xs:List (Str×V)},fs.map (·.1)=xs.map (·.1)->IsL K φ I (fs.map (·.2)) (xs.map (·.2)) →
  (EV.putS f x fs).map (·.1)=(putF f v xs).map (·.1)/\IsL K φ I ((EV.putS f x fs).map (·.2)) ((putF f v xs).map (·.2))
 | [],[],_,_=>⟨rfl,IsL.cons hx IsL.nil⟩
 | [],_::_,e,_=>by simp at e
 | (g,y)::fs,[],e,_=>by simp at e
 | (g,y)::fs,(g',z)::xs,e,i=>by
  simp only[I_,PX] at e;obtain⟨e1,e2⟩:=e;subst e1;obtain⟨w,r,e3,i1,i2⟩:=i.cons_inv;cases e3;unfold EV.putS putF;by_cases q:g=f
  ·rw[if_pos q,if_pos q];exact⟨by simp[e2],IsL.cons hx i2⟩
  ·rw[if_neg q,if_neg q];obtain⟨h1,h2⟩:=IsL.putS (f:=f) hx e2 i2;exact⟨by simp[h1],IsL.cons i1 h2⟩
theorem z9{f:Str}{v:E}:∀{fs:List (Str×E)} (g:Str),g∈(putS f v fs).map (·.1)->g=f\/g∈fs.map (·.1)
 | [],g,h=>.inl (by simpa[putS] using h)
 | (k,x)::r,g,h=>by
  unfold putS at h;by_cases q:k=f
  ·rw[if_pos q] at h;exact .inr h
  ·rw[if_neg q] at h
   rcases x_.mp h with z | z
   ·exact .inr (by rw[z];exact p_)
   ·exact(z9 g z).imp id (n_ _)
theorem Re.ins{K:FAa}{CA:Kl}{H:Hp}{c:Str}{fs:List (Str×E)}{v:V}(r:Re K CA φ I H S)(h:S[n]?=some (.ins c fs))(i:IsE K φ I (.ref n) v):
  ∃a dx xs,φ[n]?=some a/\v=.ref a/\c∈CA.cl/\(∀f∈fs.map (·.1),f∈CA.fl)/\H a=some (.ins (CA.at' c) dx xs)/\H dx=some (.own a)/\fs.map (·.1)=xs.map (·.1)/\IsL K φ I (fs.map (·.2)) (xs.map (·.2)):=by
 obtain⟨a,ha,rfl⟩:=i.rf;obtain⟨a',aW,_,hc,hf,dx,xs,h1,h2,h3,h4⟩:=r.cell n _ h;rw[ha] at aW;cases aW;exact⟨a,dx,xs,ha,rfl,hc,hf,h1,h2,h3,h4⟩
section
variable{X:Cx}{CA:Kl}{e o:y_}{f:Str}{me mo:MM E}
def fld(f:Str)(m:MM E):MM E:=bd m λe=>lif (fldE f e)
def Hi(C:ClsOk X.K CA)(hf:f∈CA.fl)(he:EE X CA e me)(hb:Nh e f X.env (MW e X.env)=MW e X.env):EE X CA (.Attribute e f pos) (fld f me):=PE.imp (E3 he hb) λB H Q q=>by
 obtain⟨φ,I,ν,S,x,S',r,n,e1,k⟩:=q;obtain⟨y,S1,e2,e3⟩:=oG e1;obtain⟨rfl,nn,c,fs,rfl,hn,hl⟩:=KU e3;refine⟨φ,I,ν,S,_,_,r,n,e2,λv H1 af I1 r1 u1 h1=>?_⟩;obtain⟨a,dx,xs,ha,rfl,hc,_,h2,_,h4,h5⟩:=r1.ins hn h1;obtain⟨w,hw,iw⟩:=IsL.lookup h4 h5 hl;exact⟨a,_,dx,xs,w,rfl,h2,C.cls c hc,C.no c hc f hf,hw,k _ _ _ _ r1 u1 iw⟩
def fldP(f:Str)(mv mo:MM E):SM:=ve mv λv=>ve mo λo ν S=>match o with
 | .ref n=>match S[n]? with
  | some (.ins c fs)=>if fs.length < 1000 then some (.nx,ν,S.set n (.ins c (putS f v fs))) else none
  | _=>none
 | _=>none
def KJ(C:ClsOk X.K CA)(hf:f∈CA.fl)(ho:EE X CA o mo)(hv:EE X CA e mv)(hs:N6 e (some (.Attribute o f p')) pos.line X.env=pure false):ES X CA (.Assign [.Attribute o f p'] e pos) (fldP f mv mo):=PS.imp (La ho hv hs) λD B H q=>by
 obtain⟨φ,I,ν,S,lR,ag,S',r,n,e1,k⟩:=q;obtain⟨v,S1,e2,e3⟩:=pJ e1;obtain⟨ob,S2,e4,e5⟩:=pJ e3;refine⟨φ,I,ν,S,v,S1,r,n,e2,λy H1 af I1 r1 u1 h1=>⟨af,I1,ν,S1,ob,S2,r1,n.mono u1,e4,λx H2 ao I2 r2 u2 h2=>?_⟩⟩;cases ob with
 | d _=>cases e5
 | tup _=>cases e5
 | ref m =>
  dsimp only at e5;cases q:S2[m]? with
  | none=>rw[q] at e5;cases e5
  | some oo =>
   rw[q] at e5;cases oo with
   | lst _=>cases e5
   | dct _ _ _=>cases e5
   | ins c fs =>
    obtain⟨hl,e6⟩:=o3 (show(if fs.length < 1000 then some (Fl.nx,ν,S2.set m (.ins c (putS f v fs))) else none)=some (lR,ag,S') from e5);cases e6;obtain⟨a,dx,xs,ha,rfl,hc,lS,h3,h4,h5,h6⟩:=r2.ins q h2;obtain⟨g1,g2⟩:=IsL.putS (f:=f) (h1.mono u2) h5 h6;have lU:xs.length < 1000:=by have:=congrArg length h5;simp at this;omega
    have ne:dx≠a:=λz=>by rw[z,h3] at h4;cases h4
    exact⟨a,_,dx,xs,rfl,h3,C.cls c hc,C.no c hc f hf,lU,k B _ ao I2 (r2.put (o:=.ins c _) ha q rfl ⟨hc,λg hg=>(z9 g hg).elim (λz=>z▸hf) (lS g),dx,_,oK,by rw[oI ne];exact h4,g1,g2⟩) (n.mono (u1.trans u2)) (u1.trans u2)⟩
end
noncomputable def fnE(n ar:Nat)(body:SM):FL:=λes S=>if es.length=ar then match body (es.map some++Mm (n - es.length) none) S with
  | some (.rt e,_,S')=>some (e,S')
  | some (.nx,_,S')=>some (.d .non,S')
  | _=>none
 else none
noncomputable def spE(K:FAa)(CA:Kl)(ar:Nat)(g:FL):Sp:=λvs H Q _=>vs.length=ar/\∃φ I S es e S',Re K CA φ I H S/\IsL K φ I es vs/\g es S=some (e,S')/\KE K CA φ I S' e Q
section
variable {P:E_}{w:Mo}{K:FAa}{mg:Str->Option b_}{base:Mr}{CA:Kl}
theorem BV{x:Str}{st:Nr}{f:h_}{N:List Str}{k:Nat}(F:Fun K x qual st f fd)(S:FnScope N ps (defScope st))(g:SM)(hb:∀(ay:b_) (A:Mn) (outer:List Env) (s:e_) (H:Hp) (E:XK),Room k (A.deeper (Rj qual (defScope st) s.heap.objs.size f ay)) →
   ESs (cxOf CX0 P w K mg base N qual (defScope st) f ay A outer s H E).nox CA (defBody st) g):FnOk P w K mg base CX0 (k+1) f fd ps (spE K CA ps.length (fnE N.length ps.length g)):=by
 refine F.ok S (λvs H Q E h=>h.1) (λay A outer s H vs Q E hr h=>?_);obtain⟨hl,φ,I,S0,es,e,S',r,i,e1,k⟩:=h;refine⟨_,hb ay A outer s H E hr,?_⟩;unfold fnE at e1;have hc:es.length=ps.length:=by rw[i.length];exact hl
 rw[if_pos hc] at e1
 have nk:Nk K φ I (es.map some++Mm (N.length - es.length) none) (L2.start N vs):=by
  refine⟨by unfold L2.start;simp[i.length],λj x q=>?_⟩;have q':=C8 q;obtain⟨v,h1,h2⟩:=i.get q';refine⟨v,?_,h2⟩;unfold L2.start;have hj:j < vs.length:=(j_.mp h1).1;rw[M9 (by simpa using hj),Mx,h1];rfl
 cases q:g (es.map some++Mm (N.length - es.length) none) S0 with
 | none=>rw[q] at e1;cases e1
 | some z =>
  obtain⟨f,ag,S2⟩:=z;rw[q] at e1;cases f with
  | nx=>cases e1;exact⟨φ,I,_,S0,.nx,ag,_,r,nk,q,λak H' al I' r' n' u'=>k _ _ _ _ r' u' (.of Is.non)⟩
  | rt y=>cases e1;exact⟨φ,I,_,S0,.rt _,ag,_,r,nk,q,λak H' al I' r' n' u' v hv=>k _ _ _ _ r' u' hv⟩
  | bk=>cases e1
  | ct=>cases e1
def FB{k:Nat}{f:h_}:FnOk P w K mg base CX0 k f fd ps (spE K CA ps.length λ_ _=>none):=by
 have no:∀vs H Q E,¬spE K CA ps.length (λ_ _=>none) vs H Q E:=λvs H Q E h=>by
  obtain⟨_,_,_,_,_,_,_,_,_,h,_⟩:=h;cases h
 exact⟨λvs H Q E h=>absurd h (no vs H Q E),λA outer s H args us vs Q E _ _ _ _ h=>absurd h (no vs H Q E)⟩
end
section
variable {K:FAa}{CA:Kl}{t:MM (List E)}{mo:MM E}{g:FL}{E':XK}{ar:Nat}
noncomputable def arE(ar:Nat)(g:FL):FL:=λes S=>if es.length=ar then g es S else none
def r8{es:List E}{e:E}(h:arE ar g es S=some (e,S')):es.length=ar/\g es S=some (e,S'):=by
 unfold arE at h;by_cases q:es.length=ar
 ·rw[if_pos q] at h;exact⟨q,h⟩
 ·rw[if_neg q] at h;cases h
def F7:∀B H Q,tE K CA (fn (arE ar g) t) B H Q->tCall (spE K CA ar g) [] E' (tL K CA t) B H Q:=λB H Q q=>by
 tm_at"b";obtain⟨es,S1,e2,e3⟩:=oG e1;obtain⟨hl,e4⟩:=r8 e3;refine⟨φ,I,ν,S,es,S1,r,n,e2,λvs H1 af I1 r1 u1 h1=>?_⟩;show spE K CA ar g (vs++[]) H1 Q E';rw[MY];exact⟨by rw[←h1.length];exact hl,af,I1,S1,es,e,S',r1,h1,e4,k.after u1⟩
def IP:∀B H Q,tE K CA (fn (arE ar g) nilE) B H Q->tCall (spE K CA ar g) [] E' tNil B H Q:=λB H Q q=>by
 tm_at"b";obtain⟨es,S1,e2,e3⟩:=oG e1;cases e2;obtain⟨hl,e4⟩:=r8 e3;exact⟨hl,φ,I,S,[],e,S',r,IsL.nil,e4,k⟩
def mkE(c:Str)(g:FL)(t:MM (List E)):MM E:=bd t λes=>lif λS=>match g (.ref S.length::es) (S++[.ins c []]) with
 | some (.d .non,S')=>some (.ref S.length,S')
 | _=>none
def xR{c:Str}{e:E}{es:List E}{vs:List V}{Q:VK}{x dx:h_}(hc:c∈CA.cl)(e3:(match arE ar g (.ref S1.length::es) (S1++[.ins c []]) with | some (.d .non,S')=>some (E.ref S1.length,S') | _=>none)=some (e,S'))(r1:Re K CA af I1 H1 S1)(u1:Up φ I af I1)(h1:IsL K af I1 es vs)(k:KE K CA φ I S' e Q)(hx:H1 x=none)(hd:H1 dx=none)(ne:dx≠x):spE K CA ar g (.ref x::(vs++[])) (upd (upd H1 dx (.own x)) x (.ins (CA.at' c) dx [])) (λv H2=>v=.non/\Q (.ref x) H2) E':=by
 cases e4:arE ar g (.ref S1.length::es) (S1++[.ins c []]) with
 | none=>rw[e4] at e3;cases e3
 | some z =>
  rw[e4] at e3;split at e3
  ·rename_i S3 lV;cases e3;cases lV;obtain⟨hl,e5⟩:=r8 e4;have eV:(upd H1 dx (.own x)) x=none:=by rw[oI (MQ ne)];exact hx
   obtain⟨r2,u2⟩:=r1.new (p:=x) (H':=upd (upd H1 dx (.own x)) x (.ins (CA.at' c) dx [])) hx ((pW hd _).trans (pW eV _)) ⟨_,oK⟩ (o:=.ins c []) ⟨hc,λf hf=>(by simp at hf),dx,[],oK,by rw[oI ne,oK],rfl,IsL.nil⟩;have hp:(af++[x])[S1.length]?=some x:=by rw[←r1.len];simp
   rw[MY];refine⟨by rw[G_,←h1.length];exact hl,_,_,_,_,_,_,r2,IsL.cons (.mkRf hp) (h1.mono u2),e5,λv H2 ao I2 r3 u3 h3=>⟨qa h3.inv,k _ _ _ _ r3 (u1.trans (u2.trans u3)) (.mkRf (u3.get hp))⟩⟩
  ·cases e3
def LZ{c:Str}(hc:c∈CA.cl):∀B H Q,tE K CA (mkE c (arE ar g) t) B H Q->tMake (CA.at' c) (spE K CA ar g) [] E' (tL K CA t) B H Q:=λB H Q q=>by
 tm_at"b";obtain⟨es,S1,e2,e3⟩:=oG e1;exact⟨φ,I,ν,S,es,S1,r,n,e2,λvs H1 af I1 r1 u1 h1 x dx hx hd ne=>xR hc e3 r1 u1 h1 k hx hd ne⟩
def Ck{c:Str}(hc:c∈CA.cl):∀B H Q,tE K CA (mkE c (arE ar g) nilE) B H Q->tMake (CA.at' c) (spE K CA ar g) [] E' tNil B H Q:=λB H Q q=>by
 tm_at"b";obtain⟨es,S1,e2,e3⟩:=oG e1;cases e2;intro x dx hx hd ne;exact xR hc e3 r (Up.refl _ _) IsL.nil k hx hd ne
def clsE(o:E):MM Str:=λ_ S=>match o with
 | .ref n=>match S[n]? with
  | some (.ins c _)=>some (c,S)
  | _=>none
 | _=>none
def yN{o:E}{c:Str}(h:clsE o ν S=some (c,S')):S'=S/\∃n fs,o=.ref n/\S[n]?=some (.ins c fs):=by
 unfold clsE at h;split at h
 ·split at h
  ·cases h;exact⟨rfl,_,_,rfl,by assumption⟩
  ·cases h
 ·cases h
def meE(G:Str->FL)(mo:MM E)(t:MM (List E)):MM E:=bd mo λo=>bd (clsE o) λc=>bd t λes=>lif (G c (o::es))
theorem vQ{m:Str}:∀{xs:List (Str×V)},m∉xs.map (·.1)->xs.lookup m=none
 | [],_=>rfl
 | (g,x)::r,h=>by
  rw[N0];have ne:(m == g)=false:=beq_eq_false_iff_ne.mpr λz=>h (by rw[z];exact p_)
  rw[ne];exact vQ λz=>h (n_ _ z)
def Ly{c m:Str}{G:Str->FL}(hm:m∉CA.fl)(hG:G c=arE ar g):∀B H Q,(∃φ I ν S e S',Re K CA φ I H S/\Nk K φ I ν B/\meE G mo t ν S=some (e,S')/\KE K CA φ I S' e Q/\∀o S1,mo ν S=some (o,S1)->∃S2,clsE o ν S1=some (c,S2)) →
  tMeth (CA.at' c) m (spE K CA ar g) [] E' (tE K CA mo) (tL K CA t) B H Q:=λB H Q q=>by
 obtain⟨φ,I,ν,S,e,S',r,n,e1,k,ba⟩:=q;obtain⟨o,S1,e2,e3⟩:=oG e1;obtain⟨c',S2,e4,e5⟩:=oG e3;obtain⟨es,S3,e6,e7⟩:=oG e5;obtain⟨f7,q⟩:=ba o S1 e2;rw[e4] at q;cases q;obtain⟨rfl,nn,fs,rfl,hn⟩:=yN e4;have iM:arE ar g (.ref nn::es) S3=some (e,S'):=by rw[←hG];exact e7
 obtain⟨hl,e8⟩:=r8 iM;refine⟨φ,I,ν,S,_,_,r,n,e2,λv H1 af I1 r1 u1 h1=>?_⟩;obtain⟨a,dx,xs,ha,rfl,hc,hf,h2,_,h4,h5⟩:=r1.ins hn h1;refine⟨a,dx,xs,rfl,h2,vQ λz=>hm (hf m (by rw[h4];exact z)),af,I1,ν,_,es,S3,r1,n.mono u1,e6,λvs H2 ao I2 r2 u2 h6=>?_⟩;show spE K CA ar g (V.ref a::(vs++[])) H2 Q E';rw[MY];exact⟨by rw[G_,←h6.length];exact hl,ao,I2,S3,_,e,S',r2,IsL.cons (h1.mono u2) h6,e8,k.after (u1.trans u2)⟩
def Kp{c m:Str}{G:Str->FL}(hm:m∉CA.fl)(hG:G c=arE ar g):∀B H Q,(∃φ I ν S e S',Re K CA φ I H S/\Nk K φ I ν B/\meE G mo nilE ν S=some (e,S')/\KE K CA φ I S' e Q/\∀o S1,mo ν S=some (o,S1)->∃S2,clsE o ν S1=some (c,S2)) →
  tMeth (CA.at' c) m (spE K CA ar g) [] E' (tE K CA mo) tNil B H Q:=λB H Q q=>by
 obtain⟨φ,I,ν,S,e,S',r,n,e1,k,ba⟩:=q;obtain⟨o,S1,e2,e3⟩:=oG e1;obtain⟨c',S2,e4,e5⟩:=oG e3;obtain⟨es,S3,e6,e7⟩:=oG e5;cases e6;obtain⟨f7,q⟩:=ba o S1 e2;rw[e4] at q;cases q;obtain⟨rfl,nn,fs,rfl,hn⟩:=yN e4;have iM:arE ar g [.ref nn] S2=some (e,S'):=by rw[←hG];exact e7
 obtain⟨hl,e8⟩:=r8 iM;refine⟨φ,I,ν,S,_,_,r,n,e2,λv H1 af I1 r1 u1 h1=>?_⟩;obtain⟨a,dx,xs,ha,rfl,hc,hf,h2,_,h4,h5⟩:=r1.ins hn h1;exact⟨a,dx,xs,rfl,h2,vQ λz=>hm (hf m (by rw[h4];exact z)),hl,af,I1,_,_,e,S',r1,IsL.cons h1 IsL.nil,e8,k.after u1⟩
end
def seqE(e:E)(S:Sto):Option (List E):=match e with
 | .ref n=>match S[n]? with
  | some (.lst es)=>some es
  | _=>none
 | e=>unT e
section
variable{K:FAa}{CA:Kl}{H:Hp}{e:E}{es:List E}{v:V}
theorem Re.lst(r:Re K CA φ I H S)(h:S[n]?=some (.lst es))(i:IsE K φ I (.ref n) v):∃p xs,v=.ref p/\φ[n]?=some p/\H p=some (.lst xs)/\IsL K φ I es xs:=by
 obtain⟨a,ha,rfl⟩:=i.rf;obtain⟨a',aW,_,xs,h1,h2⟩:=r.cell n _ h;rw[ha] at aW;cases aW;exact⟨a,xs,rfl,ha,h1,h2⟩
def Re.seq(r:Re K CA φ I H S)(h:seqE e S=some es)(i:IsE K φ I e v):∃p xs,v=.ref p/\(H p=some (.lst xs)\/H p=some (.tup xs))/\IsL K φ I es xs:=by
 unfold seqE at h;split at h
 ·rename_i n;split at h
  ·rename_i fs q;cases h;obtain⟨p,xs,h1,_,h2,h3⟩:=r.lst q i;exact⟨p,xs,h1,.inl h2,h3⟩
  ·cases h
 ·obtain⟨a,xs,h1,h2,h3⟩:=qC h i;exact⟨a,xs,h1,.inr (r.iH _ _ h2),h3⟩
def wR{p:h_}(h:H p=some (.lst xs)\/H p=some (.tup xs)):SqL K H p xs\/SqT K H p xs:=h.imp (λz=>(RdK.of z).sq) SqT.of
noncomputable def tos(f:E->Option D):List E->Option (List D)
 | []=>some []
 | e::es=>match f e,tos f es with
  | some d,some ds=>some (d::ds)
  | _,_=>none
def toD(S:Sto):Nat->E->Option D
 | _,.d x=>some x
 | 0,_=>none
 | n+1,.tup es=>match tos (toD S n) es with
  | some ds=>some (.tup ds)
  | none=>none
 | n+1,.ref k=>match S[k]? with
  | some (.lst es)=>match tos (toD S n) es with
   | some ds=>some (.lst ds)
   | none=>none
  | _=>none
theorem sQ{f:E->Option D}(hf:∀e d v,f e=some d->IsE K φ I e v->Is K H d v):∀{es:List E}{ds:List D}{xs:List V},tos f es=some ds->IsL K φ I es xs->IsA K H ds xs
 | [],ds,xs,h,i=>by cases h;rw[i.nil_inv];exact IsA.nil
 | e::es,ds,xs,h,i=>by
  obtain⟨x,r,rfl,h1,h2⟩:=i.cons_inv;unfold tos at h;split at h
  ·rename_i d cG q1 q2;cases h;exact IsA.cons (hf _ _ _ q1 h1) (sQ hf q2 h2)
  ·cases h
theorem pR(r:Re K CA φ I H S):∀(n:Nat) (e:E) (d:D) (v:V),toD S n e=some d->IsE K φ I e v->Is K H d v
 | 0,.d x,d,v,h,i=>by unfold toD at h;cases h;exact i.inv.mono r.iH
 | n+1,.d x,d,v,h,i=>by unfold toD at h;cases h;exact i.inv.mono r.iH
 | 0,.tup es,d,v,h,i=>by unfold toD at h;cases h
 | 0,.ref k,d,v,h,i=>by unfold toD at h;cases h
 | n+1,.tup es,d,v,h,i=>by
  unfold toD at h;split at h
  ·rename_i ds q;cases h;obtain⟨a,xs,rfl,h1,h2⟩:=i.tp;exact Is.tup (r.iH _ _ h1) (sQ (pR r n) q h2)
  ·cases h
 | n+1,.ref k,d,v,h,i=>by
  unfold toD at h;split at h
  ·rename_i es q0;split at h
   ·rename_i ds q;cases h;obtain⟨p,xs,rfl,_,h1,h2⟩:=r.lst q0 i;exact Is.lst (RdK.of h1) (sQ (pR r n) q h2)
   ·cases h
  ·cases h
end
noncomputable def iop(C:Int->Int->Bool)(g:Int->Int->D):F2:=λa b S=>match a,b with
 | .d (.int i),.d (.int j)=>if C i j then some (.d (g i j),S) else none
 | _,_=>none
def xA{C:Int->Int->Bool}{g:Int->Int->D}{a b e:E}(h:iop C g a b S=some (e,S')):∃i j,a=.d (.int i)/\b=.d (.int j)/\C i j=true/\e=.d (g i j)/\S'=S:=by
 unfold iop at h;split at h
 ·split at h
  ·cases h;exact⟨_,_,rfl,rfl,by assumption,rfl,rfl⟩
  ·cases h
 ·cases h
section
variable {K:FAa}{CA:Kl}
def oi{C:Int->Int->Bool}{C':Int->Int->Prop}(h:∀i j,C i j=true->C' i j){f:Int->Int->Int}:OpE K CA (rI C' λi j=>.int (f i j)) (iop C λi j=>.int (f i j)):=λa b S e S' e1 φ I H x y Q r hx hy k=>by
 obtain⟨i,j,rfl,rfl,hc,rfl,rfl⟩:=xA e1;exact⟨i,j,oM hx.inv,oM hy.inv,h _ _ hc,k.now r (.of (Is.int _))⟩
def oi0{f:Int->Int->Int}:OpE K CA (rI0 λi j=>.int (f i j)) (iop (λ_ _=>true) λi j=>.int (f i j)):=λa b S e S' e1 φ I H x y Q r hx hy k=>by
 obtain⟨i,j,rfl,rfl,hc,rfl,rfl⟩:=xA e1;exact⟨i,j,oM hx.inv,oM hy.inv,k.now r (.of (Is.int _))⟩
def ob0{f:Int->Int->Bool}:OpE K CA (rI0 λi j=>.bl (f i j)) (iop (λ_ _=>true) λi j=>.bl (f i j)):=λa b S e S' e1 φ I H x y Q r hx hy k=>by
 obtain⟨i,j,rfl,rfl,hc,rfl,rfl⟩:=xA e1;exact⟨i,j,oM hx.inv,oM hy.inv,k.now r (.of (Is.bl _))⟩
abbrev subE:F2:=iop (λ_ _=>true) λi j=>.int (i - j)
def mulE:F2:=iop (λi j=>decide ((-(2 ^ 64) < i/\i < 2 ^ 64)\/(-(2 ^ 64) < j/\j < 2 ^ 64))) λi j=>.int (i*j)
def modE:F2:=iop (λ_ j=>decide (0 < j)) λi j=>.int (i % j)
def divE:F2:=iop (λ_ j=>decide (0 < j/\j < 2 ^ 200)) λi j=>.int (i / j)
def powE:F2:=iop (λi j=>decide (0<=j/\j<=1000000/\i.natAbs < 2 ^ 64)) λi j=>.int (i ^ j.toNat)
abbrev ltE:F2:=iop (λ_ _=>true) λi j=>.bl (decide (i < j))
abbrev leE:F2:=iop (λ_ _=>true) λi j=>.bl (decide (i<=j))
abbrev gtE:F2:=iop (λ_ _=>true) λi j=>.bl (decide (j < i))
abbrev geE:F2:=iop (λ_ _=>true) λi j=>.bl (decide (j<=i))
def OpE.or{F:F2}(h:OpE K CA r F)(h':OpE K CA r' F'):OpE K CA (λx y H Q=>r x y H Q\/r' x y H Q) (λa b S=>match F a b S with
  | some z=>some z
  | none=>F' a b S):=λa b S e S' e1 φ I H x y Q rr hx hy k=>by
 dsimp only at e1;split at e1
 ·rename_i z q;cases e1;exact .inl (h _ _ _ _ _ q _ _ _ _ _ _ rr hx hy k)
 ·exact .inr (h' _ _ _ _ _ e1 _ _ _ _ _ _ rr hx hy k)
def catS:F2:=λa b S=>match a,b with
 | .d (.str x),.d (.str y)=>if x.length+y.length<=lim then some (.d (.str (x++y)),S) else none
 | _,_=>none
def catT:F2:=λa b S=>match unT a,unT b with
 | some xs,some ys=>if xs.length+ys.length<=lim then some (mkT (xs++ys),S) else none
 | _,_=>none
def catL:F2:=λa b S=>match a,b with
 | .ref m,.ref n=>match S[m]?,S[n]? with
  | some (.lst xs),some (.lst ys)=>if xs.length+ys.length<=lim then some (.ref S.length,S++[.lst (xs++ys)]) else none
  | _,_=>none
 | _,_=>none
def E2:OpE K CA (λx y H Q=>∃i j,x=.str i/\y=.str j/\i.length+j.length<=B_/\Q (.str (i++j)) H) catS:=λa b S e S' e1 φ I H x y Q r hx hy k=>by
 unfold catS at e1;split at e1
 ·obtain⟨hl,e2⟩:=o3 e1;cases e2;exact⟨_,_,pO hx.inv,pO hy.inv,ql hl,k.now r (.of (Is.str _))⟩
 ·cases e1
def HG:OpE K CA (rCatTT K) catT:=λa b S e S' e1 φ I H x y Q r hx hy k=>by
 unfold catT at e1;split at e1
 ·rename_i xs ys q1 q2;obtain⟨hl,e2⟩:=o3 e1;cases e2;obtain⟨p,us,rfl,h1,h2⟩:=qC q1 hx;obtain⟨q,vs,rfl,h3,h4⟩:=qC q2 hy;refine⟨p,q,us,vs,rfl,rfl,SqT.of (r.iH _ _ h1),SqT.of (r.iH _ _ h3),ql (by rw[←h2.length,←h4.length];exact hl),λz=>?_,λ_ z=>?_,λ_ _ p hp=>?_⟩
  ·subst z;have:xs=[]:=Nu.mp h2.length;subst this;exact k.now r (qk h3 h4)
  ·subst z;have:ys=[]:=Nu.mp h4.length;subst this;rw[MY] at k;exact k.now r (qk h1 h2)
  ·obtain⟨r2,u2⟩:=r.tup hp (us++vs);exact k _ _ _ _ r2 u2 (qk oK ((h2.append h4).mono u2))
 ·cases e1
def Ga:OpE K CA (rCatR K) catL:=λa b S e S' e1 φ I H x y Q r hx hy k=>by
 unfold catL at e1;split at e1
 ·split at e1
  ·rename_i m n _ _ xs ys q1 q2;obtain⟨hl,e2⟩:=o3 e1;cases e2;obtain⟨p,us,rfl,_,h1,h2⟩:=r.lst q1 hx;obtain⟨q,vs,rfl,_,h3,h4⟩:=r.lst q2 hy;exact⟨p,q,us,vs,rfl,rfl,RdK.of h1,RdK.of h3,ql (by rw[←h2.length,←h4.length];exact hl),λp hp=>k.newL r (h2.append h4) hp⟩
  ·cases e1
 ·cases e1
def addE:F2:=λa b S=>match iop (λ_ _=>true) (λi j=>.int (i+j)) a b S with
 | some z=>some z
 | none=>match catT a b S with
  | some z=>some z
  | none=>match catL a b S with
   | some z=>some z
   | none=>catS a b S
def CY:OpE K CA (λx y H Q=>rI0 (λi j=>.int (i+j)) x y H Q\/rCatTT K x y H Q\/rCatR K x y H Q\/∃i j,x=.str i/\y=.str j/\i.length+j.length<=B_/\Q (.str (i++j)) H) addE:=oi0.or (HG.or (Ga.or E2))
def eqE(neg:Bool):F2:=λa b S=>match toD S 9 a,toD S 9 b with
 | some x,some y=>if dep x<=100\/dep y<=100 then some (.d (.bl (if neg then !deq x y else deq x y)),S) else none
 | _,_=>none
def o_eq:OpE K CA (rEqD K neg) (eqE neg):=λa b S e S' e1 φ I H x y Q r hx hy k=>by
 unfold eqE at e1;split at e1
 ·rename_i d1 d2 q1 q2;obtain⟨hl,e2⟩:=o3 e1;cases e2;exact⟨d1,d2,pR r _ _ _ _ q1 hx,pR r _ _ _ _ q2 hy,hl,k.now r (.of (Is.bl _))⟩
 ·cases e1
def inS(neg:Bool):F2:=λa b S=>match toD S 9 a,toD S 9 b with
 | some x,some (.lst ys)=>if dep x<=99 then some (.d (.bl (if neg then !ys.any (λd=>deq d x) else ys.any λd=>deq d x)),S) else none
 | some x,some (.tup ys)=>if dep x<=99 then some (.d (.bl (if neg then !ys.any (λd=>deq d x) else ys.any λd=>deq d x)),S) else none
 | _,_=>none
def xH:OpE K CA (rInD K neg) (inS neg):=λa b S e S' e1 φ I H x y Q r hx hy k=>by
 unfold inS at e1;split at e1
 ·rename_i d1 ys q1 q2;obtain⟨hl,e2⟩:=o3 e1;cases e2;exact⟨d1,ys,pR r _ _ _ _ q1 hx,.inl (pR r _ _ _ _ q2 hy),hl,k.now r (.of (Is.bl _))⟩
 ·rename_i d1 ys q1 q2;obtain⟨hl,e2⟩:=o3 e1;cases e2;exact⟨d1,ys,pR r _ _ _ _ q1 hx,.inr (pR r _ _ _ _ q2 hy),hl,k.now r (.of (Is.bl _))⟩
 ·cases e1
noncomputable def isN:E->Bool
 | .d .non=>true
 | _=>false
def xu{e:E}{v:V}(i:IsE K φ I e v):decide (v=.non)=isN e:=by
 cases e with
 | ref n=>obtain⟨a,_,rfl⟩:=i.rf;exact decide_eq_false λz=>by cases z
 | tup es=>obtain⟨a,_,rfl,_⟩:=i.tp;exact decide_eq_false λz=>by cases z
 | d x =>
  have j:=i.inv;cases x with
  | non=>rw[qa j];rfl
  | bl b=>rw[pA j];exact decide_eq_false λz=>by cases z
  | int b=>rw[oM j];exact decide_eq_false λz=>by cases z
  | str b=>rw[pO j];exact decide_eq_false λz=>by cases z
  | tup b=>obtain⟨a,_,rfl,_⟩:=o7 j;exact decide_eq_false λz=>by cases z
  | lst b=>obtain⟨a,_,rfl,_⟩:=pz j;exact decide_eq_false λz=>by cases z
def isE(neg:Bool):F2:=λa b S=>if isN b=true then some (.d (.bl (if neg then !isN a else isN a)),S) else none
def Bh{e:E}{v:V}(h:isN e=true)(i:IsE K φ I e v):v=.non:=by
 have:=xu i;rw[h] at this;exact of_decide_eq_true this
def o_is:OpE K CA (λx y H Q=>y=.non/\Q (.bl (decide (x=.non))) H) (isE false):=λa b S e S' e1 φ I H x y Q r hx hy k=>by
 obtain⟨hb,e2⟩:=o3 e1;cases e2;exact⟨Bh hb hy,by rw[xu hx];exact k.now r (.of (Is.bl _))⟩
def D5:OpE K CA (λx y H Q=>y=.non/\Q (.bl (!decide (x=.non))) H) (isE true):=λa b S e S' e1 φ I H x y Q r hx hy k=>by
 obtain⟨hb,e2⟩:=o3 e1;cases e2;exact⟨Bh hb hy,by rw[xu hx];exact k.now r (.of (Is.bl _))⟩
end
section
variable {X:Cx}{K:FAa}{CA:Kl}
def IsL.one{e:E}(h:IsL K φ I [e] xs):∃x,xs=[x]/\IsE K φ I e x:=by
 obtain⟨x,r,rfl,h1,h2⟩:=h.cons_inv;rw[h2.nil_inv];exact⟨x,rfl,h1⟩
def IsL.two{e f:E}(h:IsL K φ I [e,f] xs):∃x y,xs=[x,y]/\IsE K φ I e x/\IsE K φ I f y:=by
 obtain⟨x,r,rfl,h1,h2⟩:=h.cons_inv;obtain⟨y,rfl,h3⟩:=h2.one;exact⟨x,y,rfl,h1,h3⟩
def onS(F:List E->Sto->Option (E×Sto)):FL:=λes S=>match es with
 | [e]=>match seqE e S with
  | some xs=>F xs S
  | none=>none
 | _=>none
def sZ{F:List E->Sto->Option (E×Sto)}{es:List E}{z:E×Sto}(h:onS F es S=some z):∃e xs,es=[e]/\seqE e S=some xs/\F xs S=some z:=by
 unfold onS at h;split at h
 ·split at h
  ·exact⟨_,_,rfl,by assumption,h⟩
  ·cases h
 ·cases h
def lenE:FL:=onS λxs S=>some (.d (.int xs.length),S)
def Ln:CallE K CA (λxs H Q=>∃p ys,xs=[.ref p]/\(SqL K H p ys\/SqT K H p ys)/\Q (.int ys.length) H) lenE:=λes S e S' e1 φ I H vs Q r h k=>by
 obtain⟨e,xs,rfl,q,e2⟩:=sZ e1;cases e2;obtain⟨v,rfl,hv⟩:=h.one;obtain⟨p,ys,rfl,h1,h2⟩:=r.seq q hv;exact⟨p,ys,rfl,wR h1,by rw[←h2.length];exact k.now r (.of (Is.int _))⟩
def listE:FL:=onS λxs S=>some (.ref S.length,S++[.lst xs])
def Ks:CallE K CA (λxs H Q=>∃p ys,xs=[.ref p]/\(SqL K H p ys\/SqT K H p ys)/\∀l,H l=none->Q (.ref l) (upd H l (.lst ys))) listE:=λes S e S' e1 φ I H vs Q r h k=>by
 obtain⟨e,xs,rfl,q,e2⟩:=sZ e1;cases e2;obtain⟨v,rfl,hv⟩:=h.one;obtain⟨p,ys,rfl,h1,h2⟩:=r.seq q hv;exact⟨p,ys,rfl,wR h1,λl hl=>k.newL r h2 hl⟩
def tupleE:FL:=onS λxs S=>some (mkT xs,S)
def Hs:CallE K CA (λxs H Q=>∃p ys,xs=[.ref p]/\((SqL K H p ys/\∀l,H l=none->Q (.ref l) (upd H l (.tup ys)))\/(SqT K H p ys/\Q (.ref p) H))) tupleE:=λes S e S' e1 φ I H vs Q r h k=>by
 obtain⟨e,xs,rfl,q,e2⟩:=sZ e1;cases e2;obtain⟨v,rfl,hv⟩:=h.one;unfold seqE at q;split at q
 ·split at q
  ·rename_i fs q1;cases q;obtain⟨p,ys,rfl,_,h1,h2⟩:=r.lst q1 hv;refine⟨p,ys,rfl,.inl ⟨(RdK.of h1).sq,λl hl=>?_⟩⟩;obtain⟨r2,u2⟩:=r.tup hl ys;exact k _ _ _ _ r2 u2 (qk oK (h2.mono u2))
  ·cases q
 ·obtain⟨p,ys,rfl,h1,h2⟩:=qC q hv;exact⟨p,ys,rfl,.inr ⟨SqT.of (r.iH _ _ h1),k.now r (qk h1 h2)⟩⟩
def bools:List E->Option (List Bool)
 | []=>some []
 | .d (.bl b)::es=>match bools es with
  | some bs=>some (b::bs)
  | none=>none
 | _=>none
theorem Bz{φ:List h_}{I:Hp}:∀{es:List E}{bs:List Bool}{xs:List V},bools es=some bs->IsL K φ I es xs->xs=bs.map .bl
 | [],bs,xs,h,i=>by cases h;exact i.nil_inv
 | .d (.bl b)::es,bs,xs,h,i=>by
  obtain⟨x,r,rfl,h1,h2⟩:=i.cons_inv;rw[bools] at h;split at h
  ·rename_i nU q;cases h;rw[pA h1.inv,Bz q h2];rfl
  ·cases h
 | .d .non::_,_,_,h,_=>by cases h
 | .d (.int _)::_,_,_,h,_=>by cases h
 | .d (.str _)::_,_,_,h,_=>by cases h
 | .d (.tup _)::_,_,_,h,_=>by cases h
 | .d (.lst _)::_,_,_,h,_=>by cases h
 | .ref _::_,_,_,h,_=>by cases h
 | .tup _::_,_,_,h,_=>by cases h
def onB(f:List Bool->Bool):FL:=λes S=>match es with
 | [.ref n]=>match S[n]? with
  | some (.lst xs)=>match bools xs with
   | some bs=>some (.d (.bl (f bs)),S)
   | none=>none
  | _=>none
 | _=>none
def Bg{f:List Bool->Bool}:CallE K CA (λxs H Q=>∃(p:h_) (bs:List Bool),xs=[.ref p]/\SqL K H p (bs.map .bl)/\Q (.bl (f bs)) H) (onB f):=λes S e S' e1 φ I H vs Q r h k=>by
 unfold onB at e1;split at e1
 ·split at e1
  ·split at e1
   ·rename_i n _ xs q0 _ bs q;cases e1;obtain⟨v,rfl,hv⟩:=h.one;obtain⟨p,ys,rfl,_,h1,h2⟩:=r.lst q0 hv;have:=Bz q h2;subst this;exact⟨p,bs,rfl,(RdK.of h1).sq,k.now r (.of (Is.bl _))⟩
   ·cases e1
  ·cases e1
 ·cases e1
noncomputable def two(f:Int->Int->Int):FL:=λes S=>match es with
 | [.d (.int i),.d (.int j)]=>some (.d (.int (f i j)),S)
 | _=>none
def yz{f:Int->Int->Int}:CallE K CA (λxs H Q=>∃i j,xs=[.int i,.int j]/\Q (.int (f i j)) H) (two f):=λes S e S' e1 φ I H vs Q r h k=>by
 unfold two at e1;split at e1
 ·cases e1;obtain⟨x,y,rfl,h1,h2⟩:=h.two;rw[oM h1.inv,oM h2.inv];exact⟨_,_,rfl,k.now r (.of (Is.int _))⟩
 ·cases e1
def minPE:FL:=λes S=>match es with
 | [.ref n]=>match S[n]? with
  | some (.lst xs)=>match pures xs with
   | some ds=>match prsD ds with
    | some (p::ps)=>some (.d (prD (minP (p::ps))),S)
    | _=>none
   | none=>none
  | _=>none
 | _=>none
def EX:CallE K CA (λxs H Q=>∃(p:h_) (zs:List V) (ps:List (Int×Int)),xs=[.ref p]/\SqL K H p zs/\ps≠[]/\zs.length=ps.length ∧
  (∀(i:Nat) z,zs[i]?=some z->∃q,z=.ref q/\SqT K H q [.int (ps.getD i (0,0)).1,.int (ps.getD i (0,0)).2])/\∀z,zs[OD (btP ps) (ps.length - 1)]?=some z->Q z H) minPE:=λes S e S' e1 φ I H vs Q r h k=>by
 unfold minPE at e1;split at e1
 ·split at e1
  ·split at e1
   ·split at e1
    ·rename_i n _ xs q0 _ ds q1 _ p1 ps eb;cases e1;have:=Hc _ _ eb;subst this;have:=sI q1;subst this;obtain⟨v,rfl,hv⟩:=h.one;obtain⟨q,zs,rfl,_,h3,h4⟩:=r.lst q0 hv;have h4:=pP.mp h4;have L:=h4.length;rw[c_] at L
     have gJ:∀(i:Nat) z,zs[i]?=some z->Is K I (prD ((p1::ps).getD i (0,0))) z:=λi z hz=>by
      have hi:i < (p1::ps).length:=by rw[L];exact(j_.mp hz).1
      obtain⟨z',e1,e2⟩:=h4.get (i:=i) (d:=prD (p1::ps)[i]) (by rw[Mx,i_ hi];rfl);rw[hz] at e1;cases e1;rw[C_,i_ hi];exact e2
     refine⟨q,zs,p1::ps,rfl,(RdK.of h3).sq,by simp,L.symm,λi z hz=>?_,λz hz=>k.now r (.of (gJ _ z hz))⟩;obtain⟨q2,ys,rfl,e1,e2⟩:=o7 (gJ i z hz);obtain⟨y1,y2,rfl,f1,f2⟩:=e2.two;rw[oM f1,oM f2] at e1;exact⟨q2,rfl,Same.sqT r.iH e1⟩
    ·cases e1
   ·cases e1
  ·cases e1
 ·cases e1
instance (ds:List D):Decidable (SortOk ds):=by unfold SortOk;infer_instance
instance (ds:List D):Decidable (SetOk ds):=by unfold SetOk;infer_instance
def sortE:FL:=onS λxs S=>match pures xs with
 | some ds=>if SortOk ds then some (.ref S.length,S++[.lst ((sortD ds).map .d)]) else none
 | none=>none
def Hz:CallE K CA (λxs H Q=>∃(p:h_) (zs:List V) (ds:List D),xs=[.ref p]/\(SqL K H p zs\/SqT K H p zs)/\IsA K H ds zs/\SortOk ds/\∀l q,Pm ds.length q->permD q ds=sortD ds->H l=none->Q (.ref l) (upd H l (.lst (permV q zs)))) sortE:=λes S e S' e1 φ I H vs Q r h k=>by
 obtain⟨e,xs,rfl,q,e2⟩:=sZ e1;split at e2
 ·rename_i ds q1;obtain⟨ok,e3⟩:=o3 e2;cases e3;have:=sI q1;subst this;obtain⟨v,rfl,hv⟩:=h.one;obtain⟨p,ys,rfl,h1,h2⟩:=r.seq q hv;have h2:=pP.mp h2;exact⟨p,ys,ds,rfl,wR h1,h2.mono r.iH,ok,λl q hp he hl=>k.newL r (pP.mpr (by rw[←he];exact h2.perm hp)) hl⟩
 ·cases e2
def sortsetE:FL:=λes S=>match es with
 | [.ref n]=>match S[n]? with
  | some (.lst xs)=>match pures xs with
   | some ds=>if SetOk ds/\(ds.all fstI=true\/ds.all fstT=true) then some (.ref S.length,S++[.lst ((sortD (dd ds)).map .d)]) else none
   | none=>none
  | _=>none
 | _=>none
def HX:CallE X.K CA (rSS X) sortsetE:=λes S e S' e1 φ I H vs Q r h k=>by
 unfold sortsetE at e1;split at e1
 ·split at e1
  ·split at e1
   ·rename_i n _ xs q0 _ ds q1;obtain⟨ok,e3⟩:=o3 e1;cases e3;have:=sI q1;subst this;obtain⟨v,rfl,hv⟩:=h.one;obtain⟨p,ys,rfl,_,h1,h2⟩:=r.lst q0 hv;exact⟨p,ys,ds,I,rfl,(RdK.of h1).sq,pP.mp h2,λd x hx=>hx.mono r.iH,ok.1,ok.2,λl cr hz hl=>k.newL r (pP.mpr hz) hl⟩
   ·cases e1
  ·cases e1
 ·cases e1
def isiE(k:Ki)(m:MM E):MM E:=bd m λe=>lif λS=>match toD S 9 e with
 | some d=>some (.d (.bl (isiB k d)),S)
 | none=>none
def Kq{k:Ki}{m:MM E}:∀B H Q,tE X.K CA (isiE k m) B H Q->tCB (λxs H Q=>∃d x,xs=[x,.ty k.nm]/\Is X.K H d x/\Q (.bl (isiB k d)) H) (tCons (tE X.K CA m) (tCons (tC (.ty k.nm)) tNil)) B H Q:=λB H Q q=>by
 tm_at"b";obtain⟨x,S1,e2,e3⟩:=oG e1
 have e3:(match toD S1 9 x with
  | some d=>some (E.d (.bl (isiB _ d)),S1)
  | none=>none)=some (e,S'):=e3
 split at e3
 ·rename_i d q;cases e3;exact⟨φ,I,ν,S,x,_,r,n,e2,λv H1 af I1 r1 u1 h1=>⟨d,v,rfl,pR r1 _ _ _ _ q h1,k _ _ _ _ r1 u1 (.of (Is.bl _))⟩⟩
 ·cases e3
end
section
variable {X:Cx}
def Gj{H:Hp}{s:e_}{a:D}(hu:X.A.units+100 < Ni)(I:Inv X aa B H s)(ha:IsA X.K H ds xs)(r:Vals xs ab)(h1:Is X.K H a y)(r1:RelV y u)(hd:dep a<=99):
  ∃f:b_->Bool,(∀z,z∈ab.toArray->P_ X.A.in1 s z u (f z))/\∀(j:Nat) z d,ab[j]?=some z->ds[j]?=some d->f z=deq d a:=by
 have one:∀z:b_,∃b:Bool,∀d w,d∈ds->Is X.K H d w->RelV w z->deq d a=b:=λz=>by
  by_cases hz:∃d w,d∈ds/\Is X.K H d w/\RelV w z
  ·obtain⟨d,w,_,hi,hr⟩:=hz;exact⟨deq d a,λd' w' _ aL gZ=>by obtain rfl:=RelV.inj hr gZ;rw[rc I hi aL]⟩
  ·exact⟨false,λd w k1 k2 k3=>absurd ⟨d,w,k1,k2,k3⟩ hz⟩
 have at':∀(j:Nat) z,ab[j]?=some z->∃d w,ds[j]?=some d/\d∈ds/\Is X.K H d w/\RelV w z:=λj z hz=>by
  have hj:j < ds.length:=by rw[ha.length,r.length];exact(j_.mp hz).1
  obtain⟨w,k1,k2⟩:=ha.get (i_ hj);obtain⟨z',k3,k4⟩:=r.get k1;rw[hz] at k3;cases k3;exact⟨_,w,i_ hj,Nf hj,k2,k4⟩
 refine⟨λz=>(one z).choose,λz hz=>?_,λj z d hz bp=>?_⟩
 ·obtain⟨j,hj⟩:=Pn.mp (List.mem_toArray.mp hz);obtain⟨d,w,_,k2,k3,k4⟩:=at' j z hj;show P_ X.A.in1 s z u (one z).choose;rw[←(one z).choose_spec d w k2 k3 k4];exact(qU I 99 X.A.in1 (by show X.A.units+1+99 < Ni;omega) d a w y z u (.inr hd) k3 h1 k4 r1).2.1
 ·obtain⟨d',w,k1,k2,k3,k4⟩:=at' j z hz;rw[bp] at k1;cases k1;exact((one z).choose_spec d w k2 k3 k4).symm
theorem zO(l:h_)(us:Array b_)(c:Nat)(v:b_)(f:b_->Bool)(j:Nat)(hj:j < us.size)(hz:us.size<=B_)(yes:f us[j]=true):∀(m i:Nat),i+m=j->(∀(k:Nat) (hk:k < us.size),i<=k->k < j->f us[k]=false) →
  Uf (NE.«list.remove.loop» ⟨[.ref l,v,Qd i],[]⟩) (λA out s=>s.heap.get? l=some { cls:=.type "list", data:=.seq us c }/\(∀y,y∈us->P_ A.in1 s y v (f y)) ∧
   out (.ok (.ret .none)) { s with heap:=s.heap.update l (OK λws=>ws.eraseIdxIfInBounds j) })
 | 0,i,e,no=>λprog w A out s TN=>by
  obtain rfl:i=j:=e;obtain⟨g1,g2,g3⟩:=TN
  wp_walk using Nj g1
  have here:us[((i:Nat):Int).toNat]?=some us[i]:=by rw[MC];exact l_ hj
  rw[here];refine a_ (g2 _ (NK hj) prog w _ _ ?_);have cx:(us.eraseIdxIfInBounds i).size<=B_+1:=A_ (MeetsSeq.size_erased us _) (Pt hz)
  wp_walk using NL g1 rfl (hz:=hz) (_hz':=cx),Nj g1
  simpa using g3
 | m+1,i,e,no=>λprog w A out s TN=>by
  obtain⟨g1,g2,g3⟩:=TN;have lt:i < us.size:=by omega
  wp_walk using Nj g1
  have here:us[((i:Nat):Int).toNat]?=some us[i]:=by rw[MC];exact l_ lt
  have next:((i:Int)+1)=((i+1:Nat):Int):=by omega
  rw[here];refine a_ (g2 _ (NK lt) prog w _ _ ?_);rw[no i lt (s_ _) ⋯]
  wp_walk
  exact⟨MZ Qq _,MN Qr (by
   exact zO l us c v f j hj hz yes m (i+1) ⋯ (λk hk h1 h2=>no k hk ⋯ h2) prog w A out _ ⟨g1,g2,g3⟩)⟩
def JS(l:h_)(us:Array b_)(c:Nat)(v:b_)(f:b_->Bool)(j:Nat)(hj:j < us.size)(hz:us.size<=B_)(yes:f us[j]=true)(no:∀(k:Nat) (hk:k < us.size),k < j->f us[k]=false):
  Uf (NE.«list.remove» ⟨[.ref l,v],[]⟩) (λA out s=>s.heap.get? l=some { cls:=.type "list", data:=.seq us c }/\(∀y,y∈us->P_ A.in1 s y v (f y)) ∧
   out (.ok (.ret .none)) { s with heap:=s.heap.update l (OK λws=>ws.eraseIdxIfInBounds j) }):=λprog w A out s TN=>by
 obtain⟨g1,g2,g3⟩:=TN
 wp_walk using Nj g1
 exact⟨MZ Qq _,MN Qr (by
  exact zO l us c v f j hj hz yes j 0 ⋯ (λk hk _ h2=>no k hk h2) prog w A out _ ⟨g1,g2,g3⟩)⟩
inductive rRm(K:FAa)(x:V)(vs:List V)(H:Hp)(Q:VK):Prop | mk (l:h_) (xs:List V) (y:V) (ds:List D) (a:D) (j:Nat) (d:D):x=.ref l->vs=[y]->H l=some (.lst xs)->IsA K H ds xs->Is K H a y->dep a<=99->ds[j]?=some d->deq d a=true->((∀k e,k < j->ds[k]?=some e->deq e a=false))->Q .non (upd H l (.lst (xs.eraseIdx j)))->rRm K x vs H Q
theorem Ih(hu:X.A.units+100 < Ni):MtM X "list.remove" (rRm X.K):=by
 intro aa s B H x vs v us Q I rx rv h;obtain⟨l,xs,y,ds,a,j,d,rfl,rfl,hH,ha,hy,hd,hj,yes,no,q⟩:=h;cases rx;obtain⟨u,rfl,ru⟩:=rv.one;obtain⟨z,ab,n,r,hl,e⟩:=I.lstM hH;obtain⟨f,k1,k2⟩:=Gj hu I ha r hy ru hd;have aP:j < ab.length:=by rw[←hl,←ha.length];exact(j_.mp hj).1
 refine Qg PySem.F.slot_list_remove ⟨_,e,rfl⟩ PySem.F.entry_list_remove (PySem.F.args_list_remove_2 _ _) (JS l ab.toArray n u f j (by simpa using aP) (by rw[v_];omega) (by
   rw[k2 j _ d (by simp) hj];exact yes) λk hk lW=>?_) ⟨e,λy hy=>k1 y hy,?_⟩
 ·have bA:k < ds.length:=by rw[ha.length,hl];simpa using hk
  rw[k2 k _ ds[k] (by simp) (i_ bA)];exact no k _ lW (i_ bA)
 ·refine⟨.non,_,I.lset (its':=ab.eraseIdx j) hH e ?_ (r.eraseIdx j) ?_,rfl,q⟩
  ·rw[Pg]
  ·have:=vn xs j;omega
end
abbrev FM:=E->FL
def MtE(K:FAa)(CA:Kl)(r:V->List V->Hp->VK->Prop)(F:FM):Prop:=∀o es S e S',F o es S=some (e,S')->∀φ I H x xs Q,Re K CA φ I H S->IsE K φ I o x->IsL K φ I es xs->KE K CA φ I S' e Q->r x xs H Q
noncomputable def onL(F:Nat->List E->FL):FM:=λo es S=>match o with
 | .ref n=>match S[n]? with
  | some (.lst xs)=>F n xs es S
  | _=>none
 | _=>none
def uN{F:Nat->List E->FL}{o:E}{es:List E}{z:E×Sto}(h:onL F o es S=some z):∃n xs,o=.ref n/\S[n]?=some (.lst xs)/\F n xs es S=some z:=by
 unfold onL at h;split at h
 ·split at h
  ·exact⟨_,_,rfl,by assumption,h⟩
  ·cases h
 ·cases h
section
variable {K:FAa}{CA:Kl}
def KE.putL{H:Hp}{p:h_}{es e0:List E}{Q:VK}{e:E}{v:V}(k:KE K CA φ I (S.set n (.lst es)) e Q)(r:Re K CA φ I H S)(hn:φ[n]?=some p)(hS:S[n]?=some (.lst e0))(i:IsL K φ I es xs)(h:IsE K φ I e v):Q v (upd H p (.lst xs)):=
 k.now (r.put (o:=.lst es) hn hS rfl ⟨xs,oK,i⟩) h
def appE:FM:=onL λn xs es S=>match es with
 | [x]=>if xs.length < lim then some (.d .non,S.set n (.lst (xs++[x]))) else none
 | _=>none
def wO(h:n < lim):n < B_:=J_ h (ql (s_ _))
def GS:MtE K CA rAppend appE:=λo es S e S' e1 φ I H x xs Q r ho dL k=>by
 obtain⟨n,ys,rfl,hn,e2⟩:=uN e1;split at e2
 ·obtain⟨hl,e3⟩:=o3 e2;cases e3;obtain⟨y,rfl,hy⟩:=dL.one;obtain⟨p,zs,rfl,hp,h1,h2⟩:=r.lst hn ho;exact⟨p,zs,y,rfl,rfl,h1,by rw[←h2.length];exact wO hl,k.putL r hp hn (h2.append (IsL.cons hy IsL.nil)) (.of Is.non)⟩
 ·cases e2
def extE:FM:=onL λn xs es S=>match es with
 | [.ref m]=>match S[m]? with
  | some (.lst ys)=>if xs.length+ys.length<=lim then some (.d .non,S.set n (.lst (xs++ys))) else none
  | _=>none
 | _=>none
def GN:MtE K CA rExtend extE:=λo es S e S' e1 φ I H x xs Q r ho dL k=>by
 obtain⟨n,ys,rfl,hn,e2⟩:=uN e1;split at e2
 ·split at e2
  ·rename_i m _ us q;obtain⟨hl,e3⟩:=o3 e2;cases e3;obtain⟨y,rfl,hy⟩:=dL.one;obtain⟨p,zs,rfl,hp,h1,h2⟩:=r.lst hn ho;obtain⟨b,ws,rfl,_,h3,h4⟩:=r.lst q hy;exact⟨p,b,zs,ws,rfl,rfl,h1,h3,ql (by rw[←h2.length,←h4.length];exact hl),k.putL r hp hn (h2.append h4) (.of Is.non)⟩
  ·cases e2
 ·cases e2
theorem IsL.erase{φ:List h_}{I:Hp}:∀{es:List E}{xs:List V} (i:Nat),IsL K φ I es xs->IsL K φ I (es.eraseIdx i) (xs.eraseIdx i)
 | [],xs,i,h=>by rw[h.nil_inv];exact IsL.nil
 | e::es,xs,0,h=>by obtain⟨x,r,rfl,_,h2⟩:=h.cons_inv;exact h2
 | e::es,xs,i+1,h=>by obtain⟨x,r,rfl,h1,h2⟩:=h.cons_inv;exact IsL.cons h1 (IsL.erase i h2)
def popAE:FM:=onL λn xs es S=>match es with
 | [.d (.int i)]=>if 0<=i/\i < 1000000 then match xs[i.toNat]? with
   | some x=>some (x,S.set n (.lst (xs.eraseIdx i.toNat)))
   | none=>none
  else none
 | _=>none
def FV:MtE K CA rPopAt popAE:=λo es S e S' e1 φ I H x xs Q r ho dL k=>by
 obtain⟨n,ys,rfl,hn,e2⟩:=uN e1;split at e2
 ·rename_i i;split at e2
  ·rename_i hi;split at e2
   ·rename_i x q;cases e2;obtain⟨y,rfl,hy⟩:=dL.one;obtain⟨p,zs,rfl,hp,h1,h2⟩:=r.lst hn ho;obtain⟨w,h3,h4⟩:=h2.get q;have dM:=(j_.mp h3).1;refine⟨p,zs,i,i.toNat,w,rfl,by rw[oM hy.inv],h1,⋯,⋯,?_,h3,k.putL r hp hn (h2.erase _) h4⟩;have e1:(if i < 0 then i+(zs.length:Int) else i)=i:=if_neg ⋯;have e2:(decide (0<=i)&&decide (i < (zs.length:Int)))=true:=by rw[k_,decide_eq_true_eq,decide_eq_true_eq];omega
    unfold S7;rw[e1];exact if_pos e2
   ·cases e2
  ·cases e2
 ·cases e2
def rmE:FM:=onL λn xs es S=>match es with
 | [x]=>match tos (toD S 9) xs,toD S 9 x with
  | some ds,some a=>match ds.findIdx? λd=>deq d a with
   | some j=>if dep a<=99 then some (.d .non,S.set n (.lst (xs.eraseIdx j))) else none
   | none=>none
  | _,_=>none
 | _=>none
def m_rm:MtE K CA (rRm K) rmE:=λo es S e S' e1 φ I H x xs Q r ho dL k=>by
 obtain⟨n,ys,rfl,hn,e2⟩:=uN e1;split at e2
 ·split at e2
  ·rename_i y _ _ ds a q1 q2;split at e2
   ·rename_i j q3;obtain⟨hd,e3⟩:=o3 e2;cases e3;obtain⟨w,rfl,hy⟩:=dL.one;obtain⟨p,zs,rfl,hp,h1,h2⟩:=r.lst hn ho;obtain⟨hj,yes,no⟩:=List.findIdx?_eq_some_iff_getElem.mp q3;refine⟨p,zs,w,ds,a,j,ds[j],rfl,rfl,h1,sQ (pR r 9) q1 h2,pR r _ _ _ _ q2 hy,hd,i_ hj,yes,λm e hm he=>?_,k.putL r hp hn (h2.erase _) (.of Is.non)⟩;obtain⟨jz,rfl⟩:=j_.mp he;simpa using no m hm
   ·cases e2
  ·cases e2
 ·cases e2
end
theorem Av{α β:Type}(f:α->β):∀(l:List α) (i:Nat),(l.map f).eraseIdx i=(l.eraseIdx i).map f
 | [],_=>rfl
 | _::_,0=>rfl
 | a::l,i+1=>congrArg (f a::·) (Av f l i)
theorem KT.keys{H:Hp}:∀{kvs:List (List Key×V)}{xs:List (List Key×h_×b_)},L2.KT H kvs xs->kvs.map (·.1)=xs.map (·.1)
 | _,_,.nil=>rfl
 | _,_,.cons h t=>by rw[I_,I_,h.1,KT.keys t]
abbrev Kvs:=List (D×E)
def dget(tk:Bool)(kvs:Kvs)(q:List Key):Option E:=(kvs.find? λp=>decide (kD tk p.1=some q)).map (·.2)
def dput(tk:Bool)(kvs:Kvs)(k:D)(q:List Key)(e:E):Kvs:=if(kvs.any λp=>decide (kD tk p.1=some q))=true then kvs.map (λp=>if kD tk p.1=some q then(p.1,e) else p) else kvs++[(k,e)]
section
variable{K:FAa}{CA:Kl}{H:Hp}
section
variable{κ:Type}[DecidableEq κ](f:κ->List Key)(inj:∀a b,f a=f b->a=b)
def KvR(K:FAa)(φ:List h_)(I:Hp)(f:κ->List Key)(tk:Bool)(kvs:Kvs)(xs:List (κ×V)):Prop:=kvs.map (λp=>kD tk p.1)=xs.map (λp=>some (f p.1))/\IsL K φ I (kvs.map (·.2)) (xs.map (·.2))
variable {f}
def KvR.nil_inv{xs:List (κ×V)}(h:KvR K φ I f tk [] xs):xs=[]:=by simpa using h.1.symm
theorem KvR.cons_inv{p:D×E}{kvs:Kvs}{xs:List (κ×V)}(h:KvR K φ I f tk (p::kvs) xs):∃c v r,xs=(c,v)::r/\kD tk p.1=some (f c)/\IsE K φ I p.2 v/\KvR K φ I f tk kvs r:=by
 obtain⟨h1,h2⟩:=h;cases xs with
 | nil=>simp at h1
 | cons x r =>
  simp only[I_,PX] at h1;obtain⟨v,r',e,i1,i2⟩:=h2.cons_inv;obtain⟨rfl,rfl⟩:=e;exact⟨x.1,x.2,r,rfl,h1.1,i1,h1.2,i2⟩
theorem KvR.cons{p:D×E}{kvs:Kvs}{c:κ}{v:V}{r:List (κ×V)}(h1:kD tk p.1=some (f c))(h2:IsE K φ I p.2 v)(h3:KvR K φ I f tk kvs r):KvR K φ I f tk (p::kvs) ((c,v)::r):=
 ⟨by simp[h1,h3.1],IsL.cons h2 h3.2⟩
theorem KvR.nil:KvR K φ I f tk [] ([]:List (κ×V)):=⟨rfl,IsL.nil⟩
include inj
theorem KvR.get(c:κ):∀{kvs:Kvs}{xs:List (κ×V)},KvR K φ I f tk kvs xs->(match dget tk kvs (f c) with
  | some e=>∃w,valV xs c=some w/\IsE K φ I e w
  | none=>valV xs c=none)
 | [],xs,h=>by rw[h.nil_inv];rfl
 | p::kvs,xs,h=>by
  obtain⟨d,v,r,rfl,h1,h2,h3⟩:=h.cons_inv;have ih:=KvR.get c h3;unfold dget;rw[OU];by_cases e:d=c
  ·subst e;rw[decide_eq_true h1];exact⟨v,uy rfl,h2⟩
  ·rw[decide_eq_false (by rw[h1];exact λz=>e (inj _ _ (Mt z))),tV (p:=(d,v)) e];exact ih
theorem KvR.any(c:κ):∀{kvs:Kvs}{xs:List (κ×V)},KvR K φ I f tk kvs xs->(kvs.any λp=>decide (kD tk p.1=some (f c)))=xs.any λp=>decide (p.1=c)
 | [],xs,h=>by rw[h.nil_inv];rfl
 | p::kvs,xs,h=>by
  obtain⟨d,v,r,rfl,h1,h2,h3⟩:=h.cons_inv;rw[OL,OL,KvR.any c h3,h1]
  congr 1
  exact decide_eq_decide.mpr ⟨λz=>inj _ _ (Mt z),λ(z:d=c)=>by rw[z]⟩
theorem KvR.repl(c:κ){e:E}{w:V}(hw:IsE K φ I e w):∀{kvs:Kvs}{xs:List (κ×V)},KvR K φ I f tk kvs xs->KvR K φ I f tk (kvs.map λp=>if kD tk p.1=some (f c) then(p.1,e) else p) (xs.map λp=>if p.1=c then(p.1,w) else p)
 | [],xs,h=>by rw[h.nil_inv];exact KvR.nil
 | p::kvs,xs,h=>by
  obtain⟨d,v,r,rfl,h1,h2,h3⟩:=h.cons_inv;rw[I_,I_];by_cases z:d=c
  ·subst z;rw[if_pos h1,if_pos rfl];exact KvR.cons h1 hw (KvR.repl d hw h3)
  ·rw[if_neg (by rw[h1];exact λy=>z (inj _ _ (Mt y))),if_neg z];exact KvR.cons h1 h2 (KvR.repl c hw h3)
theorem KvR.put{c:κ}{k:D}{e:E}{w:V}{kvs:Kvs}{xs:List (κ×V)}(h:KvR K φ I f tk kvs xs)(hk:kD tk k=some (f c))(hw:IsE K φ I e w):KvR K φ I f tk (dput tk kvs k (f c) e) (putK xs c w):=by
 unfold dput putK;rw[h.any inj c];split
 ·exact h.repl inj c hw
 ·exact⟨by rw[o_,o_,h.1];simp[hk],by rw[o_,o_];exact h.2.append (IsL.cons hw IsL.nil)⟩
omit inj
theorem KvR.len{kvs:Kvs}{xs:List (κ×V)}(h:KvR K φ I f tk kvs xs):kvs.length=xs.length:=by simpa using congrArg length h.1
end
def inj1:∀a b:Key,[a]=[b]->a=b:=λa b h=>by cases h;rfl
def injL:∀a b:List Key,id a=id b->a=b:=λ_ _ h=>h
theorem tJ:∀{k:D}{q:List Key}{y:V},kD false k=some q->Is K I k y->∃c,q=[c]/\y=kV c
 | .int i,q,y,h,i'=>by cases h;exact⟨_,rfl,oM i'⟩
 | .str i,q,y,h,i'=>by cases h;exact⟨_,rfl,pO i'⟩
 | .non,q,y,h,_=>by cases h
 | .bl _,q,y,h,_=>by cases h
 | .tup _,q,y,h,_=>by cases h
 | .lst _,q,y,h,_=>by cases h
theorem yK:∀{ds:List D}{q:List Key}{xs:List V},keysD ds=some q->IsA K I ds xs->xs=q.map kV
 | [],q,xs,h,i=>by cases h;rw[i.nil_inv];rfl
 | d::ds,q,xs,h,i=>by
  obtain⟨x,r,rfl,h1,h2⟩:=i.cons_inv;unfold keysD at h;split at h
  ·rename_i k ks e1 e2;cases h;obtain⟨c,e3,rfl⟩:=tJ (q:=[k]) (by unfold kD;rw[e1];rfl) h1;cases e3;rw[yK e2 h2];rfl
  ·cases h
def zk{k:D}(h:kD true k=some q)(i:Is K I k y):∃b,y=.ref b/\I b=some (.tup (q.map kV)):=by
 cases k with
 | tup ds =>
  obtain⟨a,xs,rfl,h1,h2⟩:=wE i;have:=yK (K:=K) (I:=I) (q:=q) h h2;subst this;exact⟨a,rfl,h1⟩
 | _=>cases h
theorem Re.dct(r:Re K CA φ I H S){kvs:Kvs}{v:V}(h:S[n]?=some (.dct tk lk kvs))(i:IsE K φ I (.ref n) v):∃a,φ[n]?=some a/\v=.ref a ∧
  ((tk=false/\∃xs,Hd lk I H a (.dK xs)/\KvR K φ I (λc:Key=>[c]) false kvs xs)\/(tk=true/\∃xs,Hd lk I H a (.dT xs)/\KvR K φ I (id:List Key->List Key) true kvs xs)):=by
 obtain⟨a,ha,rfl⟩:=i.rf;obtain⟨a',aW,_,ok⟩:=r.cell n _ h;rw[ha] at aW;cases aW;refine⟨a,ha,rfl,?_⟩;cases tk with
 | false=>obtain⟨xs,h1,h2,h3⟩:=ok;exact .inl ⟨rfl,xs,h1,h2,h3⟩
 | true=>obtain⟨xs,h1,h2,h3⟩:=ok;exact .inr ⟨rfl,xs,h1,h2,h3⟩
def Re.dctGet(r:Re K CA φ I H S){kvs:Kvs}{v:V}{k:D}(h:S[n]?=some (.dct tk lk kvs))(i:IsE K φ I (.ref n) v)(hk:kD tk k=some q)(iy:Is K I k y):
  ∃a o,v=.ref a/\DGet H a y o/\(match dget tk kvs q with
   | some e=>∃w,o=some w/\IsE K φ I e w
   | none=>o=none):=by
 obtain⟨a,ha,rfl,hh⟩:=r.dct h i
 rcases hh with⟨rfl,xs,h1,h2⟩ | ⟨rfl,xs,h1,h2⟩
 ·obtain⟨c,rfl,rfl⟩:=tJ hk iy;exact⟨a,valV xs c,rfl,.inl ⟨xs,c,h1.rd,rfl,rfl⟩,h2.get inj1 c⟩
 ·obtain⟨b,rfl,hb⟩:=zk hk iy;exact⟨a,valV xs q,rfl,.inr ⟨xs,q,b,h1.rd,rfl,r.iH _ _ hb,rfl⟩,h2.get injL q⟩
def ixE:F2:=λo i S=>match i with
 | .d (.int k)=>match seqE o S with
  | some xs=>match atI xs k with
   | some e=>some (e,S)
   | none=>none
  | none=>match o with
   | .ref n=>match S[n]? with
    | some (.dct tk _ kvs)=>match kD tk (.int k) with
     | some q=>match dget tk kvs q with
      | some e=>some (e,S)
      | none=>none
     | none=>none
    | _=>none
   | _=>none
 | .d k=>match o with
  | .ref n=>match S[n]? with
   | some (.dct tk _ kvs)=>match kD tk k with
    | some q=>match dget tk kvs q with
     | some e=>some (e,S)
     | none=>none
    | none=>none
   | _=>none
  | _=>none
 | _=>none
def FZ{o i e:E}{S:Sto}(h:ixE o i S=some (e,S')):S'=S/\((∃k xs,i=.d (.int k)/\seqE o S=some xs/\atI xs k=some e)\/(∃k n tk lk kvs q,i=.d k/\o=.ref n/\S[n]?=some (.dct tk lk kvs)/\kD tk k=some q/\dget tk kvs q=some e)):=by
 unfold ixE at h;split at h
 ·split at h
  ·split at h
   ·cases h;exact⟨rfl,.inl ⟨_,_,rfl,by assumption,by assumption⟩⟩
   ·cases h
  ·split at h
   ·split at h
    ·split at h
     ·split at h
      ·cases h;exact⟨rfl,.inr ⟨_,_,_,_,_,_,rfl,rfl,by assumption,by assumption,by assumption⟩⟩
      ·cases h
     ·cases h
    ·cases h
   ·cases h
 ·split at h
  ·split at h
   ·split at h
    ·split at h
     ·cases h;exact⟨rfl,.inr ⟨_,_,_,_,_,_,rfl,rfl,by assumption,by assumption,by assumption⟩⟩
     ·cases h
    ·cases h
   ·cases h
  ·cases h
 ·cases h
def Cw{xs:List E}{ys:List V}{k:Int}{e:E}(h:atI xs k=some e)(i:IsL K φ I xs ys):∃w,atI ys k=some w/\IsE K φ I e w:=by
 unfold atI at h ⊢;rw[←i.length];cases q:ixN xs.length k with
 | none=>rw[q] at h;cases h
 | some j=>rw[q] at h;obtain⟨w,h1,h2⟩:=i.get h;exact⟨w,h1,h2⟩
section
variable{X:Cx}{a b:y_}{ma mb:MM E}
def PE.or{e:y_}{t t1 t2:TE}(h1:PE X e t1)(h2:PE X e t2)(h:∀B H Q,t B H Q->t1 B H Q\/t2 B H Q):PE X e t:=λaa s B H Q I q=>(h B H Q q).elim (λz=>h1 aa s B H Q I z) λz=>h2 aa s B H Q I z
def yC(h:noSl b=true):PlainIx b:=by
 intro o i;cases b<;>first | rfl | cases h
def JP(hu:X.A.units+100 < Ni)(ha:EE X CA a ma)(hb:EE X CA b mb)(hn:noSl b=true):EE X CA (.Subscript a b pos) (o2 ixE ma mb):=
 PE.or (IM (LU.or CF) ha hb (yC hn)) (ER ⋯ ha hb (yC hn)) λB H Q q=>by
  tm_at"j";obtain⟨d2,S2,e4,e5⟩:=oG e3;obtain⟨rfl,h | h⟩:=FZ (show ixE d1 d2 S2=some (e,S') from e5)
  ·obtain⟨j,xs,rfl,hs,cH⟩:=h;refine .inl ⟨φ,I,ν,S,d1,S1,r,n,e2,λv H1 af I1 r1 u1 h1=>⟨af,I1,ν,S1,_,S',r1,n.mono u1,e4,λy H2 ao I2 r2 u2 h2=>?_⟩⟩;obtain⟨p,ys,rfl,h3,h4⟩:=r2.seq hs (h1.mono u2);obtain⟨w,h5,h6⟩:=Cw cH h4;have hk:=(k.after (u1.trans u2)).now r2 h6
   rcases h3 with h3 | h3
   ·exact .inl ⟨p,ys,j,w,rfl,oM h2.inv,(RdK.of h3).sq,h5,hk⟩
   ·exact .inr ⟨p,ys,j,w,rfl,oM h2.inv,SqT.of h3,h5,hk⟩
  ·obtain⟨x,m,tk,lk,kvs,q,rfl,rfl,hm,hq,hg⟩:=h;refine .inr ⟨φ,I,ν,S,_,S1,r,n,e2,λv H1 af I1 r1 u1 h1=>⟨af,I1,ν,S1,_,S',r1,n.mono u1,e4,λy H2 ao I2 r2 u2 h2=>?_⟩⟩;obtain⟨p,o,rfl,g1,g2⟩:=r2.dctGet hm (h1.mono u2) hq h2.inv;rw[hg] at g2;obtain⟨w,rfl,h6⟩:=g2;exact⟨p,w,rfl,g1,(k.after (u1.trans u2)).now r2 h6⟩
def inE(neg:Bool):F2:=inS neg
def setE:F3:=λo i v S=>match o with
 | .ref n=>match S[n]? with
  | some (.lst xs)=>match i with
   | .d (.int k)=>match ixN xs.length k with
    | some j=>some (S.set n (.lst (xs.set j v)))
    | none=>none
   | _=>none
  | some (.dct tk false kvs)=>match i with
   | .d k=>match kD tk k with
    | some q=>if kvs.length < lim then some (S.set n (.dct tk false (dput tk kvs k q v))) else none
    | none=>none
   | _=>none
  | _=>none
 | _=>none
def L5(hu:X.A.units+100 < Ni):PSet X (λo i v H Q=>rSetL o i v H Q\/∃a H',o=.ref a/\DPut H a i v H'/\Q H'):=by
 intro aa s B H o i v ov iv u Q I ro ri rv h
 rcases h with h | ⟨a,H',rfl,g,q⟩
 ·exact KR aa s B H o i v ov iv u Q I ro ri rv h
 ·cases ro;exact Cs ⋯ I g ri rv λs' I'=>⟨H',I',q⟩
def Ci:SetE K CA (λo i v H Q=>rSetL o i v H Q\/∃a H',o=.ref a/\DPut H a i v H'/\Q H') setE:=λo i v S S' e1 φ I H x y z Q r hx hy hz k=>by
 unfold setE at e1;split at e1
 ·rename_i n;split at e1
  ·rename_i xs hn;split at e1
   ·split at e1
    ·rename_i j hj;cases e1;obtain⟨p,ys,rfl,hp,h1,h2⟩:=r.lst hn hx;exact .inl ⟨p,ys,_,j,rfl,oM hy.inv,h1,by rw[←h2.length];exact hj,k _ (r.put (o:=.lst _) hp hn rfl ⟨_,oK,h2.set j hz⟩)⟩
    ·cases e1
   ·cases e1
  ·rename_i tk kvs hn;split at e1
   ·split at e1
    ·rename_i kk _ q hq;obtain⟨hl,e2⟩:=o3 e1;cases e2;obtain⟨p,hp,rfl,hh⟩:=r.dct hn hx;refine .inr ?_
     rcases hh with⟨rfl,xs,h1,h2⟩ | ⟨rfl,xs,h1,h2⟩
     ·obtain⟨c,rfl,rfl⟩:=tJ hq hy.inv;have:=h2.put inj1 (c:=c) hq hz;exact⟨p,_,rfl,.inl ⟨xs,c,h1,rfl,by rw[←h2.len];exact wO hl,rfl⟩,k _ (r.put (o:=.dct false false _) hp hn rfl ⟨_,(oK:_),this.1,this.2⟩)⟩
     ·obtain⟨b,rfl,hb⟩:=zk hq hy.inv;have:=h2.put injL (c:=q) hq hz;exact⟨p,_,rfl,.inr ⟨xs,q,b,h1,rfl,r.iH _ _ hb,by rw[←h2.len];exact wO hl,rfl⟩,k _ (r.put (o:=.dct true false _) hp hn rfl ⟨_,(oK:_),this.1,this.2⟩)⟩
    ·cases e1
   ·cases e1
  ·cases e1
 ·cases e1
def newD(tk:Bool):MM E:=lif λS=>some (.ref S.length,S++[.dct tk false []])
def LJ:EE X CA (.Dict [] [] pos) (newD false):=PE.imp HP λB H Q q=>by
 tm_at"b";cases e1;intro p hp;obtain⟨r2,u2⟩:=r.new (p:=p) (H':=upd H p (.dK [])) hp (pW hp _) ⟨_,oK⟩ (o:=.dct false false []) ⟨[],(oK:_),rfl,IsL.nil⟩;exact k _ _ _ _ r2 u2 (.mkRf (by rw[←r.len];simp))
def Ex:EE X CA (.Dict [] [] pos) (newD true):=PE.imp DU λB H Q q=>by
 tm_at"b";cases e1;intro p hp;obtain⟨r2,u2⟩:=r.new (p:=p) (H':=upd H p (.dT [])) hp (pW hp _) ⟨_,oK⟩ (o:=.dct true false []) ⟨[],(oK:_),rfl,IsL.nil⟩;exact k _ _ _ _ r2 u2 (.mkRf (by rw[←r.len];simp))
end
end
def cutE(xs:List E)(lo hi:Option Int):List E:=(xs.drop (HT.sIx xs.length 0 lo)).take (HT.sIx xs.length xs.length hi - HT.sIx xs.length 0 lo)
section
variable{K:FAa}{CA:Kl}{H:Hp}
def vf{es:List E}{lo:Option Int}(h:IsL K φ I es xs):IsL K φ I (cutE es lo hi) (cutV xs lo hi):=by
 unfold cutE cutV;rw[←h.length];exact(h.drop _).take _
def slE(o:E)(lo hi:Option Int)(S:Sto):Option (E×Sto):=match o with
 | .ref n=>match S[n]? with
  | some (.lst xs)=>some (.ref S.length,S++[.lst (cutE xs lo hi)])
  | _=>none
 | .d (.lst ds)=>some (.ref S.length,S++[.lst (cutE (ds.map .d) lo hi)])
 | _=>match unT o with
  | some xs=>if HT.sIx xs.length 0 lo=0/\HT.sIx xs.length xs.length hi=xs.length then none else some (mkT (cutE xs lo hi),S)
  | none=>none
inductive ye(K:FAa)(CA:Kl)(m:MM (Option Int))(B:L2.St)(H:Hp)(Q:Option Int->Hp->Prop):Prop | mk (φ:List h_) (I:Hp) (ν:Nms) (S:Sto) (e:Option Int) (S':Sto):Re K CA φ I H S->Nk K φ I ν B->m ν S=some (e,S')->(∀H' al I',Re K CA al I' H' S'->Up φ I al I'->Q e H')->ye K CA m B H Q
def asI(e:E):MM (Option Int):=λ_ S=>match e with
 | .d (.int i)=>some (some i,S)
 | _=>none
def prt(m:MM E):MM (Option Int):=bd m asI
section
variable{X:Cx}{a:y_}{p2:Pos}{ma:MM E}{ml mh:MM (Option Int)}{lo hi:Option y_}
abbrev sC(X:Cx)(CA:Kl)(e:Option y_)(m:MM (Option Int)):Prop:=PO X e (ye X.K CA m)
def PO.imp{e:Option y_}{t t':TO}(h:PO X e t)(f:∀B H Q,t' B H Q->t B H Q):PO X e t':=λaa s B H Q I q=>h aa s B H Q I (f B H Q q)
def LX:sC X CA none (pur none):=PO.imp JA λB H Q q=>by
 tm_at"b";cases e1;exact k _ _ _ r (Up.refl _ _)
def DW(ha:EE X CA a ma):sC X CA (some a) (prt ma):=PO.imp (K1 ha) λB H Q q=>by
 tm_at"b";obtain⟨d,S1,e2,e3⟩:=oG e1;unfold asI at e3;split at e3
 ·cases e3;exact⟨φ,I,ν,S,_,_,r,n,e2,λv H1 af I1 r1 u1 h1=>⟨_,oM h1.inv,k _ _ _ r1 u1⟩⟩
 ·cases e3
def sl3(ma:MM E)(ml mh:MM (Option Int)):MM E:=bd ma λo=>bd ml λl=>bd mh λh=>lif (slE o l h)
def Lg(ha:EE X CA a ma)(hl:sC X CA lo ml)(hh:sC X CA hi mh):EE X CA (.Subscript a (.Slice lo hi none p2) pos) (sl3 ma ml mh):=PE.imp (G' (SlR.or Iw JY) ha hl hh) λB H Q q=>by
 tm_at"b";obtain⟨o,S1,e2,e3⟩:=oG e1;obtain⟨l,S2,e4,e5⟩:=oG e3;obtain⟨h,S3,e6,e7⟩:=oG e5;refine⟨φ,I,ν,S,o,S1,r,n,e2,λv H1 af I1 r1 u1 h1=>⟨af,I1,ν,S1,l,S2,r1,n.mono u1,e4,λH2 ao I2 r2 u2=>⟨ao,I2,ν,S2,h,S3,r2,n.mono (u1.trans u2),e6,λH3 bw I3 r3 u3=>?_⟩⟩⟩;have h3:=h1.mono (u2.trans u3);have k3:=k.after (u1.trans (u2.trans u3));have e8:slE o l h S3=some (e,S'):=e7;unfold slE at e8;split at e8
 ·split at e8
  ·rename_i m _ xs hm;cases e8;obtain⟨p,ys,rfl,_,g1,g2⟩:=r3.lst hm h3;exact .inl ⟨p,ys,rfl,(RdK.of g1).sq,λq hq=>k3.newL r3 (vf g2) hq⟩
  ·cases e8
 ·cases e8;obtain⟨p,ys,rfl,g1,g2⟩:=pz (h3.inv.mono r3.iH);obtain⟨p',lX,e9,g3,g4⟩:=pz h3.inv;cases e9;exact .inl ⟨p,lX,rfl,(Same.rdK r3.iH g3).sq,λq hq=>k3.newL r3 (vf (pP.mpr g4)) hq⟩
 ·split at e8
  ·rename_i xs q;split at e8
   ·cases e8
   ·rename_i nw;cases e8;obtain⟨p,ys,rfl,g1,g2⟩:=qC q h3;refine .inr ⟨p,ys,rfl,SqT.of (r3.iH _ _ g1),by rw[←g2.length];exact nw,λq hq=>?_⟩;obtain⟨r4,u4⟩:=r3.tup hq (cutV ys l h);exact k3 _ _ _ _ r4 u4 (qk oK ((vf g2).mono u4))
  ·cases e8
end
def prsM:List (MM E×MM E)->MM (List (E×E))
 | []=>pur []
 | (a,b)::r=>bd a λx=>bd b λy=>bd (prsM r) λps=>pur ((x,y)::ps)
def IsP(K:FAa)(φ:List h_)(I:Hp)(ps:List (E×E))(vs:List (V×V)):Prop:=IsL K φ I (ps.map (·.1)) (vs.map (·.1))/\IsL K φ I (ps.map (·.2)) (vs.map (·.2))
theorem AN:∀(ms:List (MM E×MM E)) (φ:List h_) (I:Hp) (ν:Nms) (S:Sto) (ps:List (E×E)) (S':Sto) (B:L2.St) (H:Hp) (Q:List (V×V)->Hp->Prop),Re K CA φ I H S->Nk K φ I ν B->prsM ms ν S=some (ps,S') →
  (∀vs H' al I',Re K CA al I' H' S'->Up φ I al I'->IsP K al I' ps vs->Q vs H')->tPairs (ms.map λp=>(tE K CA p.1,tE K CA p.2)) B H Q
 | [],φ,I,ν,S,ps,S',B,H,Q,r,n,e,k=>by cases e;exact k [] H φ I r (Up.refl _ _) ⟨IsL.nil,IsL.nil⟩
 | (a,b)::ms,φ,I,ν,S,ps,S',B,H,Q,r,n,e,k=>by
  obtain⟨x,S1,e1,e2⟩:=oG e;obtain⟨y,S2,e3,e4⟩:=oG e2;obtain⟨qs,S3,e5,e6⟩:=oG e4;cases e6;refine⟨φ,I,ν,S,x,S1,r,n,e1,λv H1 af I1 r1 u1 h1=>⟨af,I1,ν,S1,y,S2,r1,n.mono u1,e3,λw H2 ao I2 r2 u2 h2=>AN ms ao I2 ν S2 qs _ B H2 _ r2 (n.mono (u1.trans u2)) e5 λvs H3 bw I3 r3 u3 h3=>k _ _ _ _ r3 (u1.trans (u2.trans u3)) ⟨IsL.cons (h1.mono (u2.trans u3)) h3.1,IsL.cons (h2.mono u3) h3.2⟩⟩⟩
def mrg:Kvs->List (E×E)->Option Kvs
 | ac,[]=>some ac
 | ac,(.d k,v)::r=>match kD false k with
  | some q=>mrg (dput false ac k q v) r
  | none=>none
 | _,_::_=>none
theorem zN:∀{ps:List (E×E)}{ac kvs:Kvs}{vs:List (V×V)}{xs:List (Key×V)},mrg ac ps=some kvs->IsP K φ I ps vs->KvR K φ I (λc:Key=>[c]) false ac xs →
  ∃ks:List (Key×V),vs=ks.map (λkv=>(kV kv.1,kv.2))/\KvR K φ I (λc:Key=>[c]) false kvs (mergeK xs ks)
 | [],ac,kvs,vs,xs,h,i,a=>by
  cases h;have:vs=[]:=by simpa using i.1.nil_inv
  subst this;exact⟨[],rfl,a⟩
 | (.d k,v)::r,ac,kvs,vs,xs,h,i,a=>by
  rw[mrg] at h;split at h
  ·rename_i q hq;obtain⟨i1,i2⟩:=i;obtain⟨y,ys,e1,f1,f2⟩:=i1.cons_inv;obtain⟨z,zs,e2,g1,g2⟩:=i2.cons_inv;cases vs with
   | nil=>cases e1
   | cons p vs =>
    obtain⟨rfl,rfl⟩:=e1;obtain⟨rfl,rfl⟩:=e2;obtain⟨c,rfl,hy⟩:=tJ hq f1.inv;obtain⟨ks,e3,e4⟩:=zN h ⟨f2,g2⟩ (a.put inj1 (c:=c) hq g1);exact⟨(c,p.2)::ks,by rw[e3,I_,←hy],e4⟩
  ·cases h
 | (.ref _,_)::_,_,_,_,_,h,_,_=>by cases h
 | (.tup _,_)::_,_,_,_,_,h,_,_=>by cases h
def dispE(ms:List (MM E×MM E)):MM E:=λν S=>match prsM ms ν (S++[.dct false false []]) with
 | some (ps,S')=>match S'[S.length]? with
  | some (.dct false false [])=>match mrg [] ps with
   | some kvs=>if ps.length<=15 then some (.ref S.length,S'.set S.length (.dct false false kvs)) else none
   | none=>none
  | _=>none
 | none=>none
def Cz{X:Cx}{keys:List (Option y_)}(h:PPs X pos keys aO (ms.map λp=>(tE X.K CA p.1,tE X.K CA p.2)))(cP:keys.all (·.isSome)=true)(hl:keys.length=aO.length)(h0:keys≠[])(gW:keys.length<=15):
  EE X CA (.Dict keys aO pos) (dispE ms):=PE.imp (K' h cP hl h0 gW) λB H Q q=>by
 tm_at"b";intro p hp;unfold dispE at e1;split at e1
 ·rename_i ps S1 e2;split at e1
  ·rename_i hS;split at e1
   ·rename_i kvs hk;split at e1
    ·rename_i hl;cases e1;obtain⟨r2,u2⟩:=r.new (p:=p) (H':=upd H p (.dK [])) hp (pW hp _) ⟨_,oK⟩ (o:=.dct false false []) ⟨[],(oK:_),rfl,IsL.nil⟩;have gV:(φ++[p])[S.length]?=some p:=by rw[←r.len];simp
     refine AN ms _ _ ν _ ps S1 B _ _ r2 (n.mono u2) e2 λvs H' al I' r3 u3 h3=>?_
     have dN:=u3.get gV;obtain⟨a,ha,_,hh⟩:=r3.dct hS (.mkRf dN);rw[dN] at ha;cases ha
     rcases hh with⟨_,xs,g1,g2⟩ | ⟨z,_⟩
     ·have:xs=[]:=g2.nil_inv;subst this;obtain⟨ks,rfl,e5⟩:=zN hk h3 KvR.nil;have nV:ks.length=ps.length:=by have:=h3.1.length;simpa using this.symm
      exact⟨g1,ks,rfl,⋯,k _ _ _ _ (r3.put (o:=.dct false false kvs) dN hS rfl ⟨_,(oK:_),e5.1,e5.2⟩) (u2.trans u3) (.mkRf dN)⟩
     ·cases z
    ·cases e1
   ·cases e1
  ·cases e1
 ·cases e1
end
end EV
variable{it:EV.MM EV.Itn}{src:EV.Src}
namespace DL
open PySem PySem.Spec PyProof.Rows L2
section
variable {prog:E_}{w:Mo}{A:Mn}{E:b_->e_->Prop}{s:e_}{k k':Kd}
def Br(ok:KdOk k)(aC:KdOk k'){z ta bi p q u v:h_}{m:Nat}{xs ys:Array b_}{c0 c1:b_}{Q:PySem.Fin->e_->Prop}(D:ZipApart z ta bi p q u v)(Z:Tr s.heap z ta bi .none)(Ta:Pe s.heap ta (.ref p) (.ref q))(To:Pe s.heap bi c0 c1)(P:k.it s.heap p u m)(P':k'.it s.heap q v n)(U:k.sq s.heap u xs)(U':k'.sq s.heap v ys)(gD:∀x y,xs[m]?=some x->ys[n]?=some y->∀g:Mr,g.objs.size=s.heap.objs.size+1/\Pe g s.heap.objs.size x y->Tr g z ta bi (Qd s.heap.objs.size)->Pe g bi x y->k.it g p u (m+1)/\k'.it g q v (n+1) →
   (∀c o,(c≠z/\c≠bi/\c≠p/\c≠q)->s.heap.get? c=some o->g.get? c=some o)->Q (.done (.ret (.ref s.heap.objs.size))) { s with heap:=g })(gK:(xs[m]?=none\/ys[n]?=none)->A.handled=none/\∀(g:Mr) (x:h_),(∀c o,(c≠z/\c≠bi/\c≠p/\c≠q)->s.heap.get? c=some o->g.get? c=some o)->(∃o,g.get? x=some o/\o.cls=.type "StopIteration")->E (.ref x) { s with heap:=g }):
  u_ (t_ prog w) A (NE.«zip.__next__» ⟨[.ref z],[]⟩) Q E s:=by
 refine a_ (NH (a:=(b_.ref z,[])) rfl (a_ (NZ (i:=2) Z rfl (x:=.bool false) rfl (a_ (NZ (i:=3) Z rfl (x:=.ref ta) rfl (a_ (NA Ta rfl ?_)))))));refine a_ (m:=NE.SmallTypes.ownedTupleIsFree (.ref z)) (a_ (NZ (i:=0) Z rfl (x:=.none) rfl (d_ ?_)));refine a_ (Pr (a_ (NZ (i:=4) Z rfl (x:=.ref bi) rfl (a_ (OX Z (by simp) λg1 Z1 b1=>?_)))))
 have gY:∀(g:Mr) (x:h_),Tr g z ta bi .ellipsis->(∃o,g.get? x=some o/\o.cls=.type "StopIteration")->(∀g':Mr,Mr.SameBut z g g'->(∃o,g'.get? x=some o/\o.cls=.type "StopIteration")->E (.ref x) { s with heap:=g' }) →
   u_ (t_ prog w) A (setField (.ref z) 0 .none) (λ_ s'=>E (.ref x) s') E { s with heap:=g }:=λg x Zg is kk=>by
  obtain⟨o,e1,e2⟩:=is;refine OX Zg (by simp) λg' _ b'=>kk g' b' ⟨o,b'.extBut _ _ (λsame=>?_) e1,e2⟩
  rw[same,Zg] at e1;cases e1;simp at e2
 have f1:∀c o,c≠z->s.heap.get? c=some o->g1.get? c=some o:=λc o ne e=>b1.extBut _ _ ne e
 refine a_ ?_;rw[List.zipIdx_cons,List.zipIdx_cons,List.zipIdx_nil,OV];refine a_ (a_ (wpAny_onRaise (a_ (m:=T_ (.ref p)) ?_)));have P1:=ok.itAt P λo e=>f1 _ o D.i1z e
 have U1:=ok.sqAt U λo e=>f1 _ o D.l1z e
 cases hx:xs[m]? with
 | none =>
  obtain⟨hh,out⟩:=gK (.inl hx);exact ok.stop hh P1 U1 hx λg2 x b2 is=>gY g2 x (b2 _ _ D.i1z.symm Z1) is λg' b' dD=>out g' x (λc o ne e=>b'.extBut _ _ ne.1 (b2 _ _ ne.2.2.1 (f1 c o ne.1 e))) dD
 | some x =>
  refine ok.item P1 U1 hx λg2 P2 b2=>d_ ?_
  have jJ:Pe g2 bi c0 c1:=b2.extBut _ _ D.TOi1 (f1 _ _ D.TOz To);refine a_ (NA jJ rfl (a_ (RM jJ λg3 lY b3=>a_ (Py (d_ ?_)))));have f3:∀c o,c≠bi->c≠p->g1.get? c=some o->g3.get? c=some o:=λc o n1 n2 e=>b3.extBut _ _ n1 (b2.extBut _ _ n2 e)
  have Z3:Tr g3 z ta bi .ellipsis:=f3 _ _ D.TOz.symm D.i1z.symm Z1;dsimp only;rw[OV];refine a_ (a_ (wpAny_onRaise (a_ (m:=T_ (.ref q)) ?_)));have Q3:=aC.itAt P' λo e=>f3 _ o D.TOi2.symm D.i12.symm (f1 _ o D.i2z e)
  have V3:=aC.sqAt U' λo e=>f3 _ o D.l2TO D.l2i1 (f1 _ o D.l2z e)
  cases hy:ys[n]? with
  | none =>
   obtain⟨hh,out⟩:=gK (.inr hy);exact aC.stop hh Q3 V3 hy λg4 x b4 is=>gY g4 x (b4 _ _ D.i2z.symm Z3) is λg' b' dD=>out g' x (λc o ne e=>b'.extBut _ _ ne.1 (b4 _ _ ne.2.2.2 (f3 c o ne.2.1 ne.2.2.1 (f1 c o ne.1 e)))) dD
  | some y =>
   refine aC.item Q3 V3 hy λg4 Q4 b4=>d_ ?_
   have jK:Pe g4 bi x c1:=b4.extBut _ _ D.TOi2 lY;refine a_ (NA jK rfl (a_ (RM jK λg5 f9 b5=>a_ (Py (d_ ?_)))));replace f9:Pe g5 bi x y:=f9;have f5:∀c o,c≠bi->c≠q->g3.get? c=some o->g5.get? c=some o:=λc o n1 n2 e=>b5.extBut _ _ n1 (b4.extBut _ _ n2 e)
   dsimp only;refine d_ (a_ (NA f9 rfl (a_ (wpAny_newTuple ?_))));have same:g5.objs.size=s.heap.objs.size:=b5.1.trans (b4.1.trans (b3.1.trans (b2.1.trans b1.1)));have Z5:Tr g5 z ta bi .ellipsis:=f5 _ _ D.TOz.symm D.i2z.symm Z3;have jL:g5.objs.size≠z:=O8 (Mq Z5);have Z6:Tr (g5.push { cls:=.type "tuple", data:=.seq #[x,y] }) z ta bi .ellipsis:=f_ _ Z5;refine a_ (m:=NE.SmallTypes.ownedTupleHandOut (.ref z) (.ref g5.objs.size)) (a_ (OX Z6 (by simp) λg7 Z7 b7=>?_));refine OX Z7 (by simp) λg8 Z8 b8=>d_ ?_
   have f8:∀c o,c≠z->g5.get? c=some o->g8.get? c=some o:=λc o ne e=>b8.extBut _ _ ne (b7.extBut _ _ ne (f_ _ e))
   have T8:Pe g8 g5.objs.size x y:=b8.extBut _ _ jL (b7.extBut _ _ jL (r_ _ rfl));have fv:g8.objs.size=g5.objs.size+1:=b8.1.trans (b7.1.trans (Na ..));show Q (.done (.ret (.ref g5.objs.size))) { s with heap:=g8 };rw[same] at Z8 T8 fv ⊢
   exact gD x y hx hy g8 ⟨fv,T8⟩ Z8 (f8 _ _ D.TOz f9) ⟨ok.itAt P2 λo e=>f8 _ o D.i1z (f5 _ o D.TOi1.symm D.i12 (b3.extBut _ _ D.TOi1.symm e)),aC.itAt Q4 λo e=>f8 _ o D.i2z (b5.extBut _ _ D.TOi2.symm e)⟩
    λc o ne e=>f8 c o ne.1 (f5 c o ne.2.1 ne.2.2.2 (f3 c o ne.2.1 ne.2.2.1 (f1 c o ne.1 e)))
abbrev zm1(k:Kd)(h:Mr)(l1:h_):Mr:=h.push { cls:=.type k.nm,data:=.fields #[.ref l1,.int 0 0] }
abbrev zm2(k k':Kd)(h:Mr)(l1 l2:h_):Mr:=(zm1 k h l1).push { cls:=.type k'.nm,data:=.fields #[.ref l2,.int 0 0] }
abbrev zm3(k k':Kd)(h:Mr)(l1 l2:h_):Mr:=(zm2 k k' h l1 l2).push { cls:=.type "tuple", data:=.seq #[.ref h.objs.size,.ref (zm1 k h l1).objs.size] }
abbrev zm4(k k':Kd)(h:Mr)(l1 l2:h_):Mr:=(zm3 k k' h l1 l2).push { cls:=.type "tuple", data:=.seq #[.none,.none] }
abbrev zm5(k k':Kd)(h:Mr)(l1 l2:h_):Mr:=(zm4 k k' h l1 l2).push { cls:=.type "zip", data:=.fields #[.none,.bool false,.bool false,.ref (zm2 k k' h l1 l2).objs.size,.ref (zm3 k k' h l1 l2).objs.size] }
def Lz(ok:KdOk k)(aC:KdOk k')(l1 l2:h_)(xs ys:Array b_):
  Uf (NE.«zip.__new__» ⟨[.type "zip", .ref l1,.ref l2],[]⟩) (λ_ R s=>k.sq s.heap l1 xs/\k'.sq s.heap l2 ys ∧
   ∀h',Tr h' (s.heap.objs.size+4) (s.heap.objs.size+2) (s.heap.objs.size+3) .none->Pe h' (s.heap.objs.size+2) (.ref s.heap.objs.size) (.ref (s.heap.objs.size+1)) →
    Pe h' (s.heap.objs.size+3) .none .none->k.it h' s.heap.objs.size l1 0->k'.it h' (s.heap.objs.size+1) l2 0->(∀c o,s.heap.get? c=some o->h'.get? c=some o)->R (.ok (.ret (.ref (s.heap.objs.size+4)))) { s with heap:=h' }):=
 .of_wp λprog w A R s h=>by
  obtain⟨hp,gn,dw,tk,os⟩:=s;obtain⟨cE,d8,h⟩:=h;have eS:=sub_zip;have lZ:k.sq (e_.heap ⟨hp,gn,dw,tk,os⟩) l1 xs:=cE;have l7:k'.sq (e_.heap ⟨zm1 k hp l1,gn,dw,tk,os⟩) l2 ys:=aC.sqAt d8 λo e=>f_ _ e
  wp_walk using ok.iter lZ,aC.iter l7
  refine⟨_,rfl,?_⟩;have z1:(zm1 k hp l1).objs.size=hp.objs.size+1:=Na ..;have z2:(zm2 k k' hp l1 l2).objs.size=hp.objs.size+2:=by rw[Na,z1]
  have z3:(zm3 k k' hp l1 l2).objs.size=hp.objs.size+3:=by rw[Na,z2]
  have z4:(zm4 k k' hp l1 l2).objs.size=hp.objs.size+4:=by rw[Na,z3]
  have g5:(zm5 k k' hp l1 l2).get? (zm4 k k' hp l1 l2).objs.size=some { cls:=.type "zip", data:=.fields #[.none,.bool false,.bool false,.ref (zm2 k k' hp l1 l2).objs.size,.ref (zm3 k k' hp l1 l2).objs.size] }:=r_ _ rfl;have g4:(zm5 k k' hp l1 l2).get? (zm3 k k' hp l1 l2).objs.size=some { cls:=.type "tuple", data:=.seq #[.none,.none] }:=f_ _ (r_ _ rfl);have g3:(zm5 k k' hp l1 l2).get? (zm2 k k' hp l1 l2).objs.size=some { cls:=.type "tuple", data:=.seq #[.ref hp.objs.size,.ref (zm1 k hp l1).objs.size] }:=f_ _ (f_ _ (r_ _ rfl));have n2:k'.it (zm2 k k' hp l1 l2) (zm1 k hp l1).objs.size l2 0:=aC.new;have n1:k.it (zm1 k hp l1) hp.objs.size l1 0:=ok.new;have i2:k'.it (zm5 k k' hp l1 l2) (zm1 k hp l1).objs.size l2 0:=aC.itAt n2 λo e=>f_ _ (f_ _ (f_ _ e))
  have i1:k.it (zm5 k k' hp l1 l2) hp.objs.size l1 0:=ok.itAt n1 λo e=>f_ _ (f_ _ (f_ _ (f_ _ e)))
  show R (.ok (.ret (.ref (zm4 k k' hp l1 l2).objs.size))) { heap:=zm5 k k' hp l1 l2,gens:=gn,drawn:=dw,toks:=tk,os:=os };rw[z2,z3,z4] at g5;rw[z1,z2] at g3;rw[z3] at g4;rw[z1] at i2;rw[z4];exact h (zm5 k k' hp l1 l2) g5 g3 g4 i1 i2 λc o e=>f_ _ (f_ _ (f_ _ (f_ _ (f_ _ e))))
theorem DH(ok:KdOk k)(aC:KdOk k'){xs ys:Array b_}{Q:b_->e_->Prop}(cE:k.sq s.heap l1 xs)(d8:k'.sq s.heap l2 ys)(made:∀n h',n=s.heap.objs.size->Tr h' (n+4) (n+2) (n+3) .none->Pe h' (n+2) (.ref n) (.ref (n+1))->Pe h' (n+3) .none .none->k.it h' n l1 0->k'.it h' (n+1) l2 0->(∀c o,s.heap.get? c=some o->h'.get? c=some o)->Q (.ref (n+4)) { s with heap:=h' }):
  u_ (t_ prog w) A (call (type "zip") ([l1,l2].map b_.ref)) Q E s:=
 callType_new F.called_zip (by decide) (F.typeCall_zip_2 _ _) (F.newCall_zip_2 _ _) (λobj=>F.args_object_init_3 obj _ _) F.entry_zip_new (Lz ok aC l1 l2 xs ys) ⟨cE,d8,λh' b1 b2 b3 b4 b5 b6=>⟨⟨_,b1,rfl⟩,made _ h' rfl b1 b2 b3 b4 b5 b6⟩⟩
end
section
variable {X:Cx}{k k':Kd}
def ItM(rd cw:Hp->h_->List V->Prop)(l1 l2:h_):It:=
 ⟨λi H=>∃xs ys x y,rd H l1 xs/\cw H l2 ys/\xs[i]?=some x/\ys[i]?=some y,
  λi H v H'=>∃p x y,H p=none/\v=.ref p/\H'=upd H p (.tup [x,y])/\(∀xs,rd H l1 xs->xs[i]?=some x)/\(∀ys,cw H l2 ys->ys[i]?=some y),
  λi H=>∃xs ys,rd H l1 xs/\cw H l2 ys/\(xs.length<=i\/ys.length<=i)⟩
theorem Fp{P:E_}{w:Mo}{K:FAa}{tp:Pos}{rd cw:Hp->h_->List V->Prop}(ok:KdOk k)(aC:KdOk k')(kr:KdRd K k rd)(ez:KdRd K k' cw){z TI TO i1 i2:h_}(D:ZipApart z TI TO i1 i2 l1 l2):
  Turn P w K (.Tuple aE x1 tp) (ItM rd cw l1 l2) [z,TI,TO,i1,i2] z (λi h=>Tr h z TI TO .none/\Pe h TI (.ref i1) (.ref i2)/\(∃a b,Pe h TO a b)/\k.it h i1 l1 i/\k'.it h i2 l2 i) where
 mem:=by simp
 obj:=λi h st b hb=>by
  obtain⟨a1,a2,⟨x,y,a3⟩,a4,a5⟩:=st;rw[x_,x_,x_,x_,m_] at hb
  rcases hb with rfl | rfl | rfl | rfl | rfl
  ·exact⟨_,a1,λv q=>by cases(show RA _=QX v from q)⟩
  ·exact⟨_,a2,λv q=>by cases(show seq _ _=QX v from q)⟩
  ·exact⟨_,a3,λv q=>by cases(show seq _ _=QX v from q)⟩
  ·exact ok.itObj a4
  ·exact aC.itObj a5
 keep:=λi h h' st kk=>by
  obtain⟨a1,a2,⟨x,y,a3⟩,a4,a5⟩:=st;exact⟨kk _ (by simp) _ a1,kk _ (by simp) _ a2,⟨x,y,kk _ (by simp) _ a3⟩,ok.itAt a4 λo e=>kk _ (by simp) o e,aC.itAt a5 λo e=>kk _ (by simp) o e⟩
 item:=by
  tm_at"e";obtain⟨a1,a2,⟨av,bv,a3⟩,a4,a5⟩:=st;obtain⟨xs,ys,x,y,g1,g2,g3,g4⟩:=hg;obtain⟨ab,r1,t1⟩:=kr.of hK I g1;obtain⟨aQ,r2,t2⟩:=ez.of hK I g2;obtain⟨u1,e1,e2⟩:=r1.get g3;obtain⟨u2,e3,e4⟩:=r2.get g4;have hT:s.TypeIs (.ref z) "zip":=⟨_,a1,rfl⟩;refine a_ (OM (MU (name:=Qf "__next__") hT PY (MI PY hT F.entry_zip_next (Br ok aC D a1 a2 a3 a4 a5 t1 t2 ?_ ?_) (SO _))))
  case refine_2 =>
   intro non;have f1:ab.toArray[i]?=some u1:=by simpa using e1
   have f2:aQ.toArray[i]?=some u2:=by simpa using e3
   rw[f1,f2] at non
   rcases non with non | non<;>cases non
  intro y1 y2 k1 k2 h' ⟨_,b5⟩ b1 b2 ⟨b3,b4⟩ b7;have f1:ab.toArray[i]?=some u1:=by simpa using e1
  have f2:aQ.toArray[i]?=some u2:=by simpa using e3
  rw[f1] at k1;cases k1;rw[f2] at k2;cases k2;refine⟨_,rfl,d_ ⟨.ref s.heap.objs.size,rfl,wpAny_letOwnedTupleGo_zip b1 λh2 c1 c2=>?_⟩⟩;have lt:∀{b o},s.heap.get? b=some o->b≠s.heap.objs.size:=λ{b o} e=>My (Mq e)
  have eT:=lt a1;have jM:=lt a2;have jN:=lt a3
  have kk:∀b u,b∉[z,TI,TO,i1,i2]->s.heap.get? b=some u->h2.get? b=some u:=λb u hb e=>by
   simp only[x_,Px,or_false,not_or] at hb;exact c2.extBut _ _ hb.1 (b7 b u ⟨hb.1,hb.2.2.1,hb.2.2.2.1,hb.2.2.2.2⟩ e)
  have pT:Pe h2 s.heap.objs.size u1 u2:=c2.extBut _ _ (MQ eT) b5;have I1:Inv X aa B (upd H s.heap.objs.size (.tup [x,y])) { s with heap:=h2 }:=vv (t':=s.toks) I hf kk (s_ _) ⟨by show 2<=B_;rw[MS];decide,[u1,u2],.cons e2 (.cons e4 .nil),⟨_,pT,rfl,_,rfl⟩⟩;have fr:=I.hok.fresh (s_ s.heap.objs.size);refine⟨.ref s.heap.objs.size,_,I1,rfl,⟨s.heap.objs.size,x,y,fr,rfl,rfl,λzs hz=>by rw[kr.inj hK I hz g1];exact g3,λzs hz=>by rw[ez.inj hK I hz g2];exact g4⟩,⟨c1,c2.extBut _ _ D.TIz (b7 _ _ ⟨D.TIz,D.TITO,D.TIi1,D.TIi2⟩ a2),⟨u1,u2,c2.extBut _ _ D.TOz b2⟩,ok.itAt b3 λo e=>c2.extBut _ _ D.i1z e,aC.itAt b4 λo e=>c2.extBut _ _ D.i2z e⟩,λb hb=>?_⟩;have g6:=(hf b hb).1
  have nb:b≠s.heap.objs.size:=by
   rw[x_,x_,x_,x_,m_] at hb
   rcases hb with rfl | rfl | rfl | rfl | rfl
   ·exact eT
   ·exact jM
   ·exact jN
   ·exact My (ok.itLt a4)
   ·exact My (aC.itLt a5)
  rw[oI nb];exact g6
 done:=by
  tm_at"e";subst hP hw;obtain⟨a1,a2,⟨av,bv,a3⟩,a4,a5⟩:=st;obtain⟨xs,ys,g1,g2,g3⟩:=hg;obtain⟨ab,r1,t1⟩:=kr.of hK I g1;obtain⟨aQ,r2,t2⟩:=ez.of hK I g2;have cE:=r1.length;have d8:=r2.length;have hT:s.TypeIs (.ref z) "zip":=⟨_,a1,rfl⟩;unfold Qc;refine a_ (OM (MU (name:=Qf "__next__") hT PY (MI PY hT F.entry_zip_next (Br ok aC D a1 a2 a3 a4 a5 t1 t2 ?_ λ_=>⟨I.ok.hd hc,λh' e hk he=>?_⟩) (SO _))))
  ·intro y1 y2 k1 k2;have m1:=(MJ.mp k1).1;have m2:=(MJ.mp k2).1;simp at m1 m2;omega
  ·obtain⟨o,ho,g9⟩:=he;refine a_ (NO (T:= "StopIteration") (b:=true) ⟨o,ho,g9⟩ Qj ?_);refine d_ ⟨rfl,AQ (t':=s.toks) I hf λb u hb e=>?_⟩;simp only[x_,Px,or_false,not_or] at hb;exact hk b u ⟨hb.1,hb.2.2.1,hb.2.2.2.1,hb.2.2.2.2⟩ e
 self:=λ_ _ _ _ _ st h=>wpAny_pyIter_zip st.1 h
end
section
variable {X:Cx}
def Hj{k k':Kd}{rd cw:Hp->h_->List V->Prop}(ok:KdOk k)(aC:KdOk k')(kr:KdRd X.K k rd)(ez:KdRd X.K k' cw){tp:Pos}{H:Hp}{s:e_}{R:It->Hp->Prop}{ys:List V}(I:Inv X aa B H s)(h1:rd H l1 xs)(h2:cw H l2 ys)(q:R (ItM rd cw l1 l2) H):
  u_ (t_ X.prog X.w) X.A (call (.type "zip") [.ref l1,.ref l2]) (λv s1=>u_ (t_ X.prog X.w) X.A (Ry v) (PIE X aa B (.Tuple aE x1 tp) R) X.xe s1) X.xe s:=by
 obtain⟨ab,r1,t1⟩:=kr.of rfl I h1;obtain⟨aQ,r2,t2⟩:=ez.of rfl I h2;refine DH ok aC t1 t2 λn h' hn a1 a2 a3 a4 a5 a6=>wpAny_pyIter_zip a1 ?_
 subst hn;have I1:Inv X aa B H { s with heap:=h' }:=I.kept (t':=s.toks) a6;refine⟨s.heap.objs.size+4,[s.heap.objs.size+4,s.heap.objs.size+2,s.heap.objs.size+3,s.heap.objs.size,s.heap.objs.size+1],_,_,H,rfl,I1,Fp ok aC kr ez (zipApart_new (ok.sqLt t1) (aC.sqLt t2)),⟨a1,a2,⟨_,_,a3⟩,a4,a5⟩,λb hb=>?_,q⟩;rw[x_,x_,x_,x_,m_] at hb;have up:∀n,FpOk X aa H (s.heap.objs.size+n):=λn=>I.fpOk (Pa _ _) (I.hok.fresh (Pa _ _))
 rcases hb with rfl | rfl | rfl | rfl | rfl
 ·exact up 4
 ·exact up 2
 ·exact up 3
 ·exact up 0
 ·exact up 1
def rdS(K:FAa)(b:Bool):Hp->h_->List V->Prop:=λH a xs=>if b then SqL K H a xs else SqT K H a xs
def kdS(b:Bool):Kd:=if b then kdL else kdT
def wG(b:Bool):KdOk (kdS b):=by cases b;exact Hb;exact G7
def xw(K:FAa)(b:Bool):KdRd K (kdS b) (rdS K b):=by cases b;exact Lc K;exact Ka K
def iZipM(K:FAa)(ta:TA):TI:=λB H R=>ta B H λvs H1=>∃l1 l2 xs ys b c,vs=[.ref l1,.ref l2]/\rdS K b H1 l1 xs/\rdS K c H1 l2 ys/\R (ItM (rdS K b) (rdS K c) l1 l2) H1
def C9{a b:y_}{tp p:Pos}(hg:Gl X "zip")(hm:X.mg "zip"=none)(ha:PA X [a,b] ta)(hs:D_ [a,b] X.env=[(false,MW a X.env),(false,MW b X.env)])(aH:D_ [b] X.env=[(false,MW b X.env)]):
  PI X (.Tuple aE x1 tp) (.Call (.Name "zip" p) [a,b] [] pos) (iZipM X.K ta):=by
 intro aa s B H R I h;refine T3 (pM I hg hm boot_zip (MA (thn (ha pos aa s B H _ I h) λus s1 ⟨vs,H1,I1,r1,q1⟩=>?_) (by rw[hs,aH]) (by rw[aH];rfl)));obtain⟨l1,l2,xs,ys,b',c',e,h1,h2,q⟩:=q1;subst e;obtain⟨u1,u2,rfl,e1,e2⟩:=r1.two;cases e1;cases e2;exact Hj (wG b') (wG c') (xw _ b') (xw _ c') I1 h1 h2 q
end
end DL
namespace EV
open PySem PySem.Spec PyProof.Rows L2 DL
section
variable {K:FAa}{CA:Kl}
def noLk{X:Cx}:LkOk X φ I none:=λn h=>by cases h
def seqSrc(o:E):Src:=λS=>seqE o S
noncomputable def isRf:E->Bool
 | .ref _=>true
 | _=>false
def Re.seqB{H:Hp}{e:E}{es:List E}{v:V}(r:Re K CA φ I H S)(h:seqE e S=some es)(i:IsE K φ I e v):∃p xs,v=.ref p/\rdS K (isRf e) H p xs/\IsL K φ I es xs:=by
 unfold seqE at h;split at h
 ·split at h
  ·rename_i fs q;cases h;obtain⟨p,xs,h1,_,h2,h3⟩:=r.lst q i;exact⟨p,xs,h1,(RdK.of h2).sq,h3⟩
  ·cases h
 ·rename_i ne;obtain⟨a,xs,h1,h2,h3⟩:=qC h i;refine⟨a,xs,h1,?_,h3⟩;cases e with
  | ref n=>exact absurd rfl (ne n)
  | d x=>exact SqT.of (r.iH _ _ h2)
  | tup x=>exact SqT.of (r.iH _ _ h2)
end
section
variable{X:Cx}{CA:Kl}{a b:y_}{p:Pos}{ma:MM E}{ml:MM (List E)}
def PI.or{t t1 t2:TI}(h1:PI X tg iter t1)(h2:PI X tg iter t2)(h:∀B H Q,t B H Q->t1 B H Q\/t2 B H Q):PI X tg iter t:=λaa s B H R I q=>(h B H R q).elim (λz=>h1 aa s B H R I z) λz=>h2 aa s B H R I z
def itE(m:MM E):MM Itn:=bd m λo=>lif λS=>match seqE o S with
 | some _=>some (⟨seqSrc o,none⟩,S)
 | none=>none
def Re.seqAt{K:FAa}{H:Hp}{o:E}{es:List E}{p:h_}(i:IsE K φ I o (.ref p))(u:Up φ I al I')(r:Re K CA al I' H S)(h:seqE o S=some es):∃xs,rdS K (isRf o) H p xs/\IsL K al I' es xs:=by
 obtain⟨p',xs,e,h1,h2⟩:=r.seqB h (i.mono u);cases e;exact⟨xs,h1,h2⟩
def AW{K:FAa}{o:E}{p:h_}(i:IsE K φ I o (.ref p)):Yld K CA φ I (seqSrc o) (if isRf o then Itl K p else Itt K p):=λn al I' H' S' es u r hs=>by
 obtain⟨xs,h1,h2⟩:=Re.seqAt i u r hs;cases q:isRf o with
 | true =>
  rw[q] at h1;refine⟨λe he=>?_,λhl=>⟨xs,h1,by rw[←h2.length];exact hl⟩⟩;obtain⟨x,g1,g2⟩:=h2.get he;exact⟨⟨xs,x,h1,g1⟩,λy H2 hy=>.inl ⟨hy.1,I',r,Up.refl _ _,by have:=hy.2 xs h1;rw[g1] at this;cases this;exact g2⟩⟩
 | false =>
  rw[q] at h1;refine⟨λe he=>?_,λhl=>⟨xs,h1,by rw[←h2.length];exact hl⟩⟩;obtain⟨x,g1,g2⟩:=h2.get he;exact⟨⟨xs,x,h1,g1⟩,λy H2 hy=>.inl ⟨hy.1,I',r,Up.refl _ _,by have:=hy.2 xs h1;rw[g1] at this;cases this;exact g2⟩⟩
def E9(ha:EE X CA a ma):EI X CA tg a (itE ma):=PI.or (Ke ha) (Ej ha) λB H R q=>by
 obtain⟨φ,I,ν,S,src,S',r,n,e1,k⟩:=q;obtain⟨o,S1,e2,e3⟩:=oG e1
 have e3:(match seqE o S1 with
  | some _=>some (⟨seqSrc o,none⟩,S1)
  | none=>none)=some (src,S'):=e3
 split at e3
 ·rename_i es hs;cases e3;cases q:isRf o with
  | true =>
   refine .inl ⟨φ,I,ν,S,o,_,r,n,e2,λv H1 af I1 r1 u1 h1=>?_⟩;obtain⟨p,xs,rfl,h2,h3⟩:=r1.seqB hs h1;have y:=AW (CA:=CA) h1;rw[q] at h2 y;exact⟨p,rfl,⟨xs,h2⟩,k _ _ _ _ r1 u1 noLk y⟩
  | false =>
   refine .inr ⟨φ,I,ν,S,o,_,r,n,e2,λv H1 af I1 r1 u1 h1=>?_⟩;obtain⟨p,xs,rfl,h2,h3⟩:=r1.seqB hs h1;have y:=AW (CA:=CA) h1;rw[q] at h2 y;exact⟨p,rfl,⟨xs,h2⟩,k _ _ _ _ r1 u1 noLk y⟩
 ·cases e3
noncomputable def rngL(lo:Int)(n:Nat):List E:=(MO n).map λ(k:Nat)=>.d (.int (lo+(k:Int)))
def Ac{K:FAa}{lo:Int}:Yld K CA φ I (λ_=>some (rngL lo n)) (Itr lo n):=λi al I' H' S' es u r hs=>by
 cases hs;unfold rngL;refine⟨λe he=>?_,λhl=>by rw[c_,MD] at hl;exact hl⟩;rw[Mx] at he;cases q:(MO n)[i]? with
 | none=>rw[q] at he;cases he
 | some m =>
  rw[q] at he;obtain⟨h1,h2⟩:=j_.mp q;simp at h1 h2;subst h2;cases he;exact⟨h1,λx H2 hy=>.inl ⟨hy.1,I',r,Up.refl _ _,by rw[hy.2];exact .of (Is.int _)⟩⟩
def rng1F(es:List E)(S:Sto):Option (Itn×Sto):=match es with
 | [.d (.int j)]=>if -1000000<=j/\j<=1000000 then some (⟨λ_=>some (rngL 0 j.toNat),none⟩,S) else none
 | _=>none
def rng1E(t:MM (List E)):MM Itn:=bd t λes=>lif (rng1F es)
def LH(hg:Gl X "range")(hm:X.mg "range"=none)(ha:EA X CA [a] ml)(hs:D_ [a] X.env=[(false,MW a X.env)]):EI X CA tg (.Call (.Name "range" p) [a] [] pos) (rng1E ml):=PI.imp (Me hg hm ha hs) λB H R q=>by
 tm_at"f";unfold rng1F at e3;split at e3
 ·rename_i j;obtain⟨hj,e4⟩:=o3 e3;cases e4;obtain⟨v,rfl,hv⟩:=h1.one;exact⟨j,by rw[oM hv.inv],⋯,⋯,k _ _ _ _ r1 u1 noLk Ac⟩
 ·cases e3
def rng2F(es:List E)(S:Sto):Option (Itn×Sto):=match es with
 | [.d (.int i),.d (.int j)]=>if(-1000000<=i/\i<=1000000)/\-1000000<=j/\j<=1000000 then some (⟨λ_=>some (rngL i (j - i).toNat),none⟩,S) else none
 | _=>none
def rng2E(t:MM (List E)):MM Itn:=bd t λes=>lif (rng2F es)
def FI(hg:Gl X "range")(hm:X.mg "range"=none)(ha:EA X CA [a,b] ml)(hs:D_ [a,b] X.env=[(false,MW a X.env),(false,MW b X.env)])(aH:D_ [b] X.env=[(false,MW b X.env)]):EI X CA tg (.Call (.Name "range" p) [a,b] [] pos) (rng2E ml):=PI.imp (C6 hg hm ha hs aH) λB H R q=>by
 tm_at"f";unfold rng2F at e3;split at e3
 ·rename_i i j;obtain⟨hj,e4⟩:=o3 e3;cases e4;obtain⟨v,w,rfl,hv,hw⟩:=h1.two;exact⟨i,j,by rw[oM hv.inv,oM hw.inv],⋯,k _ _ _ _ r1 u1 noLk Ac⟩
 ·cases e3
def enumSrc(o:E):Src:=λS=>match seqE o S with
 | some xs=>some (xs.zipIdx.map λq=>mkT [.d (.int q.2),q.1])
 | none=>none
def enumF(es:List E)(S:Sto):Option (Itn×Sto):=match es with
 | [o]=>match seqE o S with
  | some _=>some (⟨enumSrc o,none⟩,S)
  | none=>none
 | _=>none
def enumE(t:MM (List E)):MM Itn:=bd t λes=>lif (enumF es)
def Fv{K:FAa}{o:E}{p:h_}(i:IsE K φ I o (.ref p)):Yld K CA φ I (enumSrc o) (Ite (rdS K (isRf o)) p):=λn al I' H' S' es u r hs=>by
 unfold enumSrc at hs;split at hs
 ·rename_i ys q;cases hs;obtain⟨xs,h1,h2⟩:=Re.seqAt i u r q;refine⟨λe he=>?_,λhl=>⟨xs,h1,by rw[←h2.length];simpa using hl⟩⟩;rw[Mx,List.getElem?_zipIdx] at he;cases qe:ys[n]? with
  | none=>rw[qe] at he;cases he
  | some e0 =>
   rw[qe] at he;cases he;obtain⟨x,g1,g2⟩:=h2.get qe;refine⟨⟨xs,x,h1,g1⟩,λy H2 hy=>?_⟩;obtain⟨p',x',k1,k2,k3,k4⟩:=hy;have:=k4 xs h1;rw[g1] at this;cases this;exact .inr ⟨p',_,_,rfl,k2,k1,k3,IsL.cons (.of (by rw[TQ];exact Is.int _)) (IsL.cons g2 IsL.nil)⟩
 ·cases hs
def Gp{tp:Pos}(hg:Gl X "enumerate")(hm:X.mg "enumerate"=none)(ha:PA X [a] ta)(hs:D_ [a] X.env=[(false,MW a X.env)]):
  PI X (.Tuple aE x1 tp) (.Call (.Name "enumerate" p) [a] [] pos) (λB H R=>ta B H λvs H1=>∃l xs b,vs=[.ref l]/\rdS X.K b H1 l xs/\R (Ite (rdS X.K b) l) H1):=by
 intro aa s B H R I h;refine T3 (pM I hg hm boot_enumerate (MA (thn (ha pos aa s B H _ I h) λus s1 ⟨vs,H1,I1,r1,l1,xs,b,e,h1,q⟩=>?_) hs rfl));subst e;obtain⟨u1,rfl,e1⟩:=r1.one;cases e1;exact Gz (wG b) (xw _ b) I1 h1 q
def Do{tp:Pos}(hg:Gl X "enumerate")(hm:X.mg "enumerate"=none)(ha:EA X CA [a] ml)(hs:D_ [a] X.env=[(false,MW a X.env)]):EI X CA (.Tuple aE x1 tp) (.Call (.Name "enumerate" p) [a] [] pos) (enumE ml):=PI.imp (Gp hg hm ha hs) λB H R q=>by
 tm_at"f"
 change enumF es S1=some (src,S') at e3
 unfold enumF at e3;split at e3
 ·split at e3
  ·rename_i o _ xs q;cases e3;obtain⟨v,rfl,hv⟩:=h1.one;obtain⟨p',ys,rfl,g1,g2⟩:=r1.seqB q hv;exact⟨p',ys,_,rfl,g1,k _ _ _ _ r1 u1 noLk (Fv hv)⟩
  ·cases e3
 ·cases e3
def zipSrc(o o':E):Src:=λS=>match seqE o S,seqE o' S with
 | some xs,some ys=>some ((xs.zip ys).map λq=>mkT [q.1,q.2])
 | _,_=>none
def zipF(es:List E)(S:Sto):Option (Itn×Sto):=match es with
 | [o,o']=>match seqE o S,seqE o' S with
  | some _,some _=>some (⟨zipSrc o o',none⟩,S)
  | _,_=>none
 | _=>none
def zipE(t:MM (List E)):MM Itn:=bd t λes=>lif (zipF es)
def FD{K:FAa}{o o':E}{p p':h_}(i:IsE K φ I o (.ref p))(i':IsE K φ I o' (.ref p')):Yld K CA φ I (zipSrc o o') (ItM (rdS K (isRf o)) (rdS K (isRf o')) p p'):=λn al I' H' S' es u r hs=>by
 unfold zipSrc at hs;split at hs
 ·rename_i ys zs q q';cases hs;obtain⟨xs,h1,h2⟩:=Re.seqAt i u r q;obtain⟨dy,iN,d9⟩:=Re.seqAt i' u r q';refine⟨λe he=>?_,λhl=>⟨xs,dy,h1,iN,?_⟩⟩
  ·rw[Mx] at he;cases qe:(ys.zip zs)[n]? with
   | none=>rw[qe] at he;cases he
   | some e0 =>
    rw[qe] at he;cases he;obtain⟨e2,e3⟩:=NS.mp qe;obtain⟨x,g1,g2⟩:=h2.get e2;obtain⟨x',ge,jO⟩:=d9.get e3;refine⟨⟨xs,dy,x,x',h1,iN,g1,ge⟩,λy H2 hy=>?_⟩;obtain⟨t,y1,y2,k1,k2,k3,k4,k5⟩:=hy;have a1:=k4 xs h1;have a2:=k5 dy iN;rw[g1] at a1;rw[ge] at a2;cases a1;cases a2;exact .inr ⟨t,_,_,rfl,k2,k1,k3,IsL.cons g2 (IsL.cons jO IsL.nil)⟩
  ·rw[←h2.length,←d9.length];simp at hl;omega
 ·cases hs
def Fj{tp:Pos}(hg:Gl X "zip")(hm:X.mg "zip"=none)(ha:EA X CA [a,b] ml)(hs:D_ [a,b] X.env=[(false,MW a X.env),(false,MW b X.env)])(aH:D_ [b] X.env=[(false,MW b X.env)]):
  EI X CA (.Tuple aE x1 tp) (.Call (.Name "zip" p) [a,b] [] pos) (zipE ml):=PI.imp (C9 hg hm ha hs aH) λB H R q=>by
 tm_at"f"
 change zipF es S1=some (src,S') at e3
 unfold zipF at e3;split at e3
 ·split at e3
  ·rename_i o o' _ _ xs ys q q';cases e3;obtain⟨v,w,rfl,hv,hw⟩:=h1.two;obtain⟨p1,zs,rfl,g1,g2⟩:=r1.seqB q hv;obtain⟨p2,cr,rfl,ge,jO⟩:=r1.seqB q' hw;exact⟨p1,p2,zs,cr,_,_,rfl,g1,ge,k _ _ _ _ r1 u1 noLk (FD hv hw)⟩
  ·cases e3
 ·cases e3
end
end EV
namespace DL
open PySem PySem.W PySem.Spec PyProof.Rows L2
def RawD(h:Mr)(d:h_)(es:Array P8)(ep:Nat):Prop:=∃o,h.get? d=some o/\o.ExactDict/\o.data=.dict es ep
def RawD.keep{h:Mr}{d:h_}{es:Array P8}(r:RawD h d es ep)(k:∀o,h.get? d=some o->h'.get? d=some o):RawD h' d es ep:=by
 obtain⟨o,h1,h2⟩:=r;exact⟨o,k o h1,h2⟩
section
variable{prog:E_}{w:Mo}{A:Mn}{E:b_->e_->Prop}{s:e_}{d I:h_}{es:Array P8}{i:Nat}
def RawD.isDict(r:RawD s.heap d es ep):s.TypeIs (.ref d) "dict":=by
 obtain⟨o,h1,h2,_⟩:=r;exact⟨o,h1,h2.1⟩
theorem yY{Q:b_->e_->Prop}(sm:(d == ND)=false)(r:RawD s.heap d es ep)(q:Q (.ref s.heap.objs.size) { s with heap:=s.heap.push { cls:=.type "dict_keyiterator", data:=.fields #[.ref d,.int 0 0,.int es.size 0,.int ep 0] } }):u_ (t_ prog w) A (Ry (.ref d)) Q E s:=by
 have T:=r.isDict;obtain⟨o,h1,_,h3⟩:=r;refine QF T F.slot_dict_iter (MI F.slot_dict_iter T F.entry_dict_iter ?_ (F.args_dict_iter_1 _));unfold NE.«dict.__iter__»;refine a_ ?_;unfold NE.Dict.dictSlotNone;refine a_ (wpAny_notOrdered_dict T (d_ (a:=b_.ref d) ?_));refine a_ (m:=if(d == ND)=true then _ else _) ?_;rw[sm,if_neg q_];refine d_ (a_ (SQ h1 h3 (a_ (wpAny_dictEpoch h1 h3 ?_))));refine a_ (K_ (d_ ⟨_,rfl, "dict_keyiterator", _,⟨_,r_ _ rfl,rfl⟩,Om.lookup,?_⟩));exact q
theorem tQ{Q:Option b_->e_->Prop}(it:s.heap.IsKeyIter I d i es.size ep)(r:RawD s.heap d es ep)(more:∀h:i < es.size,∀h',h'.IsKeyIter I d (i+1) es.size ep->Mr.SameBut I s.heap h'->Q (some es[i].key) { s with heap:=h' })(hh:es.size<=i->A.handled=none)(cy:es.size<=i->∀h',Mr.ExtBut I s.heap h'->Q none { s with heap:=h' }):u_ (t_ prog w) A (Qc (.ref I)) Q E s:=by
 have T:=it.typeIs;obtain⟨o,i1,i2,i3⟩:=it;obtain⟨od,r1,_,r3⟩:=r;unfold Qc;refine a_ (OM (MU (name:=Qf "__next__") T Om (MI Om T F.entry_dict_keyiterator_next ?_ (F.args_dict_keyiterator_next_1 _))));refine a_ (d_ (a_ (a_ (a_ (Od T (d_ (a_ (RJ i1 i3 ?_))))))));have ow:NE.Dict_items.ownsTuple "dict_keyiterator"=false:=by decide
 refine a_ (d_ (a_ (SQ r1 r3 ?_)));rw[if_neg (by simp)];refine a_ (d_ (a_ (wpAny_dictEpoch r1 r3 ?_)));rw[if_neg (by simp)];refine d_ ?_;have nn:¬(i:Int) < 0:=by omega
 by_cases h:i < es.size
 ·have here:(if(i:Int) < 0 then none else es[(i:Int).toNat]?)=some es[i]:=by rw[if_neg nn,MC,l_ h]
  dsimp only;rw[here];refine a_ (a_ (Od T (d_ (a_ (Rx T ?_)))));obtain⟨g,eg⟩:∃g,g=s.heap.update I (Sg (·.setIfInBounds 1 (Qd ((i:Int)+1)))):=⟨_,rfl⟩
  have ig:g.IsKeyIter I d (i+1) es.size ep:=by
   rw[eg];exact⟨_,ML _ i1 (Oo (N_ i3 _)),by rw[O_];exact i2,by rw[N_ i3];rfl⟩
  refine a_ (m:=setField (.ref I) 1 (Qd ((i:Int)+1))) (N9 i1 i3 (by simp) ?_);rw[←eg];refine a_ (MV (a_ (Rx (s:={ s with heap:=g }) ig.typeIs (d_ (a:=es[i].key) ?_))));exact d_ ⟨_,rfl,d_ (more h g ig (by rw[eg];exact Mr.SameBut.update ..))⟩
 ·have here:(if(i:Int) < 0 then none else es[(i:Int).toNat]?)=none:=by rw[if_neg nn,MC,NM ⋯]
  dsimp only;rw[here];dsimp only;refine a_ (a_ (Od T (d_ ?_)));refine a_ (m:=setField (.ref I) 0 .none) (N9 i1 i3 (by simp) ?_);refine a_ (m:=newExc (.type "StopIteration") []) ?_;refine a_ (m:=Qh _ _) (NH (a:=b_.none) rfl (K_ ?_ (by size_fits)));refine a_ (Sd ?_);rw[show A.in1.handled=none from hh ⋯];refine a_ (d_ (Tq ?_));refine a_ (NO (b:=true) (T:= "StopIteration") ⟨_,r_ _ rfl,rfl⟩ Qj ?_);exact d_ (cy ⋯ _ (((Mr.SameBut.update ..).extBut.push _).push _))
def DD(hh:A.handled=none)(ne:d≠I):Walks prog w A I [I,d] [I] es.size (λi v=>∃h:i < es.size,v=es[i].key) (λi h=>h.IsKeyIter I d i es.size ep/\RawD h d es ep) where
 sub:=λb hb=>x_.mpr (.inl (m_.mp hb))
 frame:=λi h h' st k=>⟨by
  obtain⟨o,a1,a2⟩:=st.1
  exact⟨o,k I (p_ ..) o a1,a2⟩,st.2.keep λo e=>k d (n_ _ (p_ ..)) o e⟩
 item:=λi s Q E hi st q=>tQ st.1 st.2 (λh h' it sb=>q _ h' s.toks ⟨h,rfl⟩ ⟨it,st.2.keep λo e=>sb.extBut d o ne e⟩ λb o nb e=>sb.extBut b o (λz=>nb (m_.mpr z)) e) (λz=>absurd hi (Ua.mpr z)) (λz=>absurd hi (Ua.mpr z))
 done:=λs Q E st q=>tQ st.1 st.2 (λh=>absurd h (NT _)) (λ_=>hh) λ_ h' x=>q h' s.toks λb o nb e=>x b o (λz=>nb (m_.mpr z)) e
 self:=λi s Q E st q=>RN st.1 q
def Jx(hh:A.handled=none){S:h_}(hn:es.size < 64)(sm:(S == ND)=false)(hS:RawD s.heap S es ep){Q:List b_->e_->Prop}(q:∀h' tk,(∀b o,s.heap.get? b=some o->h'.get? b=some o)->s.heap.objs.size<=h'.objs.size->Q (es.toList.map (·.key)) { s with heap:=h',toks:=tk }):u_ (t_ prog w) A (Tu (.ref S)) Q E s:=by
 have line:64<=B_:=by rw[MS];decide
 have fk:S < s.heap.objs.size:=let ⟨_,z,_⟩:=hS;Mq z
 refine a_ (Qo (MN Pj ?_));rw[NF Pl _];refine a_ (m:=Ue []) (K_ (d_ ⟨MZ N3 _,MN QG ?_⟩));rw[NF N3 _];obtain⟨h1,e1⟩:∃h1,h1=s.heap.push { cls:=.type "list", data:=.seq ([]:List b_).toArray }:=⟨_,rfl⟩;have bG:h1.objs.size=s.heap.objs.size+1:=by rw[e1,Na]
 have bg:∀b o,s.heap.get? b=some o->h1.get? b=some o:=λb o x=>by rw[e1];exact f_ _ x
 have own1:h1.get? s.heap.objs.size=some { cls:=.type "list", data:=.seq ([]:List b_).toArray }:=by rw[e1];exact r_ _ rfl
 rw[←e1];have dE:RawD h1 S es ep:=hS.keep λo=>bg S o
 have ce:s.heap.objs.size≠S:=O8 fk;show u_ _ A.in1 (Ox (.ref s.heap.objs.size) (.ref S) (.ref s.heap.objs.size)) _ _ { s with heap:=h1 };unfold Ox;refine a_ (OC (s:={ s with heap:=h1 }) (RawD.isDict (s:={ s with heap:=h1 }) dE) ?_);rw[if_neg (by simp[listSameRef,ce])];refine a_ (yY (s:={ s with heap:=h1 }) sm dE ?_);obtain⟨I,eI⟩:∃I,I=h1.objs.size:=⟨_,rfl⟩;obtain⟨h2,e2⟩:∃h2,h2=h1.push { cls:=.type "dict_keyiterator", data:=.fields #[.ref S,.int 0 0,.int es.size 0,.int ep 0] }:=⟨_,rfl⟩;have b9:∀b o,h1.get? b=some o->h2.get? b=some o:=λb o x=>by rw[e2];exact f_ _ x
 have fm:h2.IsKeyIter I S 0 es.size ep:=⟨_,by rw[e2,eI];exact r_ _ rfl,rfl,rfl⟩;have fo:RawD h2 S es ep:=dE.keep λo=>b9 S o
 rw[←e2];rw[←eI];refine a_ (MV (KI (s:={ s with heap:=h2 }) (RawD.isDict (s:={ s with heap:=h2 }) fo) ?_));refine a_ (Pr (a_ (m:=listTouch (.ref s.heap.objs.size)) ?_));have own2:=b9 _ _ own1;refine a_ (m:=Tc s.heap.objs.size (·.push .none)) (NL own2 rfl ?_ (by simp) (by simp));have cV:=ML (OK (·.push b_.none)) own2 rfl;refine NL cV rfl ?_ (by show(#[b_.none]:Array b_).size<=_;simp;omega) (by simp);have cW:=ML (OK (·.pop)) cV rfl;obtain⟨h4,e4⟩:∃h4,h4=((h2.update s.heap.objs.size (OK (·.push b_.none))).update s.heap.objs.size (OK (·.pop))):=⟨_,rfl⟩;have dF:KeptBut s.heap.objs.size h2 h4:=λb o ne x=>by rw[e4];exact(Mz _ _ (MQ ne)).trans ((Mz _ _ (MQ ne)).trans x)
 rw[←e4] at cW;rw[←e4];have dG:s.heap.objs.size≠I:=by rw[eI,bG];exact My (Nb _)
 have fq:S≠I:=by rw[eI,bG];exact My (Nz fk)
 have W:=(DD (prog:=prog) (w:=w) (A:=A.in1) (es:=es) (ep:=ep) hh fq).toS;refine d_ ⟨MZ RZ _,RK W ⋯ s.heap.objs.size (by simp[dG,ce]) _ es.size 0 _ _ _ rfl (Mu _) ?_ cW (ItemsOf.nil _) λs' ac c mv here it=>?_⟩
 ·obtain⟨o,a1,a2⟩:=fm;exact⟨⟨o,dF _ _ (MQ dG) a1,a2⟩,fo.keep λo=>dF _ _ (MQ ce)⟩
 ·obtain⟨h',g',d',cT,eG⟩:=s';have eg:g'=s.gens:=mv.gens;have ed:d'=s.drawn:=mv.drawn;have eo:eG=s.os:=mv.os;subst eg;subst ed;subst eo;refine a_ (Si here (d_ ?_));have lt':s.heap.objs.size < h'.objs.size:=Mq here
  have ea:ac.toList=es.toList.map (·.key):=by
   refine SR λj=>?_
   rw[Mx];by_cases hj:j < ac.size
   ·have e1:ac.toList[j]?=some ac[j]:=by simp[hj]
    obtain⟨h,e2⟩:=it.2 j ac[j] (by simp[hj]);rw[e1,e2,PU,l_ h];rfl
   ·have:ac.size=es.size:=it.1;rw[Nv (by rw[MP];omega),Nv (by rw[MP];omega)];rfl
  rw[ea];refine q h' cT (λb o x=>mv.heap b o (λhb=>?_) (dF b o (My (Mq x)) (b9 _ _ (bg _ _ x)))) (O7 lt');have lb:=Mq x
  rcases x_.mp hb with z | z
  ·exact My lb z
  ·rw[m_.mp z,eI,bG] at lb;exact absurd lb (Ua.mpr (P5 _))
end
end DL
namespace EV
open PySem PySem.Spec PyProof.Rows L2 DL
noncomputable def ItK(d:h_)(o:Obj)(xs:List (List Key×h_×b_)):It:=
 ⟨λi H=>(∃u,H d=some (.frz o u))/\i < xs.length,λi H x H'=>H'=H/\∃k b v,xs[i]?=some (k,b,v)/\x=.ref b,λi H=>(∃u,H d=some (.frz o u))/\xs.length<=i⟩
def KZ{P:E_}{w:Mo}{K:FAa}{d it:h_}{o:Obj}{xs:List (List Key×h_×b_)}{es:Array P8}(ed:o.ExactDict)(da:o.data=.dict es ep)(he:es.toList=xs.map (Sh (Pp (mixKind P w)))):
  Turn P w K tg (ItK d o xs) [it] it (λi h=>h.IsKeyIter it d i es.size ep) where
 mem:=by simp
 obj:=λi h st b hb=>by
  have e:b=it:=by simpa using hb
  subst e;obtain⟨o,e,c,d⟩:=st;exact⟨o,e,λv z=>by rw[d] at z;cases z⟩
 keep:=λi h h' st k=>st.at λo e=>k it (by simp) o e
 item:=by
  tm_at"e";subst hP hw hK;obtain⟨⟨u,hu⟩,hi⟩:=hg;have fw:RawD s.heap d es ep:=⟨o,(I.hok d _ hu).1,ed,da⟩;tm_at"i";have sz:es.size=xs.length:=size_of_entries he;refine tQ st fw (λh h' bO sb=>?_) (λz=>absurd z ⋯) (λz=>absurd z ⋯);have I1:Inv X aa B H { s with heap:=h' }:=I.turned (t':=s.toks) (λb o hb e=>(sb.2 b hb).trans e) f0 f1 f3 f4 f5;have ek:=entry_at he i;rw[l_ h,i_ hi] at ek;have ek:es[i]=Sh (Pp (mixKind X.prog X.w)) xs[i]:=by simpa using ek
  refine⟨_,rfl,PyProof.Rows.letGo_keyiter (s':={ s with heap:=h' }) bO ⟨.ref xs[i].2.1,H,I1,by rw[ek];rfl,⟨rfl,_,_,_,i_ hi,rfl⟩,bO,λb hb=>(hf b hb).1⟩⟩
 done:=by
  tm_at"e";subst hP hw hK;obtain⟨⟨u,hu⟩,hi⟩:=hg;have fw:RawD s.heap d es ep:=⟨o,(I.hok d _ hu).1,ed,da⟩;tm_at"i";have sz:es.size=xs.length:=size_of_entries he;exact tQ st fw (λh=>absurd h ⋯) (λ_=>I.ok.hd hc) λ_ h' eb=>⟨rfl,I.turned (t':=s.toks) (λb o hb e=>eb b o hb e) f0 f1 f3 f4 f5⟩
 self:=λ_ _ _ _ _ st h=>RN st h
def D2{X:Cx}{l:y_}{tl:TE}(hl:PE X l tl):PI X tg l (λB H R=>tl B H λx H1=>∃d kvs,x=.ref d/\H1 d=some (.dT kvs)/\∀o xs,NoFrz X d->L2.KT H1 kvs xs->R (ItK d o xs) (upd H1 d (.frz o (.dT kvs)))):=by
 intro aa s B H R I h;refine thn (hl aa s B H _ I h) λv s1 ⟨x,H1,I1,r1,d,kvs,e,hd,q⟩=>?_
 subst e;cases r1;obtain⟨z,sm,xs,aA,o,es,ep,d1,d2,d3,d4,_,d6⟩:=BN I1.hok hd;obtain⟨nf,o',g1,I2⟩:=Inv.freeze I1 hd M5 (.inr ⟨_,rfl⟩);rw[d1] at g1;cases g1;refine yY sm ⟨o,d1,d2,d3⟩ ?_;refine⟨s1.heap.objs.size,[s1.heap.objs.size],_,_,_,rfl,I2.kept (t':=s1.toks) λb o e=>f_ _ e,KZ d2 d3 d4,⟨_,r_ _ rfl,rfl,rfl⟩,λb hb=>?_,q o xs nf aA⟩;have e:b=s1.heap.objs.size:=by simpa using hb
 subst e;exact I2.fpOk (s_ _) (I2.hok.fresh (s_ _))
section
variable{K:FAa}{CA:Kl}{H:Hp}
noncomputable def allT(I H:Hp):Hp:=λb=>match I b with
 | some u=>some u
 | none=>match H b with
  | some (.tup xs)=>some (.tup xs)
  | _=>none
def El:Same I (allT I H):=λb u e=>by unfold allT;rw[e]
def Cf(s:Same I H):Same (allT I H) H:=λb u e=>by
 unfold allT at e;split at e
 ·rename_i w q;cases e;exact s _ _ q
 ·split at e
  ·rename_i q;cases e;exact q
  ·cases e
def Af(s:Same I H){b:h_}(h:H b=some (.tup xs)):allT I H b=some (.tup xs):=by
 unfold allT;split
 ·rename_i w q;have:=s _ _ q;rw[h] at this;exact this.symm
 ·rw[h]
def Re.all(r:Re K CA φ I H S):Re K CA φ (allT I H) H S/\Up φ I φ (allT I H):=by
 have u:Up φ I φ (allT I H):=⟨⟨[],by simp⟩,El⟩;refine⟨⟨Cf r.iH,r.len,r.nd,λn o e=>?_⟩,u⟩;obtain⟨a,h1,h2,h3⟩:=r.cell n o e;refine⟨a,h1,λl=>?_,h3.keep u rfl λ_ h=>h⟩;obtain⟨w,h4,h5⟩:=h3.cell;unfold allT;rw[h2 l];dsimp only;split
 ·rename_i q;rw[h4] at q;cases q;cases h5
 ·rfl
theorem zg:∀{ds:List D}{q:List Key},keysD ds=some q->IsA K I ds (q.map kV)
 | [],q,h=>by cases h;exact IsA.nil
 | d::ds,q,h=>by
  unfold keysD at h;split at h
  ·rename_i k ks e1 e2;cases h;refine IsA.cons ?_ (zg e2);cases d<;>cases e1
   ·exact Is.int _
   ·exact Is.str _
  ·cases h
def Bx{k:D}{b:h_}(h:kD true k=some q)(hb:I b=some (.tup (q.map kV))):Is K I k (.ref b):=by
 cases k with
 | tup ds=>exact Is.tup hb (zg h)
 | _=>cases h
noncomputable def keySrc(n:Nat):Src:=λS=>match S[n]? with
 | some (.dct true true kvs)=>some (kvs.map λp=>.d p.1)
 | _=>none
def Iu{d:h_}{o:Obj}{ys:List (List Key×V)}{xs:List (List Key×h_×b_)}(hn:φ[n]?=some d)(hi:I d=some (.frz o (.dT ys)))(aA:∀(i:Nat) (k:List Key) (b:h_) (v:b_),xs[i]?=some (k,b,v)->I b=some (.tup (k.map kV)))(hk:ys.map (·.1)=xs.map (·.1)):Yld K CA φ I (keySrc n) (ItK d o xs):=λi al I' H' S' es u r hs=>by
 unfold keySrc at hs;split at hs
 ·rename_i kvs e;cases hs;obtain⟨a,ha,_,zs,⟨o',g1,g2⟩,g3,g4⟩:=r.cell n _ e;rw[u.get hn] at ha;cases ha;have aL:=u.2 _ _ hi;rw[aL] at g1;cases g1
  have ln:kvs.length=xs.length:=by
   have l1:=congrArg length g3;have l2:=congrArg length hk;simp at l1 l2;omega
  refine⟨λx hx=>?_,λhl=>⟨⟨_,g2⟩,by rw[←ln];simpa using hl⟩⟩;rw[Mx] at hx;cases q:kvs[i]? with
  | none=>rw[q] at hx;cases hx
  | some p =>
   rw[q] at hx;cases hx;have dM:i < xs.length:=by rw[←ln];exact(j_.mp q).1
   refine⟨⟨⟨_,g2⟩,dM⟩,λy H2 hy=>?_⟩;obtain⟨rfl,k,b,v,e1,rfl⟩:=hy;have e2:(kvs.map λp=>kD true p.1)[i]?=some (kD true p.1):=by rw[Mx,q];rfl
   have e3:(xs.map (·.1))[i]?=some k:=by rw[Mx,e1];rfl
   rw[g3,Mx] at e2;rw[←hk,Mx] at e3;cases q2:ys[i]? with
   | none=>rw[q2] at e3;cases e3
   | some yy =>
    rw[q2] at e2 e3;have e2:some yy.1=kD true p.1:=by simpa using e2
    have e3:yy.1=k:=by simpa using e3
    exact .inl ⟨rfl,I',r,Up.refl _ _,.of (Bx (q:=k) (by rw[←e2,e3]) (u.2 _ _ (aA i k b v e1)))⟩
 ·cases hs
end
def itF(o:E)(S:Sto):Option (Itn×Sto):=match seqE o S with
 | some _=>some (⟨seqSrc o,none⟩,S)
 | none=>match o with
  | .ref n=>match S[n]? with
   | some (.dct true false kvs)=>some (⟨keySrc n,some n⟩,S.set n (.dct true true kvs))
   | _=>none
  | _=>none
def itA(m:MM E):MM Itn:=bd m λo=>lif (itF o)
section
variable{X:Cx}{CA:Kl}{a:y_}{p:Pos}{ma:MM E}
def vK(ha:EE X CA a ma):EI X CA tg a (itA ma):=PI.or (E9 ha) (D2 ha) λB H R q=>by
 obtain⟨φ,I,ν,S,i,S',r,n,e1,k⟩:=q;obtain⟨o,S1,e2,e3⟩:=oG e1
 change itF o S1=some (i,S') at e3
 unfold itF at e3;split at e3
 ·rename_i es hs;cases e3;exact .inl ⟨φ,I,ν,S,_,_,r,n,(by unfold itE bd;rw[e2];dsimp only[lif];rw[hs]),k⟩
 ·split at e3
  ·rename_i m _;split at e3
   ·rename_i kvs hm;cases e3;refine .inr ⟨φ,I,ν,S,_,_,r,n,e2,λv H1 af I1 r1 u1 h1=>?_⟩;obtain⟨a',aW,rfl,hh⟩:=r1.dct hm h1
    rcases hh with⟨z,_⟩ | ⟨_,ys,h2,h3⟩
    ·cases z
    obtain⟨r2,u2⟩:=r1.all;refine⟨a',ys,rfl,h2,λob xs nf aA=>?_⟩;obtain⟨b,w,hb,hw,_,_,lk⟩:=r2.lock (n:=m) (S':=S1.set m (.dct true true kvs)) (by unfold lockS;rw[hm]);rw[aW] at hb;cases hb;rw[show H1 a'=some (.dT ys) from h2] at hw;cases hw;obtain⟨r3,u3⟩:=lk ob
    have ia:I a'=none:=by
     obtain⟨_,_,e,ie⟩:∃o,S1[m]?=some o/\(isLk o=false->I1 a'=none)/\True:=by
      obtain⟨o,e,f,_⟩:=r1.addr aW;exact⟨o,e,f,M5⟩
     rename_i o' e';rw[hm] at e';cases e';cases q:I a' with
     | none=>rfl
     | some w=>have:=u1.2 _ _ q;rw[e rfl] at this;cases this
    have up:=u1.trans (u2.trans u3);refine k _ _ _ _ r3 up (λn hn=>by cases hn;exact⟨a',aW,nf,ia⟩) (Iu aW oK (λi kk b v e=>?_) (KT.keys aA))
    obtain⟨p',cQ,l8⟩:∃q:List Key×V,q.1=kk/\H1 b=some (.tup (kk.map kV)):=by
     have:∀{l:List (List Key×V)}{m:List (List Key×h_×b_)} (i:Nat),L2.KT H1 l m->m[i]?=some (kk,b,v)->∃q:List Key×V,q.1=kk/\H1 b=some (.tup (kk.map kV)):=by
      intro l m i t
      induction t generalizing i with
      | nil=>intro e;simp at e
      | @cons a1 b1 _ _ h t ih =>
       intro e;cases i with
       | zero =>
        have e:b1=(kk,b,v):=by simpa using e
        subst e;have h1:a1.1=kk:=h.1;exact⟨a1,h1,by rw[←h1];exact h.2.1⟩
       | succ i=>exact ih i (by simpa using e)
     exact this i aA e
    have:=u3.2 b _ (Af r1.iH l8);exact this
   ·cases e3
  ·cases e3
def zF{k:Key}{v:b_}(h:keyIs k v=true):RelV (kV k) v:=by
 rcases pY h with⟨i,t,rfl,rfl⟩ | ⟨x,t,rfl,rfl⟩
 ·exact⟨t,rfl⟩
 ·exact⟨t,rfl⟩
def ItI(d:h_)(o:Obj)(kvs:List (Key×V)):It:=
 ⟨λi H=>H d=some (.frz o (.dK kvs))/\i < kvs.length,λi H x H'=>∃p k y,H p=none/\x=.ref p/\H'=upd H p (.tup [kV k,y])/\kvs[i]?=some (k,y),λi H=>H d=some (.frz o (.dK kvs))/\kvs.length<=i⟩
def Gc{P:E_}{w:Mo}{K:FAa}{tp:Pos}{d it:h_}{o:Obj}{kvs:List (Key×V)}{vs:List (Key×b_)}(ne:d≠it)(aA:L2.KV kvs vs)(at':∀h:Mr,h.get? d=some o->h.DictAt (mixKind P w) d vs ep):
  Turn P w K (.Tuple aE x1 tp) (ItI d o kvs) [it] it (λi h=>∃a b,IsItemIter h it d i vs.length ep a b) where
 mem:=by simp
 obj:=λi h st b hb=>by
  have e:b=it:=by simpa using hb
  subst e;obtain⟨a,b,e⟩:=st;exact⟨_,e,λv z=>by cases(show RA _=QX v from z)⟩
 keep:=λi h h' ⟨a,b,e⟩ k=>⟨a,b,k it (by simp) _ e⟩
 item:=by
  tm_at"e";obtain⟨hd,hi⟩:=hg;obtain⟨a,b,st⟩:=st;have hm:=at' s.heap (I.hok d _ hd).1;have ln:=Paired.length aA;obtain⟨kv,jP⟩:∃kv,vs[i]?=some kv:=⟨_,i_ ⋯⟩;obtain⟨k,v⟩:=kv;tm_at"i";refine wpAny_pyNext_items_item st hm jP λkey h' eF ho hT hsz keep=>?_
  refine⟨_,rfl,wpAny_letOwnedTupleGo_items (s:={ s with heap:=h' }) ho λh2 l9 aH=>?_⟩;have lt:∀{b o},s.heap.get? b=some o->b≠s.heap.objs.size:=λ{b o} e=>My (Mq e)
  have kk:∀b u,b∉[it]->s.heap.get? b=some u->h2.get? b=some u:=λb u hb e=>by
   have hb:b≠it:=by simpa using hb
   exact aH.extBut _ _ hb (keep b u hb e)
  have ti:s.heap.objs.size≠it:=(lt st).symm;have pT:h2.get? s.heap.objs.size=some { cls:=.type "tuple", data:=.seq #[key,v] }:=aH.extBut _ _ ti hT
  obtain⟨y,e1,e2⟩:∃y,kvs[i]?=some (k,y)/\RelV y v:=by
   have:∀{l:List (Key×V)}{m:List (Key×b_)} (i:Nat),L2.KV l m->m[i]?=some (k,v)->∃y,l[i]?=some (k,y)/\RelV y v:=by
    intro l m i t
    induction t generalizing i with
    | nil=>intro e;simp at e
    | @cons a1 b1 _ _ h t ih =>
     intro e;cases i with
     | zero =>
      have e:b1=(k,v):=by simpa using e
      subst e;obtain⟨mf,mn⟩:=a1;have h1:mf=k:=h.1;subst h1;exact⟨mn,rfl,h.2⟩
     | succ i=>exact ih i (by simpa using e)
   exact this i aA jP
  have I1:Inv X aa B (upd H s.heap.objs.size (.tup [kV k,y])) { s with heap:=h2 }:=vv (t':=s.toks) I hf kk (s_ _) ⟨by show 2<=B_;rw[MS];decide,[key,v],.cons (zF eF) (.cons e2 .nil),⟨_,pT,rfl,_,rfl⟩⟩;have fr:=I.hok.fresh (s_ s.heap.objs.size);refine⟨.ref s.heap.objs.size,_,I1,rfl,⟨s.heap.objs.size,k,y,fr,rfl,rfl,e1⟩,⟨_,_,l9⟩,λb hb=>?_⟩;have eh:b=it:=by simpa using hb
  subst eh;rw[oI ti.symm];exact f0
 done:=by
  tm_at"e";subst hP hw hK;obtain⟨hd,hi⟩:=hg;obtain⟨a,b,st⟩:=st;have hm:=at' s.heap (I.hok d _ hd).1;have ln:=Paired.length aA;tm_at"i";exact wpAny_pyNext_items_end (I.ok.hd hc) st hm (Nv ⋯) λh' eb=>⟨rfl,I.turned (t':=s.toks) (λb o hb e=>eb b o hb e) f0 f1 f3 f4 f5⟩
 self:=λ_ _ _ _ _ ⟨a,b,st⟩ h=>PySem.W.kcp_self st h
theorem Ky{tp:Pos}{l:y_}{tl:TE}(hl:PE X l tl)(aT:Nh l "items" X.env (MW l X.env)=MW l X.env)(aU:(aj.endLine == ax.line)=true):
  PI X (.Tuple aE x1 tp) (.Call (.Attribute l "items" aj) [] [] ax) (λB H R=>tl B H λx H1=>∃d kvs,x=.ref d/\H1 d=some (.dK kvs)/\∀o,NoFrz X d->R (ItI d o kvs) (upd H1 d (.frz o (.dK kvs)))):=by
 intro aa s B H R I h;refine O4 aT aU (thn (hl aa s B H _ I h) λv s1 ⟨x,H1,I1,r1,d,kvs,e,hd,q⟩=>?_);subst e;cases r1;obtain⟨h1,h2⟩:=sU (x:=.ref d) (v:=.ref d) (T:= "dict") I1 rfl (.inr (.inr (.inl ⟨rfl,.inl ⟨kvs,hd⟩⟩)));refine⟨"dict", "dict.items", PySem.F.plainAttrs_dict,PySem.F.slot_dict_items,PySem.F.type_dict_items,h1,h2,Og rfl (PySem.evalArgs_none ?_)⟩;obtain⟨z,sm,vs,aA,dd⟩:=t9 I1.hok hd;refine call_meetsIn PySem.F.slot_dict_items h1 PySem.F.entry_dict_items (PySem.F.args_dict_items_1 _) (meets_dict_items (mixKind X.prog X.w) d sm) ⟨⟨vs,dd⟩,?_⟩;obtain⟨nf,o,g1,I2⟩:=Inv.freeze I1 hd M5 (.inl ⟨_,rfl⟩);obtain⟨o',es,ep,d1,d2,d3,d4,d5,d6⟩:=dd;rw[d1] at g1;cases g1;have at':∀h:Mr,h.get? d=some o->h.DictAt (mixKind X.prog X.w) d vs ep:=λh e=>⟨o,es,e,d2,d3,d4,d5,d6⟩
 have I3:Inv X aa B _ { s1 with heap:=s1.heap.push { cls:=.type "dict_items", data:=.fields #[.ref d] } }:=I2.kept (t':=s1.toks) λb o e=>f_ _ e
 have dI:d < s1.heap.objs.size:=Mq d1;refine wpAny_pyIter_items (v:=s1.heap.objs.size) (d:=d) (s:={ s1 with heap:=s1.heap.push { cls:=.type "dict_items", data:=.fields #[.ref d] } }) ⟨_,r_ _ rfl,rfl,rfl⟩ (at' _ (f_ _ d1)) ?_;have sz:(s1.heap.push { cls:=.type "dict_items", data:=.fields #[.ref d] }).objs.size=s1.heap.objs.size+1:=Na ..;refine⟨(s1.heap.push { cls:=.type "dict_items", data:=.fields #[.ref d] }).objs.size,[(s1.heap.push { cls:=.type "dict_items", data:=.fields #[.ref d] }).objs.size],_,_,_,rfl,I3.kept (t':=s1.toks) λb o e=>f_ _ e,Gc (My (sz▸Nz dI)) aA at',⟨_,_,r_ _ rfl⟩,λb hb=>?_,q o nf⟩;have e:b=(s1.heap.push { cls:=.type "dict_items", data:=.fields #[.ref d] }).objs.size:=by simpa using hb
 subst e;exact I3.fpOk (s_ _) (I3.hok.fresh (s_ _))
def itemSrc(n:Nat):Src:=λS=>match S[n]? with
 | some (.dct false true kvs)=>some (kvs.map λp=>mkT [.d p.1,p.2])
 | _=>none
def itemF(o:E)(S:Sto):Option (Itn×Sto):=match o with
 | .ref n=>match S[n]? with
  | some (.dct false false kvs)=>some (⟨itemSrc n,some n⟩,S.set n (.dct false true kvs))
  | _=>none
 | _=>none
def itemA(m:MM E):MM Itn:=bd m λo=>lif (itemF o)
def BY{K:FAa}{k:D}{c:Key}(h:kD false k=some [c]):Is K I k (kV c):=by
 cases k with
 | int i=>cases h;exact Is.int _
 | str i=>cases h;exact Is.str _
 | _=>cases h
def Jv{K:FAa}{d:h_}{o:Obj}{ys:List (Key×V)}(hn:φ[n]?=some d)(hi:I d=some (.frz o (.dK ys))):Yld K CA φ I (itemSrc n) (ItI d o ys):=λi al I' H' S' es u r hs=>by
 unfold itemSrc at hs;split at hs
 ·rename_i kvs e;cases hs;obtain⟨a,ha,_,zs,⟨o',g1,g2⟩,g3,g4⟩:=r.cell n _ e;rw[u.get hn] at ha;cases ha;have aL:=u.2 _ _ hi;rw[aL] at g1;cases g1
  have ln:kvs.length=ys.length:=by
   have l1:=congrArg length g3;simpa using l1
  refine⟨λx hx=>?_,λhl=>⟨g2,by rw[←ln];simpa using hl⟩⟩;rw[Mx] at hx;cases q:kvs[i]? with
  | none=>rw[q] at hx;cases hx
  | some p =>
   rw[q] at hx;cases hx;have dM:i < ys.length:=by rw[←ln];exact(j_.mp q).1
   refine⟨⟨g2,dM⟩,λy H2 hy=>?_⟩;obtain⟨b,k,w,h1,rfl,rfl,h4⟩:=hy;have e2:(kvs.map λp=>kD false p.1)[i]?=some (kD false p.1):=by rw[Mx,q];rfl
   rw[g3,Mx,h4] at e2;have e2:some [k]=kD false p.1:=by simpa using e2
   obtain⟨w',h5,h6⟩:=g4.get (i:=i) (e:=p.2) (by rw[Mx,q];rfl);rw[Mx,h4] at h5;cases h5;exact .inr ⟨b,[.d p.1,p.2],[kV k,w],rfl,rfl,h1,rfl,IsL.cons (.of (BY e2.symm)) (IsL.cons h6 IsL.nil)⟩
 ·cases hs
def LS{tp:Pos}(ha:EE X CA a ma)(aT:Nh a "items" X.env (MW a X.env)=MW a X.env)(aU:(aj.endLine == ax.line)=true):EI X CA (.Tuple aE x1 tp) (.Call (.Attribute a "items" aj) [] [] ax) (itemA ma):=PI.imp (Ky ha aT aU) λB H R q=>by
 obtain⟨φ,I,ν,S,i,S',r,n,e1,k⟩:=q;obtain⟨o,S1,e2,e3⟩:=oG e1
 change itemF o S1=some (i,S') at e3
 unfold itemF at e3;split at e3
 ·rename_i m _;split at e3
  ·rename_i kvs hm;cases e3;refine⟨φ,I,ν,S,_,_,r,n,e2,λv H1 af I1 r1 u1 h1=>?_⟩;obtain⟨a',aW,rfl,hh⟩:=r1.dct hm h1
   rcases hh with⟨_,ys,h2,h3⟩ | ⟨z,_⟩
   ·refine⟨a',ys,rfl,h2,λob nf=>?_⟩;obtain⟨b,w,hb,hw,_,_,lk⟩:=r1.lock (S':=S1.set _ (.dct false true kvs)) (by unfold lockS;rw[hm]);rw[aW] at hb;cases hb;rw[show H1 a'=some (.dK ys) from h2] at hw;cases hw;obtain⟨r3,u3⟩:=lk ob
    have ia:I a'=none:=by
     obtain⟨o',e',f,_⟩:=r1.addr aW;rw[hm] at e';cases e';cases q:I a' with
     | none=>rfl
     | some w=>have:=u1.2 _ _ q;rw[f rfl] at this;cases this
    exact k _ _ _ _ r3 (u1.trans u3) (λn hn=>by cases hn;exact⟨a',aW,nf,ia⟩) (Jv aW oK)
   ·cases z
  ·cases e3
 ·cases e3
end
def KeyVs(H:Hp)(u:HO)(zs:List V):Prop:=match u with
 | .dK kvs=>zs=kvs.map λq=>kV q.1
 | .dT kvs=>zs.length=kvs.length/\∀(i:Nat) k y,kvs[i]?=some (k,y)->∃b,zs[i]?=some (.ref b)/\H b=some (.tup (k.map kV))
 | _=>False
section
variable{X:Cx}{H:Hp}{s:e_}{a:h_}
def CS{u:HO}(I:Inv X aa B H s)(hd:Rd H a u)(k:(∃xs,u=.dK xs)\/∃xs,u=.dT xs):(a == ND)=false/\∃zs es ep,RawD s.heap a es ep/\Vals zs (es.toList.map (·.key))/\KeyVs H u zs:=by
 rcases k with⟨xs,rfl⟩ | ⟨xs,rfl⟩
 ·obtain⟨z,sm,vs,aA,o,es,ep,d1,d2,d3,d4,d5,d6⟩:=t8 I.hok hd;refine⟨sm,xs.map (λq:Key×V=>kV q.1),es,ep,⟨o,d1,d2,d3⟩,?_,by unfold KeyVs;rfl⟩
  have key:∀{l:List (Key×V)}{m:List (Key×b_)}{e:List P8},L2.KV l m->Pairs (mixKind X.prog X.w) e m->Vals (l.map λq=>kV q.1) (e.map (·.key)):=by
   intro l m e t
   induction t generalizing e with
   | nil=>intro p;cases p;exact .nil
   | @cons a1 b1 _ _ h t ih =>
    intro p;cases p with
    | cons h1 h2 h3=>exact .cons (by show RelV (kV a1.1) _;rw[h.1];exact zF h1) (ih h3)
  exact key aA d5
 ·obtain⟨z,sm,ys,aA,o,es,ep,d1,d2,d3,d4,d5,d6⟩:=uC I.hok hd;refine⟨sm,ys.map (λx=>V.ref x.2.1),es,ep,⟨o,d1,d2,d3⟩,?_,?_⟩
  ·rw[d4,w_]
   have:∀l:List (List Key×h_×b_),Vals (l.map λx=>V.ref x.2.1) (l.map ((·.key)∘Sh (Pp (mixKind X.prog X.w)))):=λl=>by
    induction l with
    | nil=>exact .nil
    | cons a l ih=>exact .cons rfl ih
   exact this ys
  ·refine⟨by rw[c_];exact(Paired.length aA).symm,λi k y e=>?_⟩
   have key:∀{l:List (List Key×V)}{m:List (List Key×h_×b_)} (i:Nat),L2.KT H l m->l[i]?=some (k,y)->∃b,(m.map λx=>V.ref x.2.1)[i]?=some (.ref b)/\H b=some (.tup (k.map kV)):=by
    intro l m i t
    induction t generalizing i with
    | nil=>intro e;simp at e
    | @cons a1 b1 _ _ h t ih =>
     intro e;cases i with
     | zero =>
      have e:a1=(k,y):=by simpa using e
      subst e;exact⟨b1.2.1,rfl,h.2.1⟩
     | succ i=>exact ih i (by simpa using e)
   exact key i aA e
def rKeys(f:Hp->List V->VK->Prop):List V->Hp->VK->Prop:=λxs H Q=>∃p u,xs=[.ref p]/\Rd H p u/\((∃kv,u=.dK kv)\/∃kv,u=.dT kv)/\∀zs,KeyVs H u zs->f H zs Q
def HK(hu:X.A.units+100 < Ni)(hc:X.calm=true):CallR X (.builtin "sorted") (rKeys λH zs Q=>∃ds,IsA X.K H ds zs/\SortOk ds/\∀l q,Pm ds.length q->permD q ds=sortD ds->H l=none->Q (.ref l) (upd H l (.lst (permV q zs)))):=by
 intro aa s B H xs us Q I r h;obtain⟨p,u,rfl,hd,k,q⟩:=h;obtain⟨v,rfl,rv⟩:=vals1 r;cases rv;obtain⟨sm,zs,es,ep,fw,vz,kz⟩:=CS I hd k;obtain⟨ds,ia,ok,q⟩:=q zs kz;have ln:es.size=ds.length:=by rw[ia.length,vz.length,c_,MP]
 exact tK hu I ia vz ok (λQ' q=>Jx (A:=X.A.in1) (I.ok.hd hc) (by rw[ln];exact ok.1) sm fw q) q
end
section
variable{K:FAa}{CA:Kl}{H:Hp}
def JI{kvs:Kvs}{v:V}(r:Re K CA φ I H S)(h:S[n]?=some (.dct tk lk kvs))(i:IsE K φ I (.ref n) v):∃p u,v=.ref p/\Rd H p u/\((∃kv,u=.dK kv)\/∃kv,u=.dT kv)/\∀zs,KeyVs H u zs->IsA K (allT I H) (kvs.map (·.1)) zs:=by
 obtain⟨a,ha,rfl,hh⟩:=r.dct h i
 rcases hh with⟨rfl,xs,h1,h2⟩ | ⟨rfl,xs,h1,h2⟩
 ·refine⟨a,_,rfl,h1.rd,.inl ⟨xs,rfl⟩,λzs hz=>?_⟩;have hz:zs=xs.map λq=>kV q.1:=hz
  subst hz;clear h1 ha h
  induction kvs generalizing xs with
  | nil=>rw[h2.nil_inv];exact IsA.nil
  | cons p kvs ih =>
   obtain⟨c,w,r',rfl,g1,g2,g3⟩:=h2.cons_inv;exact IsA.cons (BY g1) (ih _ g3 (rfl:r'.map (λq=>kV q.1)=_))
 ·refine⟨a,_,rfl,h1.rd,.inr ⟨xs,rfl⟩,λzs hz=>?_⟩;obtain⟨ln,hz⟩:=(hz:zs.length=xs.length/\∀(i:Nat) k y,xs[i]?=some (k,y)->∃b,zs[i]?=some (.ref b)/\H b=some (.tup (k.map kV)))
  have fS:∀(i:Nat) k y,xs[i]?=some (k,y)->∃b,zs[i]?=some (.ref b)/\allT I H b=some (.tup (k.map kV)):=λi k y e=>by
   obtain⟨b,e1,e2⟩:=hz i k y e;exact⟨b,e1,Af r.iH e2⟩
  clear hz h1 ha h
  induction kvs generalizing xs zs with
  | nil =>
   have:=h2.nil_inv;subst this;have:zs=[]:=Nu.mp ln;subst this;exact IsA.nil
  | cons p kvs ih =>
   obtain⟨c,w,r',rfl,g1,g2,g3⟩:=h2.cons_inv;cases zs with
   | nil=>simp at ln
   | cons z zs =>
    obtain⟨b,e1,e2⟩:=fS 0 c w rfl;have e1:z=.ref b:=by simpa using e1
    subst e1;exact IsA.cons (Bx g1 e2) (ih _ g3 _ (by simpa using ln) λi k y e=>fS (i+1) k y (by simpa using e))
noncomputable def onK(F:List D->Sto->Option (E×Sto)):FL:=λes S=>match es with
 | [.ref n]=>match S[n]? with
  | some (.dct _ _ kvs)=>F (kvs.map (·.1)) S
  | _=>none
 | _=>none
def sortDF(ds:List D)(S:Sto):Option (E×Sto):=if SortOk ds then some (.ref S.length,S++[.lst ((sortD ds).map .d)]) else none
def Ir:CallE K CA (rKeys λH zs Q=>∃ds,IsA K H ds zs/\SortOk ds/\∀l q,Pm ds.length q->permD q ds=sortD ds->H l=none->Q (.ref l) (upd H l (.lst (permV q zs)))) (onK sortDF):=λes S e S' e1 φ I H vs Q r h k=>by
 unfold onK at e1;split at e1
 ·split at e1
  ·rename_i n _ tk lk kvs hn;obtain⟨hl,e2⟩:=o3 (show(if SortOk (kvs.map (·.1)) then some (E.ref S.length,S++[Ob.lst ((sortD (kvs.map (·.1))).map .d)]) else none)=some (e,S') from e1);cases e2;obtain⟨v,rfl,hv⟩:=h.one;obtain⟨p,u,rfl,h1,h2,h3⟩:=JI r hn hv;obtain⟨r2,u2⟩:=r.all;exact⟨p,u,rfl,h1,h2,λzs hz=>⟨_,(h3 zs hz).mono r2.iH,hl,λl q hp he c8=>(k.after u2).newL r2 (pP.mpr (by rw[←he];exact(h3 zs hz).perm hp)) c8⟩⟩
  ·cases e1
 ·cases e1
end
section
variable{X:Cx}{CA:Kl}{a e:y_}{bH p p2:Pos}{ma:MM E}{ml:MM (List E)}
def lrngE(t:MM (List E)):MM E:=bd t λes=>lif λS=>match es with
 | [.d (.int j)]=>if -1000000<=j/\j<=1000000 then some (.ref S.length,S++[.lst (rngL 0 j.toNat)]) else none
 | _=>none
def Km{K:FAa}(n:Nat):IsL K φ I (rngL 0 n) (rngV n):=by
 unfold rngL rngV
 induction MO n with
 | nil=>exact IsL.nil
 | cons k ks ih=>exact IsL.cons (.of (Is.int _)) ih
def Lo(hc:X.calm=true)(hl:Gl X "list")(dA:X.mg "list"=none)(hg:Gl X "range")(hm:X.mg "range"=none)(ha:EA X CA [a] ml)(hs:D_ [a] X.env=[(false,MW a X.env)])(aH:D_ [.Call (.Name "range" p2) [a] [] bH] X.env=[(false,MW (.Call (.Name "range" p2) [a] [] bH) X.env)]):
  EE X CA (.Call (.Name "list" p) [.Call (.Name "range" p2) [a] [] bH] [] pos) (lrngE ml):=PE.imp (CM hc hl dA hg hm ha hs aH) λB H Q q=>by
 tm_at"b";obtain⟨es,S1,e2,e3⟩:=oG e1;refine⟨φ,I,ν,S,es,S1,r,n,e2,λvs H1 af I1 r1 u1 h1=>?_⟩;split at e3
 ·rename_i j;obtain⟨hj,e4⟩:=o3 e3;cases e4;obtain⟨v,rfl,hv⟩:=h1.one;exact⟨_,by rw[oM hv.inv],hj.1,hj.2,λl hl=>(k.after u1).newL r1 (Km _) hl⟩
 ·cases e3
theorem II(hc:X.calm=true)(hl:Gl X "list")(dA:X.mg "list"=none)(ho:PE X a to)(aT:Nh a "values" X.env (MW a X.env)=MW a X.env)(aU:(aj.endLine == ax.line)=true)(aH:D_ [.Call (.Attribute a "values" aj) [] [] ax] X.env=[(false,MW (.Call (.Attribute a "values" aj) [] [] ax) X.env)]):
  PE X (.Call (.Name "list" p) [.Call (.Attribute a "values" aj) [] [] ax] [] pos) (λB H Q=>to B H λx H1=>∃d kvs,x=.ref d/\H1 d=some (.dK kvs)/\kvs.length<=lim/\∀l,H1 l=none->Q (.ref l) (upd H1 l (.lst (kvs.map (·.2))))):=by
 intro aa s B H Q I h;refine T3 (pM I hl dA boot_list (MA ?_ aH rfl));refine OR (O4 aT aU (thn (ho aa s B H _ I h) λv s1 ⟨x,H1,I1,r1,d,kvs,ex,hd,gg,q⟩=>?_));subst ex;cases r1;obtain⟨h1,h2⟩:=sU (x:=.ref d) (v:=.ref d) (T:= "dict") I1 rfl (.inr (.inr (.inl ⟨rfl,.inl ⟨kvs,hd⟩⟩)));refine⟨"dict", "dict.values", PySem.F.plainAttrs_dict,PySem.F.slot_dict_values,PySem.F.type_dict_values,h1,h2,Og rfl (PySem.evalArgs_none ?_)⟩;obtain⟨z,sm,vs,aA,dd⟩:=t9 I1.hok hd;refine call_meetsIn PySem.F.slot_dict_values h1 PySem.F.entry_dict_values (PySem.F.args_dict_values_1 _) (meets_dict_values (mixKind X.prog X.w) d sm) ⟨⟨vs,dd⟩,O9 ?_⟩;obtain⟨ep,mq⟩:=dd.dictAt;have ln:kvs.length=vs.length:=Paired.length aA;refine PySem.W.kdl_call (s:={ s1 with heap:=s1.heap.push { cls:=.type "dict_values", data:=.fields #[.ref d] } }) (PySem.W.kdl_values (knd:=mixKind X.prog X.w) (kvs:=vs) (ep:=ep) (d:=d) (r:=s1.heap.objs.size)) (I1.ok.hd hc) ⟨⟨_,r_ _ rfl,rfl,rfl⟩,mq.push _⟩ (by rw[←ln];exact ql gg) λh' tk ac c keep hS it=>?_
 have ea:ac.toList=vs.map (·.2):=PySem.W.kdl_vals_eq _ (by rw[MP];exact it.1) λj v e=>it.2 j v (by rw[←PU];exact e)
 have vz:Vals (kvs.map (·.2)) ac.toList:=by
  rw[ea]
  have:∀{l:List (Key×V)}{m:List (Key×b_)},L2.KV l m->Vals (l.map (·.2)) (m.map (·.2)):=by
   intro l m t
   induction t with
   | nil=>exact .nil
   | cons h t ih=>exact .cons h.2 ih
  exact this aA
 have sz:(s1.heap.push { cls:=.type "dict_values", data:=.fields #[.ref d] }).objs.size=s1.heap.objs.size+1:=Na ..;have up:s1.heap.objs.size<=(s1.heap.push { cls:=.type "dict_values", data:=.fields #[.ref d] }).objs.size:=by omega
 refine⟨.ref (s1.heap.push { cls:=.type "dict_values", data:=.fields #[.ref d] }).objs.size,_,I1.laid (t':=tk) (o:=.lst (kvs.map (·.2))) (λb o e=>keep b o (f_ _ e)) up ⟨by rw[c_];exact ql gg,ac.toList,c,vz,by rw[Array.toArray_toList];exact hS⟩,rfl,q _ (I1.hok.fresh up)⟩
def lvalE(m:MM E):MM E:=bd m λo=>lif λS=>match o with
 | .ref n=>match S[n]? with
  | some (.dct false false kvs)=>if kvs.length<=lim then some (.ref S.length,S++[.lst (kvs.map (·.2))]) else none
  | _=>none
 | _=>none
def De(hc:X.calm=true)(hl:Gl X "list")(dA:X.mg "list"=none)(ha:EE X CA a ma)(aT:Nh a "values" X.env (MW a X.env)=MW a X.env)(aU:(aj.endLine == ax.line)=true)(aH:D_ [.Call (.Attribute a "values" aj) [] [] ax] X.env=[(false,MW (.Call (.Attribute a "values" aj) [] [] ax) X.env)]):
  EE X CA (.Call (.Name "list" p) [.Call (.Attribute a "values" aj) [] [] ax] [] pos) (lvalE ma):=PE.imp (II hc hl dA ha aT aU aH) λB H Q q=>by
 tm_at"b";obtain⟨o,S1,e2,e3⟩:=oG e1;refine⟨φ,I,ν,S,o,S1,r,n,e2,λv H1 af I1 r1 u1 h1=>?_⟩;unfold lif at e3;split at e3
 ·dsimp only at e3;split at e3
  ·rename_i m _ kvs hm;obtain⟨hl,e4⟩:=o3 e3;cases e4;obtain⟨a',aW,rfl,hh⟩:=r1.dct hm h1
   rcases hh with⟨_,ys,h2,h3⟩ | ⟨z,_⟩
   ·exact⟨a',ys,rfl,h2,by rw[←h3.len];exact hl,λl c8=>(k.after u1).newL r1 h3.2 c8⟩
   ·cases z
  ·cases e3
 ·cases e3
theorem K5{prog:E_}{w:Mo}{A:Mn}{E':b_->e_->Prop}{s:e_}{t:h_}{x:b_}{tk:Tok}{Q:b_->e_->Prop}(ht:R8 s.heap t #[x])(hn:n<=1)(h1:n=1->Q (.ref t) s)(h0:n=0->Q (.ref s.heap.objs.size) { s with heap:=s.heap.push { cls:=.type "tuple", data:=.seq #[] } }):u_ (t_ prog w) A (NG .Mult (.ref t) (.int (n:Int) tk)) Q E' s:=by
 obtain⟨⟨cls,d,data,sl⟩,ho,ba,k,hd⟩:=id ht;subst ba hd
 refine Qw (T:= "tuple") (U:= "int") (by decide) ht.typeIs (λs'=>Rm s' n tk) Bl PySem.F.fills_int_mul PySem.F.slot_int_rmul yR PySem.F.slot_int_index.lookup
  (Qg PySem.F.slot_int_rmul (Rm s n tk) PySem.F.entry_int_rmul (PySem.F.args_int_rmul_2 _ _) (AI n tk t #[x] k d sl) ⟨ho,rfl,⟨_,ho,rfl⟩,?_⟩)
 refine MI PySem.F.slot_tuple_mul ht.typeIs PySem.F.entry_tuple_mul ?_ (PySem.F.args_tuple_mul_2 _ _);obtain⟨j,hj⟩:∃j:Int,j=n:=⟨_,rfl⟩;rw[←hj];refine a_ (NH (a:=j) rfl ?_);have c1:¬((decide (j < -(2 ^ 63))||decide (j>=2 ^ 63))=true):=by simp;omega
 rw[if_neg c1];refine a_ (Sa ht ?_)
 rcases Nat.le_one_iff_eq_zero_or_eq_one.mp hn with z | z
 ·have c2:¬(((#[x]:Array b_).isEmpty||j == 1)=true):=by simp;omega
  have c3:(decide (j<=0)||(#[x]:Array b_).isEmpty)=true:=by simp;omega
  rw[if_neg c2,if_pos c3]
  first
   | exact a_ (m:=Of _) (K_ (d_ ⟨_,rfl,h0 z⟩))
   | exact a_ (m:=Of _) (K_ (d_ ⟨_,rfl,d_ (h0 z)⟩))
   | exact a_ (a_ (m:=Of _) (K_ (d_ ⟨_,rfl,d_ (h0 z)⟩)))
   | exact a_ (a_ (m:=Of _) (K_ (d_ (d_ ⟨_,rfl,h0 z⟩))))
 ·have c2:((#[x]:Array b_).isEmpty||j == 1)=true:=by simp;omega
  rw[if_pos c2];refine a_ (a_ (OC ht.typeIs (d_ ?_)))
  first
   | exact a_ (Pr (d_ ⟨_,rfl,h1 z⟩))
   | exact a_ (Pr (d_ ⟨_,rfl,d_ (h1 z)⟩))
def rMul1(K:FAa):R2:=λx y H Q=>∃(c:h_) (u:V) (n:Nat),x=.ref c/\y=.int n/\SqT K H c [u]/\n<=1000/\(n=1->Q (.ref c) H)/\(n≠1->∀l,H l=none->Q (.ref l) (upd H l (.tup (Mm n u))))
def Jl:OpR X (NG .Mult) (rMul1 X.K):=by
 tm_at"g";obtain⟨c,z,n,rfl,rfl,hc,hn,q1,q⟩:=h;by_cases h2:2<=n
 ·exact K2 aa s B H (.ref c) (.int n) v u Q I rx ry ⟨c,z,n,rfl,rfl,hc,h2,hn,q ⋯⟩
 ·cases rx;obtain⟨tk,rfl⟩:=ry;obtain⟨ab,r,ht,hz⟩:=I.tuple hc;obtain⟨w,rfl,bz⟩:=r.one;refine K5 ht ⋯ (λe=>⟨.ref c,H,I,rfl,q1 e⟩) λe=>?_
  subst e;exact⟨.ref _,_,I.laid (t':=s.toks) (o:=.tup []) (λb ob q=>f_ _ q) (s_ _) ⟨Mu _,[],.nil,⟨_,r_ _ rfl,rfl,_,rfl⟩⟩,rfl,q ⋯ _ (I.hok.fresh (s_ _))⟩
def mul1:F2:=λa b S=>match unT a,b with
 | some [x],.d (.int n)=>if 0<=n/\n<=1000 then some (mkT (Mm n.toNat x),S) else none
 | _,_=>none
theorem AL{K:FAa}{φ:List h_}{I:Hp}{e:E}{v:V}(h:IsE K φ I e v):∀n,IsL K φ I (Mm n e) (Mm n v)
 | 0=>IsL.nil
 | n+1=>IsL.cons h (AL h n)
def JD{K:FAa}:OpE K CA (rMul1 K) mul1:=λa b S e S' e1 φ I H x y Q r hx hy k=>by
 unfold mul1 at e1;split at e1
 ·rename_i x0 n q;obtain⟨hn,e2⟩:=o3 e1;cases e2;obtain⟨p,zs,rfl,h1,h2⟩:=qC q hx;obtain⟨z1,rfl,g1⟩:=h2.one;obtain⟨m,rfl⟩:=NB hn.1;refine⟨p,z1,m,rfl,oM hy.inv,SqT.of (r.iH _ _ h1),⋯,λz=>?_,λ_ l hl=>?_⟩
  ·subst z;exact k.now r (qk h1 h2)
  ·obtain⟨r2,u2⟩:=r.tup hl (Mm m z1);exact k _ _ _ _ r2 u2 (qk oK ((AL g1 m).mono u2))
 ·cases e1
end
noncomputable def notStar:y_->Bool
 | .Starred _ _=>false
 | _=>true
def qD{e:y_}{es:List y_}(h:notStar e=true):D_ (e::es) env=(false,MW e env)::D_ es env:=by cases e<;>first | rfl | cases h
theorem uW{pos:Pos}{env:Env}:∀{es:List y_},es.all notStar=true->(N4 pos (D_ es env)).any (·.1)=false
 | [],_=>rfl
 | e::es,h=>by
  rw[Nw,k_] at h;rw[qD h.1];show(false||(N4 pos (D_ es env)).any (·.1))=false;rw[uW h.2];rfl
theorem vA{pos:Pos}{env:Env}:∀{es:List y_},es.all notStar=true->(N4 pos (D_ es env)).all (λx=>!x.1)=true
 | [],_=>rfl
 | e::es,h=>by
  rw[Nw,k_] at h;rw[qD h.1];show(true&&(N4 pos (D_ es env)).all (λx=>!x.1))=true;rw[vA h.2];rfl
def pX{e:y_}(h:notStar e=true):D_ [e] env=[(false,MW e env)]:=qD h
def zw{e f:y_}(h:notStar e=true)(h':notStar f=true):D_ [e,f] env=[(false,MW e env),(false,MW f env)]:=by rw[qD h,qD h'];rfl
theorem zT{env:Env}:∀{es:List y_},(M7 es env).length=es.length
 | []=>rfl
 | e::es=>by
  have:=zT (env:=env) (es:=es);cases e<;>(show(M7 es env).length+1=es.length+1;rw[this])
def C0{e:y_}{es:List y_}(h:notStar e=true):(M7 (e::es) env).map (·.2)=Rg e env::(M7 es env).map (·.2):=by cases e<;>first | rfl | cases h
theorem BI{env:Env}:∀{es:List y_},es.all notStar=true->(M7 es env).findIdx? (·.1)=none
 | [],_=>rfl
 | e::es,h=>by
  rw[Nw,k_] at h;have ih:=BI (env:=env) h.2;have e1:∃f,M7 (e::es) env=(false,f)::M7 es env:=by cases e<;>first | exact⟨_,rfl⟩ | (cases h.1)
  obtain⟨f,e1⟩:=e1;rw[e1,Sr,ih];rfl
noncomputable def notComp:y_->Bool
 | .ListComp ..=>false
 | .SetComp ..=>false
 | .DictComp ..=>false
 | _=>true
def Aw{e:y_}{t:Option y_}{l:Nat}(h:notComp e=true):N6 e t l env=pure false:=by cases e<;>first | rfl | cases h
def K4{e o:y_}{f:Str}{p:Pos}{l:Nat}:N6 e (some (.Attribute o f p)) l env=pure false:=by cases e<;>rfl
def Em{e o i:y_}{p:Pos}{l:Nat}:N6 e (some (.Subscript o i p)) l env=pure false:=by cases e<;>rfl
noncomputable def notTup:y_->Bool
 | .Tuple ..=>false
 | _=>true
def JL{ts:List y_}{k:Nat}{p:Pos}{e:y_}(h:notTup e=true):QM [.Tuple ts k p] e env=pure none:=by cases e<;>first | rfl | cases h
def xK{x:Str}{p:Pos}{e:y_}:QM [.Name x p] e env=pure none:=by cases e<;>rfl
noncomputable def notSet:y_->Bool
 | .Set ..=>false
 | _=>true
def uB{e:y_}(h:notSet e=true)(x:b_):NJ e env x=pure x:=by cases e<;>first | rfl | cases h
noncomputable def baseOk:y_->Bool
 | .Call (.Name _ _) [] [] _=>false
 | _=>true
def rg{o:y_}{f:Str}{w:Sem b_}(h:baseOk o=true):Nh o f env w=w:=by
 unfold Nh;split
 ·cases h
 ·rfl
noncomputable def plainT:y_->Bool
 | .Name ..=>true
 | .Call ..=>true
 | .Attribute ..=>true
 | .Subscript ..=>true
 | .Constant ..=>true
 | _=>false
def Jg{e:y_}(h:plainT e=true):∀aG,SY e env aG=(do let v ←aG;Qz e.pos;OA [v] (truthy v)):=by
 intro aG;cases e<;>first | rfl | cases h
def xP{o:y_}{m:Str}{es:List y_}(hb:baseOk o=true)(hs:es.all notStar=true)(hn:es.length < 29)(hl:(aj.endLine == pos.line)=true):
  MW (.Call (.Attribute o m aj) es [] pos) env=(do
   let ov ←MW o env
   Qz aj.atName
   let (f,first) ←OA [ov] (RS ov m (do return (←importBound o env).getD true))
   callWith pos f first (N4 pos (D_ es env)) (QY pos (O2 [] env))):=by
 have few:methodCallForm (es.length+([]:List SC).length) (N4 pos (D_ es env)) (QY pos (O2 [] env))=true:=by
  unfold methodCallForm;rw[vA hs];show(true&&true&&decide (es.length+0+0 < 30))=true;simp;omega
 show(do
  let ov ←Nh o m env (MW o env)
  Qz aj.atName
  methodCall o m aj pos env ov (es.length+([]:List SC).length) (N4 pos (D_ es env)) (QY pos (O2 [] env)))=_
 rw[rg hb];unfold methodCall calleeOf methodCallPos;rw[few];simp only[if_true,QU,Bool.false_or,hl,pure_bind]
def CI{e:y_}{es:List y_}(hs:(e::es).all notStar=true)(hn:(e::es).length < 29):
  ((N4 ax (D_ (e::es) env)).all (λx=>!x.1)&&(QY ax (O2 [] env)).all (λx=>x.1.isSome)
    &&decide ((e::es).length+([]:List SC).length+(if([]:List SC).isEmpty then 0 else 1) < 30))=true:=by
 rw[vA hs];show(true&&true&&decide ((e::es).length+0+0 < 30))=true;simp;simp at hn;omega
noncomputable def no2:F2:=λ_ _ _=>none
noncomputable def noL:FL:=λ_ _=>none
noncomputable def or2(F F':F2):F2:=λa b S=>match F a b S with
 | some z=>some z
 | none=>F' a b S
noncomputable def orL(F F':FL):FL:=λes S=>match F es S with
 | some z=>some z
 | none=>F' es S
section
variable {X:Cx}{K:FAa}{CA:Kl}
def CallE.or{r r':List V->Hp->VK->Prop}{F F':FL}(h:CallE K CA r F)(h':CallE K CA r' F'):CallE K CA (λxs H Q=>r xs H Q\/r' xs H Q) (orL F F'):=λes S e S' e1 φ I H xs Q rr hx k=>by
 unfold orL at e1;split at e1
 ·rename_i z q;cases e1;exact .inl (h _ _ _ _ q _ _ _ _ _ rr hx k)
 ·exact .inr (h' _ _ _ _ e1 _ _ _ _ _ rr hx k)
def OpOk(X:Cx)(CA:Kl)(f:b_->b_->Sem b_)(F:F2):Prop:=∃r,OpR X f r/\OpE X.K CA r F
def OpOk.no{f:b_->b_->Sem b_}:OpOk X CA f no2:=⟨λ_ _ _ _=>False,λ_ _ _ _ _ _ _ _ _ _ _ _ h=>h.elim,λ_ _ _ _ _ h=>by cases h⟩
theorem OpOk.or{f:b_->b_->Sem b_}{F:F2}(h:OpOk X CA f F)(h':OpOk X CA f F'):OpOk X CA f (or2 F F'):=by
 obtain⟨r,a,b⟩:=h;obtain⟨r',a',b'⟩:=h';exact⟨_,a.or a',b.or b'⟩
def opF:Sx->F2
 | .Add=>addE
 | .Sub=>subE
 | .Mult=>or2 mulE mul1
 | .Mod=>modE
 | .FloorDiv=>divE
 | .Pow=>powE
 | _=>no2
def Jh(op:Sx):OpOk X CA (NG op) (opF op):=by
 cases op
 case Add=>exact⟨_,HF.or (Es.or (GL.or EM)),CY⟩
 case Sub=>exact⟨_,J4,oi0⟩
 case Mult=>exact OpOk.or ⟨_,IH,oi λi j h=>by simpa[CMul] using h⟩ ⟨_,Jl,JD⟩
 case Mod=>exact⟨_,Ep,oi λi j h=>by simpa using h⟩
 case FloorDiv=>exact⟨_,Gh,oi λi j h=>by simpa[CDivW] using h⟩
 case Pow=>exact⟨_,Cn,oi λi j h=>by simpa[CPow] using h⟩
 all_goals exact .no
def cmpF:CmpOp->F2
 | .Eq=>eqE false
 | .NotEq=>eqE true
 | .Lt=>ltE
 | .LtE=>leE
 | .Gt=>gtE
 | .GtE=>geE
 | .Is=>isE false
 | .IsNot=>isE true
 | .In=>inE false
 | .NotIn=>inE true
def rM(hu:X.A.units+100 < Ni)(op:CmpOp):OpOk X CA (MX op) (cmpF op):=by
 cases op
 case Eq=>exact⟨_,Jo hu,o_eq⟩
 case NotEq=>exact⟨_,K3 hu,o_eq⟩
 case Lt=>exact⟨_,Ls,ob0⟩
 case LtE=>exact⟨_,Lm,ob0⟩
 case Gt=>exact⟨_,IT,ob0⟩
 case GtE=>exact⟨_,GF,ob0⟩
 case Is=>exact⟨_,Kf,o_is⟩
 case IsNot=>exact⟨_,DJ,D5⟩
 case In=>exact⟨_,DQ hu,xH⟩
 case NotIn=>exact⟨_,Hm hu,xH⟩
def BiOk(X:Cx)(CA:Kl)(x:Str)(F:FL):Prop:=∃r,CallE X.K CA r F/\((∃id,CallR X (.builtin id) r/\NW x=some (.builtin id))\/∃T,CallR X (.type T) r/\NW x=some (.type T))
def biF(x:Str):Option FL:=
 bif x == "len" then some lenE else
 bif x == "list" then some listE else
 bif x == "tuple" then some tupleE else
 bif x == "any" then some (onB (·.any id)) else
 bif x == "all" then some (onB (·.all id)) else
 bif x == "min" then some (orL (two λi j=>if j < i then j else i) minPE) else
 bif x == "max" then some (two λi j=>if j > i then j else i) else
 bif x == "sorted" then some (orL sortE (onK sortDF)) else none
def oV{α:Type}{c:Bool}{a b:Option α}{z:α}(h:(bif c then a else b)=some z):(c=true/\a=some z)\/(c=false/\b=some z):=by
 cases c
 ·exact .inr ⟨rfl,h⟩
 ·exact .inl ⟨rfl,h⟩
def GO(hu:X.A.units+100 < Ni)(hc:X.calm=true){x:Str}{F:FL}(h:biF x=some F):BiOk X CA x F:=by
 unfold biF at h
 rcases oV h with⟨e,h⟩ | ⟨_,h⟩
 ·cases h;cases beq_iff_eq.mp e;exact⟨_,Ln,.inl ⟨_,Cg,by kernel_rfl⟩⟩
 rcases oV h with⟨e,h⟩ | ⟨_,h⟩
 ·cases h;cases beq_iff_eq.mp e;exact⟨_,Ks,.inr ⟨_,LN,by kernel_rfl⟩⟩
 rcases oV h with⟨e,h⟩ | ⟨_,h⟩
 ·cases h;cases beq_iff_eq.mp e;exact⟨_,Hs,.inr ⟨_,GI,by kernel_rfl⟩⟩
 rcases oV h with⟨e,h⟩ | ⟨_,h⟩
 ·cases h;cases beq_iff_eq.mp e;exact⟨_,Bg,.inl ⟨_,E5 hc,by kernel_rfl⟩⟩
 rcases oV h with⟨e,h⟩ | ⟨_,h⟩
 ·cases h;cases beq_iff_eq.mp e;exact⟨_,Bg,.inl ⟨_,Hr hc,by kernel_rfl⟩⟩
 rcases oV h with⟨e,h⟩ | ⟨_,h⟩
 ·cases h;cases beq_iff_eq.mp e;exact⟨_,yz.or EX,.inl ⟨_,(Ew hc).or (Lw hc hu),by kernel_rfl⟩⟩
 rcases oV h with⟨e,h⟩ | ⟨_,h⟩
 ·cases h;cases beq_iff_eq.mp e;exact⟨_,yz,.inl ⟨_,EZ hc,by kernel_rfl⟩⟩
 rcases oV h with⟨e,h⟩ | ⟨_,h⟩
 ·cases h;cases beq_iff_eq.mp e;exact⟨_,Hz.or Ir,.inl ⟨_,(HY hu).or (HK hu hc),by kernel_rfl⟩⟩
 ·cases h
end
def kindE(o:E):MM Bool:=λ_ S=>match o with
 | .ref n=>match S[n]? with
  | some (.lst _)=>some (true,S)
  | some (.dct _ false _)=>some (false,S)
  | _=>none
 | _=>none
def yi{o:E}{b:Bool}(h:kindE o ν S=some (b,S')):S'=S/\∃n,o=.ref n/\((b=true/\∃xs,S[n]?=some (.lst xs))\/(b=false/\∃tk kvs,S[n]?=some (.dct tk false kvs))):=by
 unfold kindE at h;split at h
 ·split at h
  ·cases h;exact⟨rfl,_,rfl,.inl ⟨rfl,_,by assumption⟩⟩
  ·cases h;exact⟨rfl,_,rfl,.inr ⟨rfl,_,_,by assumption⟩⟩
  ·cases h
 ·cases h
def mbE(Fl Fd:FM)(mo:MM E)(t:MM (List E)):MM E:=bd mo λo=>bd (kindE o) λb=>bd t λes=>lif (bif b then Fl o es else Fd o es)
noncomputable def noM:FM:=λ_ _ _=>none
section
variable{X:Cx}{CA:Kl}{o e:y_}{es:List y_}{m x:Str}{p:Pos}{mo:MM E}{t:MM (List E)}{Fl Fd:FM}{ar:Nat}{g:FL}{G:Str->FL}
def MbOk(X:Cx)(CA:Kl)(T:String)(m:Str)(F:FM):Prop:=∃r id,TL T/\Slot T m id/\S8 (.builtin id)=pure (.type "method_descriptor")/\MtR X id r/\MtE X.K CA r F
def MbOr(X:Cx)(CA:Kl)(T:String)(m:Str)(F:FM):Prop:=F=noM\/MbOk X CA T m F
noncomputable def asT(b:Bool):String:=if b then "list" else "dict"
inductive tMb(X:Cx)(CA:Kl)(Fl Fd:FM)(mo:MM E)(t:MM (List E))(b:Bool)(B:L2.St)(H:Hp)(Q:VK):Prop | mk (φ:List h_) (I:Hp) (ν:Nms) (S:Sto) (e:E) (S':Sto):Re X.K CA φ I H S->Nk X.K φ I ν B->mbE Fl Fd mo t ν S=some (e,S')->KE X.K CA φ I S' e Q->(∀o S1,mo ν S=some (o,S1)->∃S2,kindE o ν S1=some (b,S2))->tMb X CA Fl Fd mo t b B H Q
def xY{K:FAa}{H:Hp}{b:Bool}{v:V}(r:Re K CA φ I H S)(h:(b=true/\∃xs,S[n]?=some (.lst xs))\/(b=false/\∃tk kvs,S[n]?=some (.dct tk false kvs)))(i:IsE K φ I (.ref n) v):tyV K (asT b) v H:=by
 rcases h with⟨rfl,xs,h⟩ | ⟨rfl,tk,kvs,h⟩
 ·obtain⟨a,ys,rfl,_,h1,_⟩:=r.lst h i;exact .inl ⟨rfl,ys,(RdK.of h1).sq⟩
 ·obtain⟨a,_,rfl,hh⟩:=r.dct h i;refine .inr (.inr (.inl ⟨rfl,?_⟩))
  rcases hh with⟨_,xs,h1,_⟩ | ⟨_,xs,h1,_⟩
  ·exact .inl ⟨xs,h1⟩
  ·exact .inr ⟨xs,h1⟩
def D0{b:Bool}{r:V->List V->Hp->VK->Prop}{K:FAa}{X:Cx}(hK:X.K=K)(h:MtE K CA r (bif b then Fl else Fd)):∀B H Q,tMb X CA Fl Fd mo t b B H Q->tBM K (asT b) r (tE K CA mo) (tL K CA t) B H Q:=λB H Q q=>by
 subst hK;obtain⟨φ,I,ν,S,e,S',r0,n,e1,k,ba⟩:=q;obtain⟨o,S1,e2,e3⟩:=oG e1;obtain⟨b',S2,e4,e5⟩:=oG e3;obtain⟨es,S3,e6,e7⟩:=oG e5;obtain⟨f7,q⟩:=ba o S1 e2;rw[e4] at q;cases q;obtain⟨rfl,nn,rfl,hk⟩:=yi e4;refine⟨φ,I,ν,S,_,_,r0,n,e2,λv H1 af I1 r1 u1 h1=>⟨xY r1 hk h1,af,I1,ν,_,es,S3,r1,n.mono u1,e6,λvs H2 ao I2 r2 u2 h2=>?_⟩⟩;have e8:(bif b then Fl else Fd) (.ref nn) es S3=some (e,S'):=by cases b<;>exact e7
 exact h _ _ _ _ _ e8 ao I2 H2 v vs Q r2 (h1.mono u2) h2 (k.after (u1.trans u2))
def Dk{b:Bool}{r:V->List V->Hp->VK->Prop}{K:FAa}{X:Cx}(hK:X.K=K)(h:MtE K CA r (bif b then Fl else Fd)):∀B H Q,tMb X CA Fl Fd mo nilE b B H Q->tBM0 K (asT b) r (tE K CA mo) B H Q:=λB H Q q=>by
 subst hK;obtain⟨φ,I,ν,S,e,S',r0,n,e1,k,ba⟩:=q;obtain⟨o,S1,e2,e3⟩:=oG e1;obtain⟨b',S2,e4,e5⟩:=oG e3;obtain⟨es,S3,e6,e7⟩:=oG e5;cases e6;obtain⟨f7,q⟩:=ba o S1 e2;rw[e4] at q;cases q;obtain⟨rfl,nn,rfl,hk⟩:=yi e4;refine⟨φ,I,ν,S,_,_,r0,n,e2,λv H1 af I1 r1 u1 h1=>⟨xY r1 hk h1,?_⟩⟩;have e8:(bif b then Fl else Fd) (.ref nn) [] S2=some (e,S'):=by cases b<;>exact e7
 exact h _ _ _ _ _ e8 af I1 H1 v [] Q r1 h1 IsL.nil (k.after u1)
def Aq{F:FM}{b:Bool}(h:(bif b then Fl else Fd)=noM):∀{B:L2.St}{H:Hp}{Q:VK},¬tMb X CA Fl Fd mo t b B H Q:=λq=>by
 obtain⟨φ,I,ν,S,e,S',r0,n,e1,k,ba⟩:=q;obtain⟨o,S1,e2,e3⟩:=oG e1;obtain⟨b',S2,e4,e5⟩:=oG e3;obtain⟨es,S3,e6,e7⟩:=oG e5;obtain⟨f7,q⟩:=ba o S1 e2;rw[e4] at q;cases q;have e8:(bif b then Fl else Fd) o es S3=some (e,S'):=by cases b<;>exact e7
 rw[h] at e8;cases e8
def ya{H:Hp}{Q:VK}(q:tE X.K CA (mbE Fl Fd mo t) B H Q):tMb X CA Fl Fd mo t true B H Q\/tMb X CA Fl Fd mo t false B H Q:=by
 obtain⟨φ,I,ν,S,e,S',r0,n,e1,k⟩:=q;obtain⟨o,S1,e2,e3⟩:=oG e1;obtain⟨b',S2,e4,e5⟩:=oG e3
 have fin:∀o' gh,mo ν S=some (o',gh)->∃S2,kindE o' ν gh=some (b',S2):=λo' gh e=>by
  rw[e2] at e;cases e;exact⟨_,e4⟩
 cases b' with
 | true=>exact .inl ⟨φ,I,ν,S,e,S',r0,n,e1,k,fin⟩
 | false=>exact .inr ⟨φ,I,ν,S,e,S',r0,n,e1,k,fin⟩
def Ce(hl:MbOr X CA "list" m Fl)(hd:MbOr X CA "dict" m Fd)(ho:EE X CA o mo)(ha:EA X CA (e::es) t)(hb:baseOk o=true)(hs:(e::es).all notStar=true)(hn:(e::es).length < 29)(cD:(aj.endLine == pos.line)=true):
  EE X CA (.Call (.Attribute o m aj) (e::es) [] pos) (mbE Fl Fd mo t):=by
 have ei:notStar e=true/\es.all notStar=true:=by rw[Nw,k_] at hs;exact hs
 have one:∀b,MbOr X CA (asT b) m (bif b then Fl else Fd)->PE X (.Call (.Attribute o m aj) (e::es) [] pos) (tMb X CA Fl Fd mo t b):=λb h=>by
  rcases h with h | ⟨r,id,pa,sl,ty,h1,h2⟩
  ·exact λaa s B H Q I q=>(Aq (F:=Fl) h q).elim
  ·exact PE.imp (Lp pa sl ty h1 ho ha (rg hb) (CI hs hn) cD (qD ei.1) (uW ei.2)) (D0 rfl h2)
 exact PE.or (one true hl) (one false hd) λB H Q q=>ya q
def FJ(hl:MbOr X CA "list" m Fl)(hd:MbOr X CA "dict" m Fd)(ho:EE X CA o mo)(hb:baseOk o=true)(cD:(aj.endLine == pos.line)=true):
  EE X CA (.Call (.Attribute o m aj) [] [] pos) (mbE Fl Fd mo nilE):=by
 have one:∀b,MbOr X CA (asT b) m (bif b then Fl else Fd)->PE X (.Call (.Attribute o m aj) [] [] pos) (tMb X CA Fl Fd mo nilE b):=λb h=>by
  rcases h with h | ⟨r,id,pa,sl,ty,h1,h2⟩
  ·exact λaa s B H Q I q=>(Aq (F:=Fl) h q).elim
  ·exact PE.imp (Hf pa sl ty h1 ho (rg hb) cD) (Dk rfl h2)
 exact PE.or (one true hl) (one false hd) λB H Q q=>ya q
def mbF(m:Str)(few:Nat):Option (FM×FM):=
 bif m == "append" then some (appE,noM) else
 bif m == "extend" then some (extE,noM) else
 bif m == "remove" then some (rmE,noM) else
 bif m == "pop" then some (popAE,noM) else none
theorem C5(hu:X.A.units+100 < Ni)(h:mbF m few=some (Fl,Fd)):MbOr X CA "list" m Fl/\MbOr X CA "dict" m Fd:=by
 rcases oV h with⟨e,h⟩ | ⟨_,h⟩
 ·cases h;cases beq_iff_eq.mp e;exact⟨.inr ⟨_,_,PZ,PySem.F.slot_list_append,PySem.F.type_list_append,AO,GS⟩,.inl rfl⟩
 rcases oV h with⟨e,h⟩ | ⟨_,h⟩
 ·cases h;cases beq_iff_eq.mp e;exact⟨.inr ⟨_,_,PZ,PySem.F.slot_list_extend,PySem.F.type_list_extend,Fz,GN⟩,.inl rfl⟩
 rcases oV h with⟨e,h⟩ | ⟨_,h⟩
 ·cases h;cases beq_iff_eq.mp e;exact⟨.inr ⟨_,_,PZ,PySem.F.slot_list_remove,PySem.F.type_list_remove,Ih hu,m_rm⟩,.inl rfl⟩
 rcases oV h with⟨e,h⟩ | ⟨_,h⟩
 ·cases h;cases beq_iff_eq.mp e;exact⟨.inr ⟨_,_,PZ,PySem.F.slot_list_pop,PySem.F.type_list_pop,ED,FV⟩,.inl rfl⟩
 ·cases h
def pU(hs:(e::es).all notStar=true):D_ (e::es) env=(false,MW e env)::D_ es env/\(N4 pos (D_ es env)).any (·.1)=false:=by
 rw[Nw,k_] at hs;exact⟨qD hs.1,uW hs.2⟩
structure FnHas(X:Cx)(CA:Kl)(x:Str)(g:FL):Prop where
 ex:∃ar k f fd ps,arE ar g=g/\FnOk X.prog X.w X.K X.mg X.base CX0 k f fd ps (spE X.K CA ar g)/\Room k X.A/\X.mg x=some (.ref f)/\QQ X.K (.ref f)=true/\Binds X.K fd ps []
structure MkHas(X:Cx)(CA:Kl)(x:Str)(g:FL):Prop where
 ex:∃ar k f fd ps,arE ar g=g/\FnOk X.prog X.w X.K X.mg X.base CX0 k f fd ps (spE X.K CA ar g)/\Room (k+1) X.A/\X.mg x=some (.ref (CA.at' x))/\Mk X.K (CA.at' x) f/\Binds X.K fd ps []
 cl:x∈CA.cl
structure MeHas(X:Cx)(CA:Kl)(c m:Str)(g:FL):Prop where
 ex:∃ar k f fd ps,arE ar g=g/\FnOk X.prog X.w X.K X.mg X.base CX0 k f fd ps (spE X.K CA ar g)/\Room k X.A/\Meth X.K (CA.at' c) m f/\Binds X.K fd ps []
 cl:c∈CA.cl
def G2(h:FnHas X CA x g)(hg:Gl X x)(aX:(x == ("__debug__":Str))=false)(ha:EA X CA es t)(hs:es.all notStar=true)(hn:es=[]->t=nilE):EE X CA (.Call (.Name x p) es [] pos) (fn g t):=by
 obtain⟨ar,k,f,fd,ps,e1,F,hr,hm,hk,hb⟩:=h.ex;rw[←e1];cases es with
 | nil =>
  rw[hn rfl];exact PE.imp (Fu (dvs:=[]) (ds:=[]) F hr hg hm hk hb .nil pass0 aX) (IP)
 | cons e es=>exact PE.imp (IC (dvs:=[]) (ds:=[]) F hr hg hm hk hb .nil pass0 ha aX (pU (pos:=pos) hs).1 (pU hs).2) (F7)
def Co(h:MkHas X CA x g)(hg:Gl X x)(aX:(x == ("__debug__":Str))=false)(ha:EA X CA es t)(hs:es.all notStar=true)(hn:es=[]->t=nilE):EE X CA (.Call (.Name x p) es [] pos) (mkE x g t):=by
 obtain⟨ar,k,f,fd,ps,e1,F,hr,hm,hk,hb⟩:=h.ex;rw[←e1];cases es with
 | nil =>
  rw[hn rfl];exact PE.imp (Gf (dvs:=[]) (ds:=[]) hk F hr hg hm hb .nil pass0 aX) (Ck h.cl)
 | cons e es=>exact PE.imp (JK (dvs:=[]) (ds:=[]) hk F hr hg hm hb .nil pass0 ha aX (pU (pos:=pos) hs).1 (pU hs).2) (LZ h.cl)
def Gb(C:ClsOk X.K CA)(hm:m∉CA.fl)(h:∀c,G c=noL\/MeHas X CA c m (G c))(ho:EE X CA o mo)(ha:EA X CA es t)(hb:baseOk o=true)(hs:es.all notStar=true)(hn:es.length < 29)(cD:(aj.endLine == pos.line)=true)(h0:es=[]->t=nilE):
  EE X CA (.Call (.Attribute o m aj) es [] pos) (meE G mo t):=λaa s B H Q Iv q=>by
 obtain⟨φ,I,ν,S,e,S',r0,n,e1,k⟩:=q;obtain⟨o',S1,e2,e3⟩:=oG e1;obtain⟨c,S2,e4,e5⟩:=oG e3
 have fin:∀o S1,mo ν S=some (o,S1)->∃S2,clsE o ν S1=some (c,S2):=λo' gh e=>by
  rw[e2] at e;cases e;exact⟨_,e4⟩
 rcases h c with z | z
 ·obtain⟨es',S3,e6,e7⟩:=oG e5;rw[z] at e7;cases e7
 ·obtain⟨ar,kk,f,fd,ps,a1,F,hr,jQ,iB⟩:=z.ex;cases es with
  | nil =>
   rw[h0 rfl] at e1;exact LB (dvs:=[]) (ds:=[]) (pl:=_) ho (C.cls c z.cl) jQ F hr iB .nil pass0 (xP hb hs hn cD) aa s B H Q Iv (Kp hm a1.symm B H Q ⟨φ,I,ν,S,e,S',r0,n,e1,k,fin⟩)
  | cons e' es=>exact KD (dvs:=[]) (ds:=[]) (pl:=_) ho (C.cls c z.cl) jQ F hr iB .nil pass0 ha (pU (pos:=pos) hs).1 (pU hs).2 (xP hb hs hn cD) aa s B H Q Iv (Ly hm a1.symm B H Q ⟨φ,I,ν,S,e,S',r0,n,e1,k,fin⟩)
def F8{F:FL}(h:BiOk X CA x F)(hg:Gl X x)(hm:X.mg x=none)(hn:x ≠ "__name__")(aX:(x == ("__debug__":Str))=false)(ha:EA X CA (e::es) t)(hs:(e::es).all notStar=true):EE X CA (.Call (.Name x p) (e::es) [] pos) (fn F t):=by
 obtain⟨r,c,z⟩:=h
 rcases z with⟨id,z,b⟩ | ⟨T,z,b⟩
 ·exact PE.imp (Az z hg hm b ha hn aX (pU (pos:=pos) hs).1 (pU hs).2) (uZ c)
 ·exact PE.imp (JZ z hg hm b ha hn aX (pU (pos:=pos) hs).1 (pU hs).2) (uZ c)
end
structure Tx where
 fn:List (Str×FL)
 cls:List (Str×FL)
 me:List (Str×List (Str×FL))
 dt:Nat->Bool
 fl:List Str
def stk{α:Type}:MM α:=λ_ _=>none
def grd{α:Type}(b:Bool)(m:MM α):MM α:=bif b then m else stk
noncomputable def slot(x:Str):List Str->Nat->Option Nat
 | [],_=>none
 | y::r,i=>bif y == x then some i else slot x r (i+1)
theorem Bu{x:Str}:∀{N:List Str}{j i:Nat},slot x N j=some i->∃k,i=j+k/\N[k]?=some x
 | [],_,_,h=>by cases h
 | y::r,j,i,h=>by
  rcases oV h with⟨e,h⟩ | ⟨_,h⟩
  ·cases h;cases beq_iff_eq.mp e;exact⟨0,rfl,rfl⟩
  ·obtain⟨k,e,q⟩:=Bu h;exact⟨k+1,⋯,by simpa using q⟩
def vw{x:Str}{N:List Str}{i:Nat}(h:slot x N 0=some i):N[i]?=some x:=by
 obtain⟨k,e,q⟩:=Bu h;have:i=k:=by omega
 rw[this];exact q
noncomputable def isVis(sc:M_)(x:Str):Bool:=match sc.names.lookup x with
 | some .local=>true
 | some .cell=>true
 | some .free=>true
 | _=>false
def IF{sc:M_}{x:Str}(h:isVis sc x=true):Vis sc x:=by
 unfold isVis at h;split at h
 ·exact .inl (by assumption)
 ·exact .inr (.inl (by assumption))
 ·exact .inr (.inr (by assumption))
 ·cases h
noncomputable def isLoc(sc:M_)(w:Str->Bool)(x:Str):Bool:=match sc.names.lookup x with
 | some .local=>true
 | some .cell=>w x
 | _=>false
def D8{sc:M_}{w:Str->Bool}{x:Str}(h:isLoc sc w x=true):Loc sc x/\(w x=true\/sc.names.lookup x=some .local):=by
 unfold isLoc at h;split at h
 ·exact⟨.inl (by assumption),.inr (by assumption)⟩
 ·exact⟨.inr (by assumption),.inl h⟩
 ·cases h
noncomputable def isGl(sc:M_)(x:Str):Bool:=match sc.names.lookup x with
 | some .globalImplicit=>!(x == ("__debug__":Str))
 | _=>false
noncomputable def bnames:List Str:=["len", "list", "tuple", "any", "all", "min", "max", "sorted", "int", "isinstance", "range", "set", "enumerate", "zip", "str", "bool"]
structure Gd(tx:Tx)(CA:Kl)(sc:M_)(N:List Str)(w:Str->Bool)(X:Cx):Prop where
 hsc:X.env.scope=sc
 hN:X.N=N
 nd:N.Nodup
 calm:X.calm=true
 xe:X.xe=λ_ _=>False
 hw:∀x,w x=true->X.fn x=true
 hu:X.A.units+100 < Ni
 room:∃k,Room k X.A
 cls:ClsOk X.K CA
 fl:tx.fl=CA.fl
 blt:∀x∈bnames,X.mg x=none
 fn:∀x g,tx.fn.lookup x=some g->FnHas X CA x g
 mks:∀x g,tx.cls.lookup x=some g->MkHas X CA x g
 me:∀m l,tx.me.lookup m=some l->∀c g,l.lookup c=some g->MeHas X CA c m g
structure Rc where
 E:M_->List Str->y_->MM E
 T:M_->List Str->y_->MM Bool
 W:M_->List Str->y_->MM Bool
 G:M_->List Str->(Str->Bool)->y_->GM
 S:M_->List Str->Nr->SM
structure Snd(tx:Tx)(CA:Kl)(r:Rc):Prop where
 E:∀{sc N w X},Gd tx CA sc N w X->∀e,EE X CA e (r.E sc N e)
 T:∀{sc N w X},Gd tx CA sc N w X->∀e,ET X CA e (r.T sc N e)
 W:∀{sc N w X},Gd tx CA sc N w X->∀e,EW X CA e (r.W sc N e)
 G:∀{sc N w X},Gd tx CA sc N w X->∀e,EG X CA e (r.G sc N w e)
 S:∀{sc N X},Gd tx CA sc N (λ_=>true) X->∀st,ES X CA st (r.S sc N st)
section
variable {X:Cx}{CA:Kl}{tx:Tx}{sc:M_}{N:List Str}{w:Str->Bool}{e:y_}
def pH:EE X CA e stk:=λaa s B H Q I q=>by
 obtain⟨φ,I,ν,S,e,S',r0,n,e1,k⟩:=q;cases e1
def wf:EW X CA e stk:=λwh aa s B H Q I q=>by
 obtain⟨φ,I,ν,S,e,S',r0,n,e1,k⟩:=q;cases e1
def sW:ET X CA e stk:=wf.pt
def Lj:EI X CA tg e stk:=λaa s B H Q I q=>by
 obtain⟨φ,I,ν,S,e,S',r0,n,e1,k⟩:=q;cases e1
def px{b:Bool}{m:MM E}(h:b=true->EE X CA e m):EE X CA e (grd b m):=by
 cases b
 ·exact pH
 ·exact h rfl
def wY{b:Bool}{m:MM Bool}(h:b=true->ET X CA e m):ET X CA e (grd b m):=by
 cases b
 ·exact sW
 ·exact h rfl
def sE{b:Bool}{m:MM Itn}(h:b=true->EI X CA tg e m):EI X CA tg e (grd b m):=by
 cases b
 ·exact Lj
 ·exact h rfl
noncomputable def stkG:GM:=λ_ _=>none
def uT:EG X CA e stkG:=λaa s v u B H Q I rv q=>by
 obtain⟨φ,I,ν,S,e,ag,r0,n,i,e1,k⟩:=q;cases e1
def grdS(b:Bool)(m:SM):SM:=bif b then m else nev
def rO{st:Nr}{b:Bool}{m:SM}(h:b=true->ES X CA st m):ES X CA st (grdS b m):=by
 cases b
 ·exact qG
 ·exact h rfl
def nmE(sc:M_)(N:List Str)(x:Str):MM E:=grd (isVis sc x&&(!(x == ("__debug__":Str))&&!(x == ("__classdict__":Str)))) (match slot x N 0 with
 | some i=>nm i
 | none=>stk)
def GW(h:Gd tx CA sc N w X){x:Str}{p:Pos}:EE X CA (.Name x p) (nmE sc N x):=px λt=>by
 simp only[k_,Rn] at t;split
 ·rename_i i hi;exact Dw (IB (by rw[h.hN];exact vw hi) (by rw[h.hsc];exact IF t.1) t.2.1 t.2.2)
 ·exact pH
def conE:Const->MM E
 | .none=>con .non
 | .bool b=>con (.bl b)
 | .int i=>con (.int i)
 | .str x=>con (.str x)
 | _=>stk
def GX{c:Const}{k:Nat}{p:Pos}:EE X CA (.Constant c k p) (conE c):=by
 cases c
 case none=>exact ee_c GJ λ_=>Is.non
 case bool b=>exact ee_c KW λ_=>Is.bl b
 case int i=>exact ee_c KP λ_=>Is.int i
 case str x=>exact ee_c Kk λ_=>Is.str x
 all_goals exact pH
def evA(f:y_->MM E):List y_->MM (List E)
 | []=>nilE
 | e::es=>csE (f e) (evA f es)
theorem pD{f:y_->MM E}(h:∀e,EE X CA e (f e)):∀{es:List y_},es.all notStar=true->EA X CA es (evA f es)
 | [],_=>Ij
 | e::es,t=>by
  rw[Nw,k_] at t;exact Mi (h e) (pD h t.2) (qD t.1)
def vR{f:y_->MM E}{es:List y_}(h:es=[]):evA f es=nilE:=by rw[h];rfl
def evP(f:y_->MM E):List (Option y_)->List y_->Option (List (MM E×MM E))
 | [],[]=>some []
 | some k::ks,v::vs=>match evP f ks vs with
  | some ms=>some ((f k,f v)::ms)
  | none=>none
 | _,_=>none
theorem zL{f:y_->MM E}{pos:Pos}(h:∀e,EE X CA e (f e)):∀{ks:List (Option y_)}{vs:List y_}{ms:List (MM E×MM E)},evP f ks vs=some ms->PPs X pos ks vs (ms.map λp=>(tE X.K CA p.1,tE X.K CA p.2))/\ks.all (·.isSome)=true/\ks.length=vs.length
 | [],[],ms,e=>by cases e;exact⟨Ht,rfl,rfl⟩
 | some k::ks,v::vs,ms,e=>by
  unfold evP at e;split at e
  ·rename_i nX q;cases e;obtain⟨h1,h2,h3⟩:=zL h q;exact⟨GE (h k) (h v) h1,by rw[Nw,h2];rfl,by rw[G_,G_,h3]⟩
  ·cases e
 | none::ks,_,ms,e=>by cases e
 | some k::ks,[],ms,e=>by cases e
 | [],_::_,ms,e=>by cases e
def evO(f:y_->MM E):Option y_->MM (Option Int)
 | none=>pur none
 | some a=>prt (f a)
theorem zR{f:y_->MM E}(h:∀e,EE X CA e (f e)):∀{o:Option y_},sC X CA o (evO f o)
 | none=>LX
 | some a=>DW (h a)
def evIx(f:y_->MM E)(a:y_):y_->MM E
 | .Slice lo hi none _=>sl3 (f a) (evO f lo) (evO f hi)
 | ix=>grd (noSl ix) (o2 ixE (f a) (f ix))
def CN{f:y_->MM E}(h:∀e,EE X CA e (f e))(hu:X.A.units+100 < Ni){a ix:y_}{p:Pos}:EE X CA (.Subscript a ix p) (evIx f a ix):=by
 unfold evIx;split
 ·exact Lg (h a) (zR h) (zR h)
 ·exact px λt=>JP hu (h a) (h _) t
def evGs(f:y_->GM):List y_->List E->Nms->Option Nms
 | []=>tg0
 | e::es=>tgc (f e) (evGs f es)
theorem yq{f:y_->GM}(hf:∀e,EG X CA e (f e)):∀{es:List y_},es.all notStar=true->EGs X CA es (evGs f es)
 | [],_=>Iq
 | e::es,t=>by
  rw[Nw,k_] at t;exact Ez (hf e) (yq hf t.2) (C0 t.1)
def grdG(b:Bool)(f:GM):GM:=bif b then f else stkG
def zx{b:Bool}{f:GM}(h:b=true->EG X CA e f):EG X CA e (grdG b f):=by
 cases b
 ·exact uT
 ·exact h rfl
def evG(sc:M_)(N:List Str)(w:Str->Bool)(f:y_->GM):y_->GM
 | .Name x _=>grdG (isLoc sc w x) (match slot x N 0 with
  | some i=>tgn i
  | none=>stkG)
 | .Tuple es _ _=>grdG (es.all notStar) (tgt es.length (evGs f es))
 | _=>stkG
def AZ(h:Gd tx CA sc N w X){f:y_->GM}(hf:∀e,EG X CA e (f e)):EG X CA e (evG sc N w f e):=by
 unfold evG;split
 ·refine zx λq=>?_
  obtain⟨l,a⟩:=D8 q;split
  ·rename_i i hi;exact eg_n (by rw[h.hN];exact h.nd) (by rw[h.hN];exact vw hi) (by rw[h.hsc];exact l) (a.imp (λz=>h.hw _ z) λz=>by rw[h.hsc];exact z)
  ·exact uT
 ·exact zx λq=>FE h.calm (yq hf q) zT (BI q)
 ·exact uT
end
section
variable {X:Cx}{CA:Kl}{tx:Tx}{r:Rc}{sc:M_}{N:List Str}{w:Str->Bool}{e:y_}
def pI(h:Gd tx CA sc N w X){x:Str}(t:isGl sc x=true):Gl X x/\(x == ("__debug__":Str))=false:=by
 unfold isGl at t;split at t
 ·exact⟨by show X.env.scope.names.lookup x=_;rw[h.hsc];assumption,by simpa using t⟩
 ·cases t
def zZ:∀x∈bnames,x≠("__name__":Str):=by decide +kernel
def BL{x:Str}{F:FL}(h:biF x=some F):x∈bnames:=by
 repeat' (first | (rcases oV h with⟨e,h⟩ | ⟨_,h⟩;· cases beq_iff_eq.mp e;decide +kernel) | cases h)
noncomputable def isTup:y_->Bool
 | .Tuple ..=>true
 | _=>false
def va(h:isTup e=true):∃es k p,e=.Tuple es k p:=by cases e<;>first | exact⟨_,_,_,rfl⟩ | cases h
def evR(sc:M_)(f:y_->MM E)(tg:y_)(x:Str):List y_->Option (MM Itn)
 | [a]=>bif x == "range" then some (grd (isGl sc x&&notStar a) (rng1E (evA f [a]))) else
  bif x == "enumerate" then some (grd (isGl sc x&&notStar a&&isTup tg) (enumE (evA f [a]))) else none
 | [a,b]=>bif x == "range" then some (grd (isGl sc x&&(notStar a&&notStar b)) (rng2E (evA f [a,b]))) else
  bif x == "zip" then some (grd (isGl sc x&&(notStar a&&notStar b)&&isTup tg) (zipE (evA f [a,b]))) else none
 | _=>none
def evI(sc:M_)(f:y_->MM E)(tg:y_)(e:y_):MM Itn:=match e with
 | .Call (.Name x _) args [] _=>(match evR sc f tg x args with
  | some m=>m
  | none=>itA (f e))
 | .Call (.Attribute o m aj) [] [] pos=>bif m == "items" then grd (isTup tg&&(baseOk o&&(aj.endLine == pos.line))) (itemA (f o)) else itA (f e)
 | _=>itA (f e)
def all1{a:y_}(h:notStar a=true):[a].all notStar=true:=by rw[Nw,h];rfl
def all2{a b:y_}(h:notStar a=true)(h':notStar b=true):[a,b].all notStar=true:=by rw[Nw,h,Nw,h'];rfl
theorem Fq(h:Gd tx CA sc N w X){f:y_->MM E}(hf:∀e,EE X CA e (f e)){x:Str}{p:Pos}{m:MM Itn}:∀{args:List y_},evR sc f tg x args=some m->EI X CA tg (.Call (.Name x p) args [] pos) m
 | [],q=>by cases q
 | [a],q=>by
  rcases oV q with⟨c,q⟩ | ⟨_,q⟩
  ·cases q;cases beq_iff_eq.mp c;refine sE λt=>?_
   rw[k_] at t;exact LH (pI h t.1).1 (h.blt _ (by decide +kernel)) (pD hf (all1 t.2)) (pX t.2)
  rcases oV q with⟨c,q⟩ | ⟨_,q⟩
  ·cases q;cases beq_iff_eq.mp c;refine sE λt=>?_
   rw[k_,k_] at t;obtain⟨es,k,tp,rfl⟩:=va t.2;exact Do (pI h t.1.1).1 (h.blt _ (by decide +kernel)) (pD hf (all1 t.1.2)) (pX t.1.2)
  ·cases q
 | [a,b],q=>by
  rcases oV q with⟨c,q⟩ | ⟨_,q⟩
  ·cases q;cases beq_iff_eq.mp c;refine sE λt=>?_
   rw[k_,k_] at t;exact FI (pI h t.1).1 (h.blt _ (by decide +kernel)) (pD hf (all2 t.2.1 t.2.2)) (zw t.2.1 t.2.2) (pX t.2.2)
  rcases oV q with⟨c,q⟩ | ⟨_,q⟩
  ·cases q;cases beq_iff_eq.mp c;refine sE λt=>?_
   rw[k_,k_,k_] at t;obtain⟨es,k,tp,rfl⟩:=va t.2;exact Fj (pI h t.1.1).1 (h.blt _ (by decide +kernel)) (pD hf (all2 t.1.2.1 t.1.2.2)) (zw t.1.2.1 t.1.2.2) (pX t.1.2.2)
  ·cases q
 | _::_::_::_,q=>by cases q
def uq(h:Gd tx CA sc N w X){f:y_->MM E}(hf:∀e,EE X CA e (f e)):EI X CA tg e (evI sc f tg e):=by
 unfold evI;split
 ·split
  ·exact Fq h hf (by assumption)
  ·exact vK (hf _)
 ·rename_i o m aj pos;cases q:m == ("items":Str) with
  | false=>exact vK (hf _)
  | true =>
   cases beq_iff_eq.mp q;refine sE λt=>?_
   rw[k_,k_] at t;obtain⟨es,k,tp,rfl⟩:=va t.1;exact LS (hf _) (rg t.2.1) t.2.2
 ·exact vK (hf _)
noncomputable def dumN(L:Nat)(jR:Str->Bool):List Str->Nat->List Str
 | [],_=>[]
 | x::r,i=>(bif jR x then⟨#[1,L,i]⟩ else x)::dumN L jR r (i+1)
noncomputable def ownN:List (Str×MK)->List Str
 | []=>[]
 | (x,.local)::r=>bif x == ".0" then ownN r else x::ownN r
 | (x,.cell)::r=>x::ownN r
 | _::r=>ownN r
def newN(scope:M_)(N:List Str):List Str:=ownN scope.names++dumN N.length (λx=>(ownN scope.names).contains x) N 0
def evTs(f:y_->MM Bool):List y_->MM Bool
 | []=>pur true
 | [c]=>f c
 | _=>stk
theorem wC{f:y_->MM Bool}(hf:∀e,ET X CA e (f e)):∀{cs:List y_},ETs X CA cs (evTs f cs)
 | []=>D1
 | [c]=>IU (hf c)
 | _::_::_=>λaa s B H Q I q=>by
  obtain⟨φ,I,ν,S,e,S',r0,n,e1,k⟩:=q;cases e1
def evC(r:Rc)(sc:M_)(N:List Str)(aF:y_)(scope:M_):List Comprehension->MM E
 | [⟨tg,iter,aI,a⟩]=>grd (decide (a=0)&&notSet iter&&cmpS sc scope N (newN scope N) (ownN scope.names).length)
  (comp (ownN scope.names).length (evI sc (r.E sc N) tg iter) (r.G (relab scope sc) (newN scope N) (λx=>scope.names.lookup x == some .cell) tg) (evTs (r.T (relab scope sc) (newN scope N)) aI) (r.E (relab scope sc) (newN scope N) aF))
 | _=>stk
def Gd.comp(h:Gd tx CA sc N w X){m:Nat}(S:CmpSc sc scope N N' m){C:h_}{s:e_}{H:Hp}:Gd tx CA (relab scope sc) N' (λx=>scope.names.lookup x == some .cell) (cxD X scope N' C s H ex) where
 hsc:=by rw[←h.hsc];rfl
 hN:=rfl
 nd:=S.nd
 calm:=h.calm
 xe:=rfl
 hw:=λ_ z=>z
 hu:=h.hu
 room:=h.room
 cls:=h.cls
 fl:=h.fl
 blt:=h.blt
 fn:=λx g q=>⟨(h.fn x g q).ex⟩
 mks:=λx g q=>⟨(h.mks x g q).ex,(h.mks x g q).cl⟩
 me:=λm l q c g z=>⟨(h.me m l q c g z).ex,(h.me m l q c g z).cl⟩
def Er(h:Gd tx CA sc N w X)(hr:Snd tx CA r):EE X CA (.ListComp aF gs scope pos) (evC r sc N aF scope gs):=by
 unfold evC;split
 ·refine px λt=>?_
  rw[k_,k_] at t;have S:=CmpSc.of t.2;cases of_decide_eq_true t.1.1;exact zA (by rw[h.hsc,h.hN];exact S) h.calm (uq h (hr.E h)) (λC s H ex=>hr.G (h.comp S) _) (λC s H ex=>wC (hr.T (h.comp S))) (λC s H ex=>hr.E (h.comp S) _) (uB t.1.2)
 ·exact pH
noncomputable def kiOf(t:Str):Option Ki:=bif t == "int" then some .iT else bif t == "str" then some .sT else bif t == "bool" then some .bT else bif t == "tuple" then some .tT else bif t == "list" then some .lT else none
def spc(sc:M_)(f:y_->MM E)(x:Str):List y_->Option (MM E)
 | [e,.Name t _]=>bif x == "isinstance" then(match kiOf t with
  | some k=>some (grd (isGl sc t&&notStar e) (isiE k (f e)))
  | none=>none) else none
 | [.Call (.Name y _) [a] [] _]=>bif x == "list"&&y == "range" then some (grd (isGl sc y&&notStar a) (lrngE (evA f [a]))) else
  bif x == "sorted"&&y == "set" then some (grd (isGl sc y&&notStar a) (fn sortsetE (evA f [a]))) else none
 | [.Call (.Attribute o m aj) [] [] ax]=>bif x == "list"&&m == "values" then some (grd (baseOk o&&(aj.endLine == ax.line)) (lvalE (f o))) else none
 | _=>none
def Js(h:Gd tx CA sc N w X){t:Str}{k:Ki}(q:kiOf t=some k):NW t=some (.type k.nm)/\t∈bnames:=by
 rcases oV q with⟨e,q⟩ | ⟨_,q⟩
 ·cases q;cases beq_iff_eq.mp e;exact⟨by kernel_rfl,by decide +kernel⟩
 rcases oV q with⟨e,q⟩ | ⟨_,q⟩
 ·cases q;cases beq_iff_eq.mp e;exact⟨by kernel_rfl,by decide +kernel⟩
 rcases oV q with⟨e,q⟩ | ⟨_,q⟩
 ·cases q;cases beq_iff_eq.mp e;exact⟨by kernel_rfl,by decide +kernel⟩
 rcases oV q with⟨e,q⟩ | ⟨_,q⟩
 ·cases q;cases beq_iff_eq.mp e;exact⟨by kernel_rfl,by decide +kernel⟩
 rcases oV q with⟨e,q⟩ | ⟨_,q⟩
 ·cases q;cases beq_iff_eq.mp e;exact⟨by kernel_rfl,by decide +kernel⟩
 ·cases q
def IW(h:Gd tx CA sc N w X){f:y_->MM E}(hf:∀e,EE X CA e (f e)){x:Str}{p:Pos}{m:MM E}(hx:isGl sc x=true)(hs:args.all notStar=true)(q:spc sc f x args=some m):EE X CA (.Call (.Name x p) args [] pos) m:=by
 unfold spc at q;split at q
 ·rename_i e t p2
  rcases oV q with⟨c,q⟩ | ⟨_,q⟩
  ·cases beq_iff_eq.mp c;split at q
   ·rename_i k hk;cases q;refine px λz=>?_
    rw[k_] at z;obtain⟨b1,b2⟩:=Js h hk;obtain⟨g1,g2⟩:=pI h z.1;obtain⟨jS,mr⟩:=pU (pos:=pos) hs;exact PE.imp (Az (CK k) (pI h hx).1 (h.blt _ (by decide +kernel)) boot_isinstance (wp (hf e) (wp (Md (v:=.ty k.nm) g1 (h.blt _ b2) b1 rfl (zZ _ b2) g2) zt (pX rfl)) jS) (by decide) (by decide) jS mr) Kq
   ·cases q
  ·cases q
 ·rename_i y p2 a p3
  rcases oV q with⟨c,q⟩ | ⟨_,q⟩
  ·rw[k_] at c;cases beq_iff_eq.mp c.1;cases beq_iff_eq.mp c.2;cases q;refine px λz=>?_
   rw[k_] at z;exact Lo h.calm (pI h hx).1 (h.blt _ (by decide +kernel)) (pI h z.1).1 (h.blt _ (by decide +kernel)) (pD hf (all1 z.2)) (pX z.2) (pX rfl)
  rcases oV q with⟨c,q⟩ | ⟨_,q⟩
  ·rw[k_] at c;cases beq_iff_eq.mp c.1;cases beq_iff_eq.mp c.2;cases q;refine px λz=>?_
   rw[k_] at z;obtain⟨k,hr⟩:=h.room;exact PE.imp (Dl hr (pI h hx).1 (h.blt _ (by decide +kernel)) (pI h z.1).1 (h.blt _ (by decide +kernel)) (pD hf (all1 z.2)) (pX z.2) (pX rfl) λ_=>rfl) (uZ HX)
  ·cases q
 ·rename_i o m' aj ax
  rcases oV q with⟨c,q⟩ | ⟨_,q⟩
  ·rw[k_] at c;cases beq_iff_eq.mp c.1;cases beq_iff_eq.mp c.2;cases q;refine px λz=>?_
   rw[k_] at z;exact De h.calm (pI h hx).1 (h.blt _ (by decide +kernel)) (hf o) (rg z.1) z.2 (pX rfl)
  ·cases q
 ·cases q
def evCN(tx:Tx)(sc:M_)(f:y_->MM E)(x:Str)(args:List y_):MM E:=
 grd (isGl sc x&&args.all notStar) (match tx.fn.lookup x with
  | some g=>fn g (evA f args)
  | none=>match tx.cls.lookup x with
   | some g=>mkE x g (evA f args)
   | none=>match args with
    | []=>stk
    | a::ad=>match spc sc f x (a::ad) with
     | some m=>m
     | none=>match biF x with
      | some F=>fn F (evA f (a::ad))
      | none=>stk)
def Lu(h:Gd tx CA sc N w X){f:y_->MM E}(hf:∀e,EE X CA e (f e)){x:Str}{p:Pos}:EE X CA (.Call (.Name x p) args [] pos) (evCN tx sc f x args):=px λt=>by
 rw[k_] at t;obtain⟨hg,hd⟩:=pI h t.1;split
 ·exact G2 (h.fn _ _ (by assumption)) hg hd (pD hf t.2) t.2 vR
 ·split
  ·exact Co (h.mks _ _ (by assumption)) hg hd (pD hf t.2) t.2 vR
  ·split
   ·exact pH
   ·split
    ·exact IW h hf t.1 t.2 (by assumption)
    ·split
     ·rename_i F hF;exact F8 (GO h.hu h.calm hF) hg (h.blt _ (BL hF)) (zZ _ (BL hF)) hd (pD hf t.2) t.2
     ·exact pH
def meL(l:List (Str×FL)):Str->FL:=λc=>match l.lookup c with
 | some g=>g
 | none=>noL
def meG(tx:Tx)(m:Str):Str->FL:=match tx.me.lookup m with
 | some l=>meL l
 | none=>meL []
def evCM(tx:Tx)(f:y_->MM E)(o:y_)(m:Str)(li:Bool)(args:List y_):MM E:=
 grd (baseOk o&&args.all notStar&&(decide (args.length < 29)&&li)) (match mbF m args.length with
  | some (Fl,Fd)=>mbE Fl Fd (f o) (evA f args)
  | none=>grd (!tx.fl.contains m) (meE (meG tx m) (f o) (evA f args)))
def Dz(h:Gd tx CA sc N w X){f:y_->MM E}(hf:∀e,EE X CA e (f e)){o:y_}{m:Str}:EE X CA (.Call (.Attribute o m aj) args [] pos) (evCM tx f o m (aj.endLine == pos.line) args):=px λt=>by
 rw[k_,k_,k_] at t;obtain⟨⟨hb,hs⟩,hn,hl⟩:=t;have hn:=of_decide_eq_true hn;split
 ·rename_i Fl Fd q;obtain⟨h1,h2⟩:=C5 (X:=X) (CA:=CA) h.hu q;cases args with
  | nil=>exact FJ h1 h2 (hf o) hb hl
  | cons a r=>exact Ce h1 h2 (hf o) (pD hf hs) hb hs hn hl
 ·refine px λz=>Gb h.cls ?_ (λc=>?_) (hf o) (pD hf hs) hb hs hn hl vR
  ·rw[←h.fl];intro y;rw[NQ.mpr y] at z;cases z
  ·unfold meG;cases q:tx.me.lookup m with
   | none=>exact .inl rfl
   | some l =>
    show meL l c=noL\/MeHas X CA c m (meL l c);unfold meL;split
    ·exact .inr (h.me _ _ q _ _ (by assumption))
    ·exact .inl rfl
end
section
variable {X:Cx}{CA:Kl}{tx:Tx}{r:Rc}{sc:M_}{N:List Str}{w:Str->Bool}{e:y_}
def evB(jn:BoolOp->MM E->MM E->MM E)(f:y_->MM E)(op:BoolOp)(pos:Pos):List y_->MM E
 | [a]=>f a
 | a::b::ad=>jn op (f a) (f (.BoolOp op (b::ad) pos))
 | []=>stk
def bopE:BoolOp->MM E->MM E->MM E
 | .And=>anE
 | .Or=>λ_ _=>stk
def bopT:BoolOp->MM Bool->MM Bool->MM Bool
 | .And=>anT
 | .Or=>orT'
def evCm(r:Rc)(sc:M_)(N:List Str)(a:y_):List CmpOp->List y_->MM E
 | [op],[b]=>grd (!behindInMarks op b) (o2 (cmpF op) (r.E sc N a) (r.E sc N b))
 | [op,aV],[b,c]=>grd (!lastMarks [op,aV] [b,c]) (ch3 (cmpF op) (cmpF aV) (r.E sc N a) (r.E sc N b) (r.E sc N c))
 | _,_=>stk
def evDi(tx:Tx)(r:Rc)(sc:M_)(N:List Str)(pos:Pos):List (Option y_)->List y_->MM E
 | [],[]=>newD (tx.dt pos.line)
 | ks,vs=>grd (decide (ks.length<=15)&&decide (ks≠[])) (match evP (r.E sc N) ks vs with
  | some ms=>dispE ms
  | none=>stk)
def evE(tx:Tx)(r:Rc)(sc:M_)(N:List Str):y_->MM E
 | .Name x _=>nmE sc N x
 | .Constant c _ _=>conE c
 | .List es _=>grd (es.all notStar) (lstE (evA (r.E sc N) es))
 | .Tuple es _ _=>grd (es.all notStar) (tupE (evA (r.E sc N) es))
 | .BinOp a op b _=>o2 (opF op) (r.E sc N a) (r.E sc N b)
 | .Compare a ops bs _=>evCm r sc N a ops bs
 | .BoolOp op es pos=>evB bopE (r.E sc N) op pos es
 | .IfExp c a b _=>ifE (r.T sc N c) (r.E sc N a) (r.E sc N b)
 | .Subscript a ix _=>evIx (r.E sc N) a ix
 | .Attribute a f _=>grd (tx.fl.contains f&&baseOk a) (fld f (r.E sc N a))
 | .Dict ks vs pos=>evDi tx r sc N pos ks vs
 | .ListComp aF gs scope _=>evC r sc N aF scope gs
 | .Call f args kws pos=>match f,kws with
  | .Name x _,[]=>evCN tx sc (r.E sc N) x args
  | .Attribute o m aj,[]=>evCM tx (r.E sc N) o m (aj.endLine == pos.line) args
  | _,_=>stk
 | _=>stk
def HH{op:Sx}{a b:y_}{ma mb:MM E}(ha:EE X CA a ma)(hb:EE X CA b mb):EE X CA (.BinOp a op b pos) (o2 (opF op) ma mb):=by
 obtain⟨r,h1,h2⟩:=Jh (X:=X) (CA:=CA) op;exact D' h1 h2 ha hb
def uK{b:Bool}(h:(!b)=true):b=false:=by cases b<;>first | rfl | cases h
def LA(h:Gd tx CA sc N w X)(hr:Snd tx CA r):EE X CA e (evE tx r sc N e):=by
 have f:=hr.E h;unfold evE;split
 ·exact GW h
 ·exact GX
 ·exact px λt=>LR (pD f t)
 ·exact px λt=>Jk (pD f t)
 ·exact HH (f _) (f _)
 ·unfold evCm;split
  ·refine px λt=>?_
   obtain⟨r1,h1,h2⟩:=rM (CA:=CA) h.hu _;exact Ll h1 h2 (f _) (f _) (uK t)
  ·refine px λt=>?_
   obtain⟨r1,h1,h2⟩:=rM (CA:=CA) h.hu _;obtain⟨r3,h3,h4⟩:=rM (CA:=CA) h.hu _;exact F6 h1 h2 h3 h4 (f _) (f _) (f _) (uK t)
  ·exact pH
 ·rename_i op es p;unfold evB;split
  ·exact LO (f _)
  ·cases op
   ·exact Gi (f _) (f _)
   ·exact pH
  ·exact pH
 ·exact Cm (hr.T h _) (f _) (f _)
 ·exact CN f h.hu
 ·refine px λt=>?_
  rw[k_] at t;exact Hi h.cls (by rw[←h.fl];exact NQ.mp t.1) (f _) (rg t.2)
 ·rename_i p;unfold evDi;split
  ·cases tx.dt p.line
   ·exact LJ
   ·exact Ex
  ·refine px λt=>?_
   rw[k_] at t;split
   ·rename_i ms q;obtain⟨h1,h2,h3⟩:=zL (X:=X) (CA:=CA) (pos:=by assumption) f q;exact Cz h1 h2 h3 (of_decide_eq_true t.2) (of_decide_eq_true t.1)
   ·exact pH
 ·exact Er h hr
 ·split
  ·exact Lu h f
  ·exact Dz h f
  ·exact pH
 ·exact pH
def evCt(r:Rc)(sc:M_)(N:List Str)(a:y_):List CmpOp->List y_->MM Bool
 | [op],[b]=>grd (!behindInMarks op b) (ts (o2 (cmpF op) (r.E sc N a) (r.E sc N b)))
 | [op,aV],[b,c]=>grd (!lastMarks [op,aV] [b,c]) (ts (ch3 (cmpF op) (cmpF aV) (r.E sc N a) (r.E sc N b) (r.E sc N c)))
 | _,_=>stk
def evT(r:Rc)(sc:M_)(N:List Str)(e:y_):MM Bool:=match e with
 | .BoolOp ..=>r.W sc N e
 | .UnaryOp op a _=>(match op with
  | .Not=>noT (r.T sc N a)
  | _=>stk)
 | .Compare a ops bs _=>evCt r sc N a ops bs
 | _=>grd (plainT e) (ts (r.E sc N e))
def Dc(h:Gd tx CA sc N w X)(hr:Snd tx CA r):ET X CA e (evT r sc N e):=by
 have f:=hr.E h;unfold evT;split
 ·exact(hr.W h _).pt
 ·split
  ·exact Go (hr.T h _)
  ·exact sW
 ·unfold evCt;split
  ·refine wY λt=>?_
   obtain⟨r1,h1,h2⟩:=rM (CA:=CA) h.hu _;exact CZ h1 h2 (f _) (f _) (uK t)
  ·refine wY λt=>?_
   obtain⟨r1,h1,h2⟩:=rM (CA:=CA) h.hu _;obtain⟨r3,h3,h4⟩:=rM (CA:=CA) h.hu _;exact GY h1 h2 h3 h4 (f _) (f _) (f _) (uK t)
  ·exact sW
 ·exact wY λt=>G3 (f _) (Jg t)
def evW(r:Rc)(sc:M_)(N:List Str):y_->MM Bool
 | .BoolOp op [a] _=>r.T sc N a
 | .BoolOp op (a::b::ad) pos=>bopT op (r.T sc N a) (r.W sc N (.BoolOp op (b::ad) pos))
 | _=>stk
def KO(h:Gd tx CA sc N w X)(hr:Snd tx CA r):EW X CA e (evW r sc N e):=by
 unfold evW;split
 ·rename_i op a p;cases op
  ·exact Kz (hr.T h _)
  ·exact DI (hr.T h _)
 ·rename_i op a b ad p;cases op
  ·exact IV (hr.T h _) (hr.W h _)
  ·exact HU (hr.T h _) (hr.W h _)
 ·exact wf
def evSs(f:Nr->SM):List Nr->SM
 | []=>ends .nx
 | [s]=>f s
 | s::t::r=>sq (f s) (evSs f (t::r))
theorem qL{f:Nr->SM}(hf:∀s,ES X CA s (f s)):∀{ss:List Nr},ESs X CA ss (evSs f ss)
 | []=>IZ
 | [s]=>Fh (hf s)
 | s::t::r=>CW (hf s) (qL hf)
def evAs(tx:Tx)(r:Rc)(sc:M_)(N:List Str)(e:y_):y_->SM
 | .Name x p=>(match e with
  | .ListComp aF gs scope _=>asg (evC r sc N aF scope gs) (evG sc N (λ_=>true) (r.G sc N (λ_=>true)) (.Name x p))
  | _=>grdS (notComp e) (asg (r.E sc N e) (evG sc N (λ_=>true) (r.G sc N (λ_=>true)) (.Name x p))))
 | .Tuple ts k p=>grdS (notTup e&&notComp e) (asg (r.E sc N e) (r.G sc N (λ_=>true) (.Tuple ts k p)))
 | .Subscript o i p=>grdS (noSl i) (putE setE (r.E sc N e) (r.E sc N o) (r.E sc N i))
 | .Attribute o fl p=>grdS (tx.fl.contains fl) (fldP fl (r.E sc N e) (r.E sc N o))
 | _=>nev
def wb{st:Nr}{m:SM}(h:∀ν S,m ν S=none):ES X CA st m:=λaa s B H D I q=>by
 obtain⟨φ,I,ν,S,f,ag,S',r0,n,e1,k⟩:=q;rw[h] at e1;cases e1
def xE{m:MM E}{g:GM}(h:∀ν S,m ν S=none):∀ν S,asg m g ν S=none:=λν S=>by
 unfold asg ve;rw[h]
def KQ{m:MM E}:∀ν S,asg m stkG ν S=none:=λν S=>by
 unfold asg ve;split<;>rfl
def FS{f:y_->GM}{x:Str}{p:Pos}:evG sc N (λ_=>true) f (.Name x p)=stkG\/∃i,evG sc N (λ_=>true) f (.Name x p)=tgn i/\slot x N 0=some i:=by
 show grdG _ _=stkG\/∃i,grdG _ _=tgn i/\_;cases isLoc sc (λ_=>true) x
 ·exact .inl rfl
 ·cases q:slot x N 0 with
  | none=>exact .inl rfl
  | some i=>exact .inr ⟨i,rfl,rfl⟩
def AS{l:Nat}(h:notComp e=true):Ps [tg] e l env=pure false:=by
 show N6 e (some tg) l env=pure false;exact Aw h
def Lh{o i:y_}{p:Pos}{l:Nat}:Ps [.Subscript o i p] e l env=pure false:=by
 show N6 e (some (.Subscript o i p)) l env=pure false;exact Em
def Kc(h:Gd tx CA sc N (λ_=>true) X)(hr:Snd tx CA r):ES X CA (.Assign [tg] e pos) (evAs tx r sc N e tg):=by
 have f:=hr.E h;unfold evAs;split
 ·rename_i x p;have hg:EG X CA (.Name x p) (evG sc N (λ_=>true) (r.G sc N (λ_=>true)) (.Name x p)):=AZ h (hr.G h);split
  ·rename_i aF gs scope cp;unfold evC;split
   ·rename_i tg iter aI a;cases q:(decide (a=0)&&notSet iter&&cmpS sc scope N (newN scope N) (ownN scope.names).length) with
    | false=>exact wb (xE λ_ _=>rfl)
    | true =>
     rw[k_,k_] at q;have S:=CmpSc.of q.2;cases of_decide_eq_true q.1.1
     rcases FS (sc:=sc) (N:=N) (f:=r.G sc N (λ_=>true)) (x:=x) (p:=p) with z | ⟨i,z,hi⟩
     ·rw[z];exact wb KQ
     have sw:∃b:Bool,N6 (.ListComp aF [⟨tg,iter,aI,0⟩] scope cp) (some (.Name x p)) pos.line X.env=pure b/\(b=true->X.env.scope.names.lookup x=some .local):=by
      refine⟨_,rfl,λt=>?_⟩;rw[k_,k_,k_] at t;exact beq_iff_eq.mp t.1.1.2
     obtain⟨b,sw,sl⟩:=sw;cases b with
     | true =>
      rw[z]
      exact E4 (by rw[h.hsc,h.hN];exact S) h.calm (by rw[h.hN];exact h.nd) (uq h f) (λC s H ex=>hr.G (h.comp S) _) (λC s H ex=>wC (hr.T (h.comp S))) (λC s H ex=>hr.E (h.comp S) _)
       (by rw[h.hN];exact vw hi) (sl rfl) sw (uB q.1.2)
     | false =>
      exact wW (zA (by rw[h.hsc,h.hN];exact S) h.calm (uq h f) (λC s H ex=>hr.G (h.comp S) _) (λC s H ex=>wC (hr.T (h.comp S))) (λC s H ex=>hr.E (h.comp S) _) (uB q.1.2)) hg sw xK rfl
   ·exact wb (xE λ_ _=>rfl)
  ·exact rO λq=>wW (f _) hg (AS q) xK rfl
 ·refine rO λt=>?_
  rw[k_] at t;exact wW (f _) (hr.G h _) (AS t.2) (JL t.1) rfl
 ·exact rO λt=>Hx (L5 h.hu) Ci (f _) (f _) (f _) t (Lh)
 ·exact rO λt=>KJ h.cls (by rw[←h.fl];exact NQ.mp t) (f _) (f _) K4
 ·exact qG
noncomputable def whN:Nat:=1000000
def evS(tx:Tx)(r:Rc)(sc:M_)(N:List Str):Nr->SM
 | .Return o _=>(match o with
  | some e=>rtn (r.E sc N e)
  | none=>nev)
 | .Expr e _=>grdS (notComp e) (drp (r.E sc N e))
 | .Assign ts e _=>(match ts with
  | [tg]=>evAs tx r sc N e tg
  | _=>nev)
 | .For tg iter body els _=>(match els with
  | []=>grdS (notSet iter) (forE (evI sc (r.E sc N) tg iter) (r.G sc N (λ_=>true) tg) (evSs (r.S sc N) body))
  | _=>nev)
 | .While c body els _=>(match els with
  | []=>whL (r.T sc N c) (evSs (r.S sc N) body) whN
  | _=>nev)
 | .If c a b _=>iff (r.T sc N c) (evSs (r.S sc N) a) (evSs (r.S sc N) b)
 | _=>nev
def DY(h:Gd tx CA sc N (λ_=>true) X)(hr:Snd tx CA r){st:Nr}:ES X CA st (evS tx r sc N st):=by
 have f:=hr.E h;have pa:RR (t_ X.prog X.w) X.A X.env X.xe:=by rw[h.xe];exact never
 unfold evS;split
 ·split
  ·exact G1 (f _)
  ·exact qG
 ·exact rO λt=>Jp (f _) (Aw t)
 ·split
  ·exact Kc h hr
  ·exact qG
 ·split
  ·exact rO λt=>KH pa h.calm (uq h f) (hr.G h _) (qL (hr.S h)) (uB t)
  ·exact qG
 ·split
  ·exact JU pa (hr.T h _) (qL (hr.S h))
  ·exact qG
 ·exact DZ (hr.T h _) (qL (hr.S h)) (qL (hr.S h))
 ·exact qG
def rc0:Rc:=⟨λ_ _ _=>stk,λ_ _ _=>stk,λ_ _ _=>stk,λ_ _ _ _=>stkG,λ_ _ _=>nev⟩
def rcS(tx:Tx)(r:Rc):Rc:=⟨evE tx r,λsc N e=>evT r sc N e,evW r,λsc N w e=>evG sc N w (r.G sc N w) e,evS tx r⟩
def ev(tx:Tx)(n:Nat):Rc:=Nat.rec rc0 (λ_ r=>rcS tx r) n
def snd0:Snd tx CA rc0:=⟨λ_ _=>pH,λ_ _=>sW,λ_ _=>wf,λ_ _=>uT,λ_ _=>qG⟩
def sndS(h:Snd tx CA r):Snd tx CA (rcS tx r):=⟨λg _=>LA g h,λg _=>Dc g h,λg _=>KO g h,λg _=>AZ g (h.G g),λg _=>DY g h⟩
theorem snd:∀n,Snd tx CA (ev tx n)
 | 0=>snd0
 | n+1=>sndS (snd n)
end
def psOf(st:Nr):List Str:=(defArgs st).args.map (·.arg)
noncomputable def isOwn:MK->Bool
 | .local=>true
 | .cell=>true
 | _=>false
def scN(ps:List Str)(l:List (Str×MK)):List Str:=ps++(l.filter λy=>isOwn y.2&&!ps.contains y.1).map (·.1)
def nsOf(st:Nr):List Str:=scN (psOf st) (defScope st).names
def stT(st:Nr):Bool:=decide ((defScope st).kind=.function/\(defScope st).isCoroutine=false/\(defScope st).isGenerator=false/\(nsOf st).Nodup/\(nsOf st).take (psOf st).length=psOf st/\(∀x∈psOf st,(defScope st).names.lookup x=some .local\/(defScope st).names.lookup x=some .cell)/\∀y∈(defScope st).names,y.2≠.free)
def Bm{st:Nr}(h:stT st=true):FnScope (nsOf st) (psOf st) (defScope st):=by
 obtain⟨h1,h2,h3,h4,h5,h6,h7⟩:=of_decide_eq_true h;exact⟨h1,h2,h3,h4,h5,h6,h7⟩
def dfB(tx:Tx)(n:Nat)(st:Nr):SM:=evSs ((ev tx n).S (defScope st) (nsOf st)) (defBody st)
def df(tx:Tx)(n:Nat)(st:Nr):FL:=fnE (nsOf st).length (psOf st).length (dfB tx n st)
def Ef{ar:Nat}{m:SM}:arE ar (fnE n ar m)=fnE n ar m:=by
 funext es S
 show(if es.length=ar then fnE n ar m es S else none)=_;unfold fnE;split
 ·rfl
 ·rfl
def Cj{ar:Nat}:arE ar noL=noL:=by
 funext es S
 show(if es.length=ar then noL es S else none)=_;split<;>rfl
section
variable (P:E_)(w:Mo)(K:FAa)(mg:Str->Option b_)(base:Mr)(CA:Kl)
structure DHas(k:Nat)(f:h_)(g:FL):Prop where
 ex:∃ar fd ps,arE ar g=g/\FnOk P w K mg base CX0 k f fd ps (spE K CA ar g)/\Binds K fd ps []
structure TxOk(tx:Tx)(k:Nat):Prop where
 cls:ClsOk K CA
 fl:tx.fl=CA.fl
 blt:∀x∈bnames,mg x=none
 fn:∀x g,tx.fn.lookup x=some g->∃f,DHas P w K mg base CA k f g/\mg x=some (.ref f)/\QQ K (.ref f)=true
 mks:∀x g,tx.cls.lookup x=some g->∃f j,j+1<=k/\DHas P w K mg base CA j f g/\mg x=some (.ref (CA.at' x))/\Mk K (CA.at' x) f/\x∈CA.cl
 me:∀m l,tx.me.lookup m=some l->∀c g,l.lookup c=some g->∃f,DHas P w K mg base CA k f g/\Meth K (CA.at' c) m f/\c∈CA.cl
end
section
variable{P:E_}{w:Mo}{K:FAa}{mg:Str->Option b_}{base:Mr}{CA:Kl}{tx:Tx}{k:Nat}{f:h_}{x c m:Str}{st:Nr}{g:FL}
theorem DHas.mono(h:DHas P w K mg base CA j f g)(l:j<=k):DHas P w K mg base CA k f g:=by
 obtain⟨ar,fd,ps,a,F,b⟩:=h.ex;exact⟨ar,fd,ps,a,F.mono l,b⟩
theorem TxOk.mono(T:TxOk P w K mg base CA tx j)(l:j<=k):TxOk P w K mg base CA tx k where
 cls:=T.cls
 fl:=T.fl
 blt:=T.blt
 fn:=λx g q=>let ⟨f,h,r⟩:=T.fn x g q;⟨f,h.mono l,r⟩
 mks:=λx g q=>let ⟨f,i,hi,h,r⟩:=T.mks x g q;⟨f,i,A_ hi l,h,r⟩
 me:=λm z q c g y=>let ⟨f,h,r⟩:=T.me m z q c g y;⟨f,h.mono l,r⟩
def TxOk.gd{X:Cx}(T:TxOk X.prog X.w X.K X.mg X.base CA tx k){sc:M_}{N:List Str}(hsc:X.env.scope=sc)(hN:X.N=N)(nd:N.Nodup)(hc:X.calm=true)(xe:X.xe=λ_ _=>False)(hf:∀x,X.fn x=true)(hr:Room k X.A):Gd tx CA sc N (λ_=>true) X where
 hsc:=hsc
 hN:=hN
 nd:=nd
 calm:=hc
 xe:=xe
 hw:=λx _=>hf x
 hu:=by have:=hr.un;omega
 room:=⟨k,hr⟩
 cls:=T.cls
 fl:=T.fl
 blt:=T.blt
 fn:=λx g q=>by
  obtain⟨f,⟨ar,fd,ps,a,F,b⟩,m,kp⟩:=T.fn x g q;exact⟨ar,k,f,fd,ps,a,F,hr,m,kp,b⟩
 mks:=λx g q=>by
  obtain⟨f,j,hj,⟨ar,fd,ps,a,F,b⟩,m,M,c⟩:=T.mks x g q;exact⟨⟨ar,j,f,fd,ps,a,F,hr.mono hj,m,M,b⟩,c⟩
 me:=λm l q c g y=>by
  obtain⟨f,⟨ar,fd,ps,a,F,b⟩,M,c⟩:=T.me m l q c g y;exact⟨⟨ar,k,f,fd,ps,a,F,hr,M,b⟩,c⟩
theorem TxOk.df(T:TxOk P w K mg base CA tx k)(F:Fun K x qual st f fd)(S:stT st=true)(b:Binds K fd (psOf st) []):DHas P w K mg base CA (k+1) f (df tx n st):=by
 have S:=Bm S;refine⟨(psOf st).length,fd,psOf st,Ef,BV (N:=nsOf st) F S (dfB tx n st) λay A outer s H E hr=>?_,b⟩;exact qL ((snd n).S (TxOk.gd (X:=(cxOf CX0 P w K mg base (nsOf st) qual (defScope st) f ay A outer s H E).nox) T rfl rfl S.nd rfl rfl (λ_=>rfl) hr))
def Tx.addF(tx:Tx)(x:Str)(g:FL):Tx:={ tx with fn:=(x,g)::tx.fn }
def Tx.addC(tx:Tx)(x:Str)(g:FL):Tx:={ tx with cls:=(x,g)::tx.cls }
noncomputable def Tx.addM(tx:Tx)(c m:Str)(g:FL):Tx:={ tx with me:=(m,(c,g)::(tx.me.lookup m).getD [])::tx.me }
theorem TxOk.addF(T:TxOk P w K mg base CA tx k)(h:DHas P w K mg base CA k f g)(hm:mg x=some (.ref f))(hk:QQ K (.ref f)=true):TxOk P w K mg base CA (tx.addF x g) k where
 cls:=T.cls
 fl:=T.fl
 blt:=T.blt
 fn:=λy g' q=>by
  have q:NY y ((x,g)::tx.fn)=some g':=q;rw[N0] at q;cases e:y == x with
  | true=>rw[e] at q;cases q;cases beq_iff_eq.mp e;exact⟨f,h,hm,hk⟩
  | false=>rw[e] at q;exact T.fn y g' q
 mks:=T.mks
 me:=T.me
theorem TxOk.addC(T:TxOk P w K mg base CA tx k)(h:DHas P w K mg base CA j f g)(hj:j+1<=k)(hm:mg c=some (.ref (CA.at' c)))(hk:Mk K (CA.at' c) f)(hc:c∈CA.cl):TxOk P w K mg base CA (tx.addC c g) k where
 cls:=T.cls
 fl:=T.fl
 blt:=T.blt
 fn:=T.fn
 mks:=λy g' q=>by
  have q:NY y ((c,g)::tx.cls)=some g':=q;rw[N0] at q;cases e:y == c with
  | true=>rw[e] at q;cases q;cases beq_iff_eq.mp e;exact⟨f,j,hj,h,hm,hk,hc⟩
  | false=>rw[e] at q;exact T.mks y g' q
 me:=T.me
theorem TxOk.addM(T:TxOk P w K mg base CA tx k)(h:DHas P w K mg base CA k f g)(hm:Meth K (CA.at' c) m f)(hc:c∈CA.cl):TxOk P w K mg base CA (tx.addM c m g) k where
 cls:=T.cls
 fl:=T.fl
 blt:=T.blt
 fn:=T.fn
 mks:=T.mks
 me:=λy l q c' g' z=>by
  have q:NY y ((m,(c,g)::(tx.me.lookup m).getD [])::tx.me)=some l:=q;rw[N0] at q;cases e:y == m with
  | true =>
   rw[e] at q;cases q;have e2:=beq_iff_eq.mp e;rw[N0] at z;cases e':c' == c with
   | true=>rw[e'] at z;cases z;rw[beq_iff_eq.mp e',e2];exact⟨f,h,hm,hc⟩
   | false =>
    rw[e'] at z;cases y':tx.me.lookup m with
    | none=>rw[y'] at z;cases z
    | some l'=>rw[y'] at z;rw[e2];exact T.me _ l' y' c' g' z
  | false=>rw[e] at q;exact T.me y l q c' g' z
def DHas.no{fd:RB}(b:Binds K fd (psOf st) []):DHas P w K mg base CA k f noL:=⟨(psOf st).length,fd,psOf st,Cj,FB,b⟩
theorem TxOk.loop(T:TxOk P w K mg base CA tx k)(F:Fun K x x st f fd)(S:stT st=true)(b:Binds K fd (psOf st) [])(hm:mg x=some (.ref f))(G:Nat->FL)(h0:G 0=noL)(hs:∀i,EV.df (tx.addF x (G i)) n st=G (i+1)):∀i,TxOk P w K mg base CA (tx.addF x (G i)) (k+i)
 | 0=>by rw[h0];exact T.addF (.no b) hm F.kp
 | i+1=>by
  have h:=(TxOk.loop T F S b hm G h0 hs i).df (n:=n) F S b;rw[hs i] at h;exact(T.mono (Pa _ _)).addF h hm F.kp
end
def minE:FL:=orL (two λi j=>if j < i then j else i) minPE
def maxE:FL:=two λi j=>if j > i then j else i
def yes:MM Bool:=pur true
noncomputable def fnAt(K:FAa)(x:Str):h_:=match nsIn K MR x with
 | some (some (.ref a))=>a
 | _=>0
noncomputable def meAt(K:FAa)(C:h_)(m:Str):h_:=match PR K (.ref C) m with
 | some (some (.ref a))=>a
 | _=>0
noncomputable def sgIn(K:FAa)(a:h_):Option (Arguments×FuncBody×M_):=match K.lookup a with
 | some ⟨_,_,.func fd,_⟩=>some (fd.params,fd.body,fd.scope)
 | _=>none
noncomputable def isNon:b_->Bool
 | .none=>true
 | _=>false
def fdT(K:FAa)(a:h_)(x q:Str):Bool:=match K.lookup a with
 | some ⟨_,_,.func fd,_⟩=>fd.name == x&&(fd.qualname == q&&(fd.globals == MR&&(fd.closure.isEmpty&&(isNon fd.defaults&&(fd.builtins == Rf&&codeIn K fd.code q)))))
 | _=>false
def Bj{K:FAa}{a:h_}{x q:Str}{st:Nr}(t:fdT K a x q=true)(l:sgIn K a=some (defArgs st,.stmts (defBody st),defScope st)):∃fd,Fun K x q st a fd:=by
 unfold fdT at t;unfold sgIn at l;split at t
 ·rename_i oc od fd cj hl;rw[hl] at l;cases fd with
  | mk name qualname params body scope globals closure defaults kwdefaults aJ pyModule annotations code closureTuple builtins =>
   simp only[k_] at t;obtain⟨t1,t2,t3,t4,t5,t6,t7⟩:=t;simp only[Option.some.injEq,Nm] at l;obtain⟨l1,l2,l3⟩:=l;cases beq_iff_eq.mp t1;cases beq_iff_eq.mp t2;cases beq_iff_eq.mp t3;cases beq_iff_eq.mp t6;cases List.isEmpty_iff.mp t4;subst l1;subst l2;subst l3;cases defaults<;>first | cases t5 | skip
   exact⟨_,D4 hl t7 (by unfold QQ;dsimp only;rw[hl])⟩
 ·cases t
def fnT(K:FAa)(x:Str):Bool:=(match nsIn K MR x with
 | some (some (.ref _))=>true
 | _=>false)&&fdT K (fnAt K x) x x
structure DF(K:FAa)(mg:Str->Option b_)(x:Str)(st:Nr):Prop where
 ex:∃fd,Fun K x x st (fnAt K x) fd
 m:mg x=some (.ref (fnAt K x))
def wX{K:FAa}{h:Mr}{mg:Str->Option b_}{x:Str}{st:Nr}(X:K.In h)(G:h.Ns MR mg)(t:fnT K x=true)(l:sgIn K (fnAt K x)=some (defArgs st,.stmts (defBody st),defScope st)):DF K mg x st:=by
 unfold fnT at t;rw[k_] at t;refine⟨Bj t.2 l,?_⟩;have t:=t.1;unfold fnAt;split at t
 ·rename_i a ha;exact mg_of X G ha
 ·cases t
noncomputable def isNone{α:Type}:Option (Option α)->Bool
 | some none=>true
 | _=>false
def yd{α:Type}{o:Option (Option α)}(h:isNone o=true):o=some none:=by
 unfold isNone at h;split at h
 ·rfl
 ·cases h
def clT(K:FAa)(fl:List Str)(c:Str):Bool:=(match nsIn K MR c with
 | some (some (.ref _))=>true
 | _=>false)&&(Sy K (fnAt K c) Str.empty&&(S6 K (fnAt K c)&&(plainOver K (fnAt K c)&&((match PR K (.ref (fnAt K c)) "__setattr__" with
 | some (some (.builtin s))=>s == "object.__setattr__"
 | _=>false)&&fl.all λf=>isNone (PR K (.ref (fnAt K c)) f)))))
def caOf(K:FAa)(cs fl:List Str):Kl:=⟨cs,fl,λc=>fnAt K c⟩
def Cc{K:FAa}{fl cs:List Str}(h:cs.all (clT K fl)=true):ClsOk K (caOf K cs fl) where
 cls:=λc hc=>by
  have t:=H_.mp h c hc;unfold clT at t;simp only[k_] at t;refine⟨t.2.1,t.2.2.1,t.2.2.2.1,?_⟩;have z:=t.2.2.2.2.1;split at z
  ·rename_i s hs;cases beq_iff_eq.mp z;exact hs
  ·cases z
 no:=λc hc f hf=>by
  have t:=H_.mp h c hc;unfold clT at t;simp only[k_] at t;exact yd (H_.mp t.2.2.2.2.2 f hf)
def meT(K:FAa)(c m q:Str):Bool:=(match PR K (.ref (fnAt K c)) m with
 | some (some (.ref _))=>true
 | _=>false)&&(fdT K (meAt K (fnAt K c) m) m q&&isFn K (.ref (meAt K (fnAt K c) m)))
structure DM(K:FAa)(c m q:Str)(st:Nr):Prop where
 ex:∃fd,Fun K m q st (meAt K (fnAt K c) m) fd
 m:Meth K (fnAt K c) m (meAt K (fnAt K c) m)
theorem xX{K:FAa}{c m q:Str}{st:Nr}(t:meT K c m q=true)(l:sgIn K (meAt K (fnAt K c) m)=some (defArgs st,.stmts (defBody st),defScope st)):DM K c m q st:=by
 unfold meT at t;simp only[k_] at t;obtain⟨fd,F⟩:=Bj t.2.1 l;refine⟨⟨fd,F⟩,?_,t.2.2,F.kp⟩;have t:=t.1;unfold meAt;split at t
 ·rename_i a ha;rw[ha]
 ·cases t
def mkT'(K:FAa)(c:Str):Bool:=makesIn K (fnAt K c)&&QQ K (.ref (fnAt K c))
def Eg{K:FAa}{c q:Str}{st:Nr}(D:DM K c "__init__" q st)(t:mkT' K c=true):Mk K (fnAt K c) (meAt K (fnAt K c) "__init__"):=by
 unfold mkT' at t;rw[k_] at t;exact⟨t.1,D.m.at_,D.m.fn,t.2⟩
def blT(K:FAa):Bool:=bnames.all λx=>isNone (nsIn K MR x)
def JT{K:FAa}{h:Mr}{mg:Str->Option b_}(X:K.In h)(G:h.Ns MR mg)(t:blT K=true):∀x∈bnames,mg x=none:=λx hx=>PySem.W.mg_none_of X G (yd (H_.mp t x hx))
def cl_m{K:FAa}{h:Mr}{mg:Str->Option b_}{fl:List Str}{c:Str}(X:K.In h)(G:h.Ns MR mg)(t:clT K fl c=true):mg c=some (.ref (fnAt K c)):=by
 unfold clT at t;rw[k_] at t;have t:=t.1;unfold fnAt;split at t
 ·rename_i a ha;exact mg_of X G ha
 ·cases t
def Kr{K:FAa}{h:Mr}{mg:Str->Option b_}{cs fl:List Str}{c:Str}(X:K.In h)(G:h.Ns MR mg)(t:cs.all (clT K fl)=true)(hc:cs.contains c=true):mg c=some (.ref (fnAt K c)):=cl_m X G (H_.mp t c (NQ.mp hc))
def bdT(st:Nr):Prop:=∀(x q:Str) (kV aJ pm:b_) (an:Option h_) (ay ct:b_) (v:Fin (psOf st).length->b_),bindArgs (fnOf x q (defArgs st) (defBody st) (defScope st) .none kV aJ pm an ay ct) ⟨ofFn v,[]⟩=pure ((psOf st).zip (ofFn v))
theorem ug{K:FAa}{x q:Str}{st:Nr}{f:h_}(F:Fun K x q st f fd)(h:bdT st):Binds K fd (psOf st) []:=F.binds λkV aJ pm an ay ct us hl=>by
 have e:us=ofFn λi:Fin (psOf st).length=>us[i.1]'(by rw[hl];exact i.2):=by
  apply Pz
  ·rw[List.length_ofFn];exact hl
  ·intro i h1 h2;rw[SS]
 rw[e];exact h x q kV aJ pm an ay ct _
section
variable{P:E_}{w:Mo}{K:FAa}{mg:Str->Option b_}{base:Mr}{cs fl:List Str}{tx:Tx}{k:Nat}{x c m q:Str}{st:Nr}{g:FL}
def T0(h:cs.all (clT K fl)=true)(b:∀x∈bnames,mg x=none):TxOk P w K mg base (caOf K cs fl) ⟨[],[],[],dt,fl⟩ 0 where
 cls:=Cc h
 fl:=rfl
 blt:=b
 fn:=λx g q=>by cases q
 mks:=λx g q=>by cases q
 me:=λm l q=>by cases q
theorem TxOk.fn'(T:TxOk P w K mg base (caOf K cs fl) tx k)(D:DF K mg x st)(S:stT st=true)(b:bdT st)(e:EV.df tx n st=g):TxOk P w K mg base (caOf K cs fl) (tx.addF x g) (k+1):=by
 obtain⟨fd,F⟩:=D.ex;have h:=T.df (n:=n) F S (ug F b);rw[e] at h;exact(T.mono (P5 k)).addF h D.m F.kp
def TxOk.rec'{G:Nat->FL}(T:TxOk P w K mg base (caOf K cs fl) tx k)(D:DF K mg x st)(S:stT st=true)(b:bdT st)(h0:G 0=noL)(e:∀i,EV.df (tx.addF x (G i)) n st=G (i+1))(i:Nat):TxOk P w K mg base (caOf K cs fl) (tx.addF x (G i)) (k+i):=by
 obtain⟨fd,F⟩:=D.ex;exact T.loop F S (ug F b) D.m G h0 e i
def TxOk.me'(T:TxOk P w K mg base (caOf K cs fl) tx k)(D:DM K c m q st)(hc:cs.contains c=true)(S:stT st=true)(b:bdT st)(e:EV.df tx n st=g):TxOk P w K mg base (caOf K cs fl) (tx.addM c m g) (k+1):=by
 obtain⟨fd,F⟩:=D.ex;have h:=T.df (n:=n) F S (ug F b);rw[e] at h;exact(T.mono (P5 k)).addM h D.m (NQ.mp hc)
def TxOk.mk'(T:TxOk P w K mg base (caOf K cs fl) tx k)(D:DM K c "__init__" q st)(hm:mg c=some (.ref (fnAt K c)))(hk:mkT' K c=true)(hc:cs.contains c=true)(S:stT st=true)(b:bdT st)(e:EV.df tx n st=g):TxOk P w K mg base (caOf K cs fl) (tx.addC c g) (k+2):=by
 obtain⟨fd,F⟩:=D.ex;have h:=T.df (n:=n) F S (ug F b);rw[e] at h;exact(T.mono (Pa k 2)).addC h (s_ _) hm (Eg D hk) (NQ.mp hc)
def TxOk.law'(T:TxOk P w K mg base (caOf K cs fl) tx k)(F:Fun K x x st (fnAt K x) fd)(S:stT st=true)(hp:psOf st=[("script":Str)])(e:EV.df tx n st=g):FnOk P w K mg base CX0 (k+1) (fnAt K x) fd [("script":Str)] (spE K (caOf K cs fl) 1 g):=by
 have S:=Bm S
 have h:=BV (N:=nsOf st) F S (dfB tx n st) λay A outer s H E hr =>
  qL ((snd n).S (TxOk.gd (X:=(cxOf CX0 P w K mg base (nsOf st) x (defScope st) (fnAt K x) ay A outer s H E).nox) T rfl rfl S.nd rfl rfl (λ_=>rfl) hr))
 rw[hp] at h;rw[←e];unfold EV.df;rw[hp];exact h
theorem Dh{f:h_}(F:Fun K x x st f fd)(hp:psOf st=[("script":Str)])(b:bdT st)(s:e_)(u:b_):Sz s fd ⟨[u],[]⟩ [("script", u)]:=by
 obtain⟨oc,od,kV,aJ,pm,an,ay,ct,cj,rfl,lk,cg⟩:=F.ex;have h:=b x x kV aJ pm an ay ct λ_=>u
 have e1:(ofFn λ_:Fin (psOf st).length=>u)=[u]:=by
  apply Pz
  ·rw[List.length_ofFn,hp];rfl
  ·intro i h1 h2;rw[SS];have:i=0:=by simpa using h2
   subst this;rfl
 rw[e1,hp] at h;exact .of_eq h
end
def E8{K:FAa}{CA:Kl}{H:Hp}{a:h_}{g:FL}(jc:RdK K H a (ns.map V.int))(hg:∃S',g [.d (.lst (ns.map D.int))] []=some (.d (.bl true),S')):spE K CA 1 g [.ref a] H (λv _=>v=.bl true) λ_ _ _=>False:=by
 obtain⟨S',hg⟩:=hg
 have jT:∀ns:List Int,IsA K H (ns.map D.int) (ns.map V.int):=λns=>by
  induction ns with
  | nil=>exact IsA.nil
  | cons n ns ih=>exact IsA.cons (Is.int n) ih
 exact⟨rfl,[],H,[],_,_,S',⟨Same.refl _,rfl,N8,λn o e=>by simp at e⟩,IsL.cons (.of (Is.lst jc (jT ns))) IsL.nil,hg,λv H' al I' r u h=>pA h.inv⟩
inductive En where
 | f (x:Str) (s:Nr) (g:FL)
 | r (x:Str) (s:Nr) (i:Nat) (G:Nat->FL)
 | m (c m q:Str) (s:Nr) (g:FL)
 | c (c q:Str) (s:Nr) (g:FL)
def En.tx(t:Tx):En->Tx
 | .f x _ z=>t.addF x z
 | .r x _ i G=>t.addF x (G i)
 | .m k y _ _ z=>t.addM k y z
 | .c k _ _ z=>t.addC k z
noncomputable def En.dp:En->Nat
 | .r _ _ i _=>i
 | .c ..=>2
 | _=>1
inductive TbOk(cs:List Str):Tx->List En->Prop where
 | nil {t:Tx}:TbOk cs t []
 | f {t:Tx}{x:Str}{s:Nr}{g:FL}{es:List En} (S:stT s=true) (b:bdT s) (e:df t 60 s=g) (h:TbOk cs (t.addF x g) es):TbOk cs t (.f x s g::es)
 | r {t:Tx}{x:Str}{s:Nr}{G:Nat->FL}{i:Nat}{es:List En} (S:stT s=true) (b:bdT s) (h0:G 0=noL) (e:∀i,df (t.addF x (G i)) 60 s=G (i+1)) (h:TbOk cs (t.addF x (G i)) es):TbOk cs t (.r x s i G::es)
 | m {t:Tx}{c m q:Str}{s:Nr}{g:FL}{es:List En} (hc:cs.contains c=true) (S:stT s=true) (b:bdT s) (e:df t 60 s=g) (h:TbOk cs (t.addM c m g) es):TbOk cs t (.m c m q s g::es)
 | c {t:Tx}{c q:Str}{s:Nr}{g:FL}{es:List En} (hc:cs.contains c=true) (S:stT s=true) (b:bdT s) (e:df t 60 s=g) (h:TbOk cs (t.addC c g) es):TbOk cs t (.c c q s g::es)
abbrev sgT(K:FAa)(a:h_)(s:Nr):Prop:=sgIn K a=some (defArgs s,.stmts (defBody s),defScope s)
inductive KsOk(K:FAa):List En->Prop where
 | nil:KsOk K []
 | f {x:Str}{s:Nr}{g:FL}{es:List En} (t:fnT K x=true) (l:sgT K (fnAt K x) s) (h:KsOk K es):KsOk K (.f x s g::es)
 | r {x:Str}{s:Nr}{G:Nat->FL}{i:Nat}{es:List En} (t:fnT K x=true) (l:sgT K (fnAt K x) s) (h:KsOk K es):KsOk K (.r x s i G::es)
 | m {c m q:Str}{s:Nr}{g:FL}{es:List En} (t:meT K c m q=true) (l:sgT K (meAt K (fnAt K c) m) s) (h:KsOk K es):KsOk K (.m c m q s g::es)
 | c {c q:Str}{s:Nr}{g:FL}{es:List En} (t:meT K c "__init__" q=true) (l:sgT K (meAt K (fnAt K c) "__init__") s) (k:mkT' K c=true) (h:KsOk K es):KsOk K (.c c q s g::es)
section
variable {P:E_}{w:Mo}{K:FAa}{h:Mr}{mg:Str->Option b_}{base:Mr}{cs fl:List Str}{tx:Tx}{es:List En}
def Eh(X:K.In h)(G:h.Ns MR mg)(hc:cs.all (clT K fl)=true)(o:TbOk cs tx es):∀{k:Nat},KsOk K es->TxOk P w K mg base (caOf K cs fl) tx k->TxOk P w K mg base (caOf K cs fl) (es.foldl En.tx tx) (es.foldl (λk e=>k+e.dp) k):=by
 induction o with
 | nil=>exact λ_ T=>T
 | f S b e _ ih=>intro k q T;cases q with | f t l q=>exact ih q (T.fn' (wX X G t l) S b e)
 | r S b h0 e _ ih=>intro k q T;cases q with | r t l q=>exact ih q (T.rec' (wX X G t l) S b h0 e _)
 | m aZ S b e _ ih=>intro k q T;cases q with | m t l q=>exact ih q (T.me' (xX t l) aZ S b e)
 | c aZ S b e _ ih=>intro k q T;cases q with | c t l y q=>exact ih q (T.mk' (xX t l) (Kr X G hc aZ) y aZ S b e)
def all_mk{s:Nr}{g:FL}(o:TbOk cs ⟨[],[],[],dt,fl⟩ es)(S:stT s=true)(b:bdT s)(hp:psOf s=[("script":Str)])(e:df (es.foldl En.tx ⟨[],[],[],dt,fl⟩) 60 s=g)(X:K.In h)(G:h.Ns MR mg)(iO:mg "law"=some (.ref fa))(hc:cs.all (clT K fl)=true)(hb:blT K=true)(q:KsOk K es)(t:fnT K "law"=true)(l:sgT K (fnAt K "law") s):
  ∃fd:RB,(∀(s:e_) (v:b_),Sz s fd ⟨[v],[]⟩ [("script", v)])/\∀base:Mr,K.In base->base.Ns MR mg->FnOk P w K mg base CX0 (es.foldl (λk e=>k+e.dp) 0+1) fa fd [("script":Str)] (spE K (caOf K cs fl) 1 g):=by
 have D:=wX X G t l;obtain⟨fd,F⟩:=D.ex;have e':=iO.symm.trans D.m;cases e';exact⟨fd,Dh F hp b,λbase _ _=>(Eh X G hc o q (T0 hc (JT X G hb))).law' F S hp e⟩
end
abbrev a0:MM (List E):=nilE
abbrev a1(a:MM E):MM (List E):=csE a nilE
abbrev a2(a b:MM E):MM (List E):=csE a (a1 b)
abbrev a3(a b c:MM E):MM (List E):=csE a (a2 b c)
abbrev a4(a b c d:MM E):MM (List E):=csE a (a3 b c d)
abbrev a5(a b c d e:MM E):MM (List E):=csE a (a4 b c d e)
abbrev ci(i:Int):MM E:=con (.int i)
abbrev cst(x:Str):MM E:=con (.str x)
abbrev cf:MM E:=con (.bl false)
abbrev ctr:MM E:=con (.bl true)
abbrev cno:MM E:=con .non
abbrev ix(a b:MM E):MM E:=o2 ixE a b
abbrev ixc(a:MM E)(i:Int):MM E:=o2 ixE a (ci i)
abbrev pl(a b:MM E):MM E:=o2 addE a b
abbrev mi(a b:MM E):MM E:=o2 subE a b
abbrev mu(a b:MM E):MM E:=o2 (or2 mulE mul1) a b
abbrev md(a b:MM E):MM E:=o2 modE a b
abbrev ln(a:MM E):MM E:=fn lenE (a1 a)
abbrev te(a b:MM E):MM Bool:=ts (o2 (eqE false) a b)
abbrev tn(a b:MM E):MM Bool:=ts (o2 (eqE true) a b)
abbrev pZ(a b:MM E):MM Bool:=ts (o2 ltE a b)
abbrev sF(a b:MM E):MM Bool:=ts (o2 gtE a b)
abbrev tnn(a:MM E):MM Bool:=ts (o2 (isE true) a cno)
abbrev tin(a:MM E):MM Bool:=ts (o2 (isE false) a cno)
abbrev oE(i:Nat)(e:MM E):SM:=asg e (tgn i)
abbrev rf:SM:=rtn cf
abbrev rtt:SM:=rtn ctr
abbrev rno:SM:=rtn cno
abbrev sk:SM:=ends .nx
abbrev if1(c:MM Bool)(a:SM):SM:=iff c a sk
abbrev qh(i j:Nat):GM:=tgt 2 (tgc (tgn i) (tgc (tgn j) tg0))
abbrev ap(o x:MM E):SM:=drp (mbE appE noM o (a1 x))
abbrev n0:MM E:=nm 0
abbrev n1:MM E:=nm 1
abbrev n2:MM E:=nm 2
abbrev n3:MM E:=nm 3
abbrev n4:MM E:=nm 4
abbrev n5:MM E:=nm 5
abbrev n6:MM E:=nm 6
abbrev n7:MM E:=nm 7
abbrev n8:MM E:=nm 8
abbrev n9:MM E:=nm 9
abbrev n10:MM E:=nm 10
abbrev n11:MM E:=nm 11
abbrev Mp:=List (Nat×Ob)
def Sub(S:Sto)(M:Mp):Prop:=(M.map (·.1)).Nodup/\∀c∈M,S[c.1]?=some c.2
def Le(M N:Mp):Prop:=∃R,N.Perm (R++M)
theorem Le.refl(M:Mp):Le M M:=⟨[],.refl _⟩
def Le.hd{M N:Mp}{c:Nat×Ob}(h:Le M N):Le (c::M) (c::N):=by
 obtain⟨R,h⟩:=h;exact⟨R,(h.cons c).trans PH.symm⟩
def Le.tl{M N:Mp}{c:Nat×Ob}(h:Le M N):Le M (c::N):=by
 obtain⟨R,h⟩:=h;exact⟨c::R,h.cons c⟩
theorem Le.trans{M N P:Mp}(h:Le M N)(k:Le N P):Le M P:=by
 obtain⟨R,h⟩:=h;obtain⟨T,k⟩:=k;exact⟨T++R,by rw[MF];exact k.trans (h.append_left T)⟩
def Le.perm{M N:Mp}(h:N.Perm M):Le M N:=⟨[],h⟩
def Le.app{M N:Mp}(R:Mp)(h:Le M N):Le M (R++N):=by
 induction R with
 | nil=>exact h
 | cons c R ih=>exact ih.tl
def Le.left{M N:Mp}(R:Mp)(h:Le M N):Le (R++M) (R++N):=by
 induction R with
 | nil=>exact h
 | cons c R ih=>exact ih.hd
section
variable{M N:Mp}{o:Ob}
def Sub.perm(h:Sub S M)(p:M.Perm N):Sub S N:=⟨(p.map _).nodup_iff.mp h.1,λc hc=>h.2 c (p.mem_iff.mpr hc)⟩
def Sub.le(h:Sub S N)(l:Le M N):Sub S M:=by
 obtain⟨R,l⟩:=l;have h:=h.perm l;obtain⟨h1,h2⟩:=h;rw[o_] at h1;exact⟨(OH.mp h1).2.1,λc hc=>h2 c (Mv _ hc)⟩
def Sub.get(h:Sub S M)(m:(n,o)∈M):S[n]?=some o:=h.2 _ m
def Sub.new(h:Sub S M)(o:Ob):Sub (S++[o]) ((S.length,o)::M):=by
 have lt:∀c∈M,c.1 < S.length:=λc hc=>(j_.mp (h.2 c hc)).1
 refine⟨?_,λc hc=>?_⟩
 ·rw[I_,MH];refine⟨λz=>?_,h.1⟩;obtain⟨c,hc,e⟩:=F_.mp z;have:=lt c hc;rw[e] at this;exact NT _ this
 ·rcases x_.mp hc with rfl | hc
  ·exact List.getElem?_concat_length ..
  ·rw[M9 (lt c hc)];exact h.2 c hc
end
inductive Put(n:Nat)(o:Ob):Mp->Mp->Prop where
 | hd {o0:Ob}{M:Mp}:Put n o ((n,o0)::M) ((n,o)::M)
 | tl {c:Nat×Ob}{M M':Mp} (h:Put n o M M'):Put n o (c::M) (c::M')
def Put.keys{o:Ob}{M M':Mp}(p:Put n o M M'):M'.map (·.1)=M.map (·.1)/\n∈M.map (·.1):=by
 induction p with
 | hd=>exact⟨rfl,p_⟩
 | tl h ih=>exact⟨by rw[I_,ih.1,I_],n_ _ ih.2⟩
def Put.mem{o:Ob}{M M':Mp}(p:Put n o M M')(nd:(M.map (·.1)).Nodup):∀c∈M',c=(n,o)\/(c.1≠n/\c∈M):=by
 induction p with
 | @hd o0 M =>
  intro c hc;rw[I_,MH] at nd
  rcases x_.mp hc with rfl | hc
  ·exact .inl rfl
  ·exact .inr ⟨λz=>nd.1 (z▸Pf (f:=(·.1)) hc),n_ _ hc⟩
 | @tl d M M' h ih =>
  intro c hc;rw[I_,MH] at nd
  rcases x_.mp hc with rfl | hc
  ·exact .inr ⟨λz=>nd.1 (z▸h.keys.2),p_⟩
  ·rcases ih nd.2 c hc with z | ⟨a,b⟩
   ·exact .inl z
   ·exact .inr ⟨a,n_ _ b⟩
def Sub.put{o:Ob}{M M':Mp}(h:Sub S M)(p:Put n o M M'):Sub (S.set n o) M':=by
 refine⟨by rw[p.keys.1];exact h.1,λc hc=>?_⟩
 have hn:n < S.length:=by
  obtain⟨d,hd,e⟩:=F_.mp p.keys.2;have:=(j_.mp (h.2 d hd)).1;rw[e] at this;exact this
 rcases p.mem h.1 c hc with rfl | ⟨a,b⟩
 ·exact Os hn
 ·rw[OP (MQ a)];exact h.2 c b
theorem rV{n:Nat}{o o':Ob}:∀{M:Mp},(M.map (·.1)).Nodup->(n,o)∈M->(n,o')∈M->o=o'
 | c::M,nd,h,k=>by
  rw[I_,MH] at nd
  rcases x_.mp h with e | h1<;>rcases x_.mp k with e' | k1
  ·rw[←e'] at e;cases e;rfl
  ·exact absurd (Pf (f:=(·.1)) k1) (by rw[←e] at nd;exact nd.1)
  ·exact absurd (Pf (f:=(·.1)) h1) (by rw[←e'] at nd;exact nd.1)
  ·exact rV nd.2 h1 k1
theorem B6{n:Nat}:∀{M:Mp},n∉M.map (·.1)->M.filter (λc=>c.1 != n)=M
 | [],_=>rfl
 | c::M,h=>by
  rw[I_,x_,not_or] at h;rw[QI,if_pos (by simpa using λz=>h.1 z.symm),B6 h.2]
def Put.split{o:Ob}{M M':Mp}(p:Put n o M M')(nd:(M.map (·.1)).Nodup)(h:(n,o0)∈M):M.Perm ((n,o0)::M.filter λc=>c.1 != n)/\M'.Perm ((n,o)::M.filter λc=>c.1 != n):=by
 induction p with
 | @hd o1 M =>
  have e:o1=o0:=rV nd p_ h;subst e;rw[I_,MH] at nd;rw[QI,if_neg (by simp),B6 nd.1];exact⟨.refl _,.refl _⟩
 | @tl c M M' p ih =>
  rw[I_,MH] at nd;have ne:c.1≠n:=λz=>nd.1 (z▸p.keys.2)
  obtain⟨h1,h2⟩:=ih nd.2 ((x_.mp h).resolve_left λz=>ne (by rw[←z]));rw[QI,if_pos (by simpa using ne)];exact⟨(h1.cons c).trans (.swap ..),(h2.cons c).trans (.swap ..)⟩
inductive OF{α:Type}(x:Option (α×Sto))(Q:α->Mp->Prop):Prop | mk (a:α) (S':Sto) (M':Mp):x=some (a,S')->Sub S' M'->Q a M'->OF x Q
def wF{α:Type}(F:Sto->Option (α×Sto))(M:Mp)(Q:α->Mp->Prop):Prop:=∀S,Sub S M->OF (F S) Q
def wM{α:Type}(m:MM α)(ν:Nms)(M:Mp)(Q:α->Mp->Prop):Prop:=wF (m ν) M Q
inductive OS(x:Option (Fl×Nms×Sto))(Q:Fl->Nms->Mp->Prop):Prop | mk (f:Fl) (ag:Nms) (S':Sto) (M':Mp):x=some (f,ag,S')->Sub S' M'->Q f ag M'->OS x Q
def wS(m:SM)(ν:Nms)(M:Mp)(Q:Fl->Nms->Mp->Prop):Prop:=∀S,Sub S M->OS (m ν S) Q
section
variable{α β:Type}{F:Sto->Option (α×Sto)}{m:MM α}{f:α->MM β}{M N:Mp}{Q Q':α->Mp->Prop}{R:β->Mp->Prop}{a:α}
def wF.mono(h:wF F M Q')(k:∀a M',Q' a M'->Q a M'):wF F M Q:=λS s=>by
 obtain⟨a,S',M',e,s',q⟩:=h S s;exact⟨a,S',M',e,s',k a M' q⟩
theorem wF.le(h:wF F M λa M'=>∃N,Le N M'/\Q a N):wF F M Q:=λS s=>by
 obtain⟨a,S',M',e,s',N,l,q⟩:=h S s;exact⟨a,S',N,e,s'.le l,q⟩
def wF.pre(p:Le N M)(h:wF F N Q):wF F M Q:=λS s=>h S (s.le p)
def wF.at1{ι:Type}[Inhabited ι]{o:ι->Ob}{M':ι->Mp}(h:(n,o0)∈M)(p:∀i,Put n (o i) M (M' i))(k:∀R,M.Perm ((n,o0)::R)->wF F ((n,o0)::R) λa N=>∃i,Le ((n,o i)::R) N/\Q a (M' i)):wF F M Q:=λS s=>by
 have q0:=((p default).split s.1 h).1;obtain⟨a,S',N,e,s',i,l,q⟩:=k _ q0 S (s.perm q0);exact⟨a,S',M' i,e,(s'.le l).perm ((p i).split s.1 h).2.symm,q⟩
def wS.mono{m:SM}{Q Q':Fl->Nms->Mp->Prop}(h:wS m ν M Q')(k:∀f ag M',Q' f ag M'->Q f ag M'):wS m ν M Q:=λS s=>by
 obtain⟨f,ag,S',M',e,s',q⟩:=h S s;exact⟨f,ag,S',M',e,s',k f ag M' q⟩
theorem wS.le{m:SM}{Q:Fl->Nms->Mp->Prop}(h:wS m ν M λf ag M'=>∃N,Le N M'/\Q f ag N):wS m ν M Q:=λS s=>by
 obtain⟨f,ag,S',M',e,s',N,l,q⟩:=h S s;exact⟨f,ag,S',N,e,s'.le l,q⟩
def wS.pre{m:SM}{Q:Fl->Nms->Mp->Prop}(p:Le N M)(h:wS m ν N Q):wS m ν M Q:=λS s=>h S (s.le p)
def oU(q:Q a M):wM (pur a) ν M Q:=λS s=>⟨a,S,M,rfl,s,q⟩
def rz(q:Q a M):wF (λS=>some (a,S)) M Q:=λS s=>⟨a,S,M,rfl,s,q⟩
def w_bd(h:wM m ν M λa M1=>wM (f a) ν M1 R):wM (bd m f) ν M R:=λS s=>by
 obtain⟨a,S1,M1,e,s1,q⟩:=h S s;obtain⟨b,S2,M2,e2,s2,q2⟩:=q S1 s1;exact⟨b,S2,M2,by unfold bd;rw[e];exact e2,s2,q2⟩
def vE(h:wF F M Q):wM (lif F) ν M Q:=h
end
abbrev kf{α β:Type}(G:α->Sto->Option (β×Sto))(Q:β->Mp->Prop)(x:α)(M:Mp):Prop:=wF (G x) M Q
abbrev ko(F:F2)(b:MM E)(ν:Nms)(Q:E->Mp->Prop)(x:E)(M:Mp):Prop:=wM b ν M (kf (F x) Q)
abbrev kn(x:E)(Q:List E->Mp->Prop)(xs:List E)(M:Mp):Prop:=Q (x::xs) M
abbrev kc(t:MM (List E))(ν:Nms)(Q:List E->Mp->Prop)(x:E)(M:Mp):Prop:=wM t ν M (kn x Q)
abbrev kb(Q:Bool->Mp->Prop)(e:E)(M:Mp):Prop:=∃k,e=.d (.bl k)/\Q k M
abbrev kan(b:MM Bool)(ν:Nms)(Q:Bool->Mp->Prop)(k:Bool)(M:Mp):Prop:=if k=true then wM b ν M Q else Q false M
abbrev kor(b:MM Bool)(ν:Nms)(Q:Bool->Mp->Prop)(k:Bool)(M:Mp):Prop:=if k=true then Q true M else wM b ν M Q
abbrev kno(Q:Bool->Mp->Prop)(k:Bool)(M:Mp):Prop:=Q (!k) M
abbrev kl(Q:E->Mp->Prop)(x:E)(M:Mp):Prop:=∃N,Le N M/\Q x N
section
variable{M:Mp}{Q:E->Mp->Prop}{QL:List E->Mp->Prop}{QB:Bool->Mp->Prop}{a b c:MM E}{t:MM (List E)}{ta tb:MM Bool}{F:F2}{G:FL}{e x y:E}{i:Nat}
def w_nm(h:ν[i]?=some (some e))(q:Q e M):wM (nm i) ν M Q:=λS s=>⟨e,S,M,by unfold nm;rw[h],s,q⟩
def rG(q:Q (.d d) M):wM (con d) ν M Q:=oU q
def w_o2(h:wM a ν M (ko F b ν Q)):wM (o2 F a b) ν M Q:=w_bd (h.mono λ_ _ q=>w_bd q)
def w_fn(h:wM t ν M (kf G Q)):wM (fn G t) ν M Q:=w_bd h
def qg(q:QL [] M):wM nilE ν M QL:=oU q
def w_cs(h:wM a ν M (kc t ν QL)):wM (csE a t) ν M QL:=w_bd (h.mono λ_ _ q=>w_bd (wF.mono q λ_ _ z=>oU z))
def AU{p:Prop}[Decidable p]{α:Type}{F:Sto->Option (α×Sto)}{Q:α->Mp->Prop}(hp:p)(h:wF F M Q):wF (λS=>if p then F S else none) M Q:=λS s=>by
 obtain⟨a,S',M',e,r,q⟩:=h S s;exact⟨a,S',M',(if_pos hp).trans e,r,q⟩
abbrev ktu(Q:E->Mp->Prop)(es:List E)(M:Mp):Prop:=es.length<=lim/\Q (mkT es) M
def rX(h:wM t ν M (ktu Q)):wM (tupE t) ν M Q:=w_bd (h.mono λes _ q=>vE (AU q.1 (rz q.2)))
def sO{o:Ob}(h:∀n,Q (.ref n) ((n,o)::M)):wF (λS=>some (.ref S.length,S++[o])) M Q:=λS s=>⟨_,_,_,rfl,s.new o,h _⟩
abbrev kls(Q:E->Mp->Prop)(es:List E)(M:Mp):Prop:=es.length<=lim/\∀n,Q (.ref n) ((n,.lst es)::M)
def uR(h:wM t ν M (kls Q)):wM (lstE t) ν M Q:=w_bd (h.mono λes _ q=>vE (AU q.1 (sO q.2)))
def rS(h:∀n,Q (.ref n) ((n,.dct tk false [])::M)):wM (newD tk) ν M Q:=vE (sO h)
def yF{k:Bool}(q:QB k M):wM (bool (.d (.bl k))) ν M QB:=λS s=>⟨k,S,M,rfl,s,q⟩
def kb_i{k:Bool}(q:QB k M):kb QB (.d (.bl k)) M:=⟨k,rfl,q⟩
def w_ts(h:wM a ν M (kb QB)):wM (ts a) ν M QB:=w_bd (h.mono λe M1 ⟨k,e1,q⟩=>by subst e1;exact yF q)
def w_an(h:wM ta ν M (kan tb ν QB)):wM (anT ta tb) ν M QB:=w_bd (h.mono λk M1 q=>by
 cases k
 ·exact oU q
 ·exact q)
def w_or(h:wM ta ν M (kor tb ν QB)):wM (orT' ta tb) ν M QB:=w_bd (h.mono λk M1 q=>by
 cases k
 ·exact q
 ·exact oU q)
def w_no(h:wM ta ν M (kno QB)):wM (noT ta) ν M QB:=w_bd (h.mono λk M1 q=>oU q)
def C4(h:wM a ν M λe M1=>∃k,e=.d (.bl k)/\if k=true then wM b ν M1 Q else Q (.d (.bl false)) M1):wM (anE a b) ν M Q:=w_bd (h.mono λe M1 ⟨k,e1,q⟩=>by
 subst e1;cases k
 ·exact rG q
 ·exact q)
abbrev kif(a b:MM E)(ν:Nms)(Q:E->Mp->Prop)(k:Bool)(M:Mp):Prop:=if k=true then wM a ν M Q else wM b ν M Q
def Eu(h:wM ta ν M (kif a b ν Q)):wM (ifE ta a b) ν M Q:=w_bd (h.mono λk M1 q=>by cases k<;>exact q)
def GV(h:wM a ν M λx M1=>wM b ν M1 λy M2=>wF (F x y) M2 λz M3=>∃k,z=.d (.bl k)/\if k=true then wM c ν M3 λw M4=>wF (F' y w) M4 Q else Q (.d (.bl false)) M3):wM (ch3 F F' a b c) ν M Q:=
 w_bd (h.mono λx M1 q=>w_bd (wF.mono q λy M2 q=>w_bd (wF.mono (show wM (lif (F x y)) ν M2 _ from q) λz M3 ⟨k,e,q⟩=>by
  subst e;refine w_bd (yF ?_);cases k
  ·exact rG q
  ·exact w_bd (wF.mono q λw M4 q=>q))))
end
section
variable{M:Mp}{Q:Fl->Nms->Mp->Prop}{a c:MM E}{tc:MM Bool}{g h:SM}
def ra{f:Fl}(q:Q f ν M):wS (ends f) ν M Q:=λS s=>⟨f,ν,S,M,rfl,s,q⟩
def s_ve{α:Type}{m:MM α}{f:α->SM}(h:wM m ν M λx M1=>wS (f x) ν M1 Q):wS (ve m f) ν M Q:=λS s=>by
 obtain⟨x,S1,M1,e,s1,q⟩:=h S s;obtain⟨f',ag,S2,M2,e2,s2,q2⟩:=q S1 s1;exact⟨f',ag,S2,M2,by unfold ve;rw[e];exact e2,s2,q2⟩
def thenS(h:SM)(Q:Fl->Nms->Mp->Prop)(f:Fl)(ν:Nms)(M:Mp):Prop:=match f with
 | .nx=>wS h ν M Q
 | f=>Q f ν M
def s_sq(k:wS g ν M (thenS h Q)):wS (sq g h) ν M Q:=λS s=>by
 obtain⟨f,aw,S1,M1,e,s1,q⟩:=k S s;cases f with
 | nx =>
  obtain⟨f',ag,S2,M2,e2,s2,q2⟩:=q S1 s1;exact⟨f',ag,S2,M2,by unfold sq bs;rw[e];exact e2,s2,q2⟩
 | rt e'=>exact⟨_,_,_,_,by unfold sq bs;rw[e];rfl,s1,q⟩
 | bk=>exact⟨_,_,_,_,by unfold sq bs;rw[e];rfl,s1,q⟩
 | ct=>exact⟨_,_,_,_,by unfold sq bs;rw[e];rfl,s1,q⟩
abbrev kr(ν:Nms)(Q:Fl->Nms->Mp->Prop)(e:E)(M:Mp):Prop:=Q (.rt e) ν M
abbrev ki(g h:SM)(ν:Nms)(Q:Fl->Nms->Mp->Prop)(c:Bool)(M:Mp):Prop:=if c=true then wS g ν M Q else wS h ν M Q
def BP(h:wM a ν M (kr ν Q)):wS (rtn a) ν M Q:=s_ve (h.mono λ_ _ q=>ra q)
def DS(h:wM a ν M λe M1=>Q .nx ν M1):wS (drp a) ν M Q:=s_ve (h.mono λ_ _ q=>ra q)
def AC(k:wM tc ν M (ki g h ν Q)):wS (iff tc g h) ν M Q:=s_ve (k.mono λc M1 q=>by cases c<;>exact q)
inductive kas(f:GM)(ν:Nms)(Q:Fl->Nms->Mp->Prop)(e:E)(M:Mp):Prop | mk (ag:Nms):f e ν=some ag->Q .nx ag M->kas f ν Q e M
def BW{f:GM}(h:wM a ν M (kas f ν Q)):wS (asg a f) ν M Q:=s_ve (h.mono λe M1 ⟨ag,e1,q⟩=>λS s=>⟨_,_,_,_,by dsimp only;rw[e1],s,q⟩)
def rets(Q:E->Mp->Prop)(f:Fl)(_:Nms)(M:Mp):Prop:=match f with
 | .rt e=>Q e M
 | .nx=>Q (.d .non) M
 | _=>False
def rY{ar:Nat}{body:SM}{es:List E}{Q:E->Mp->Prop}(hl:es.length=ar)(h:wS body (es.map some++Mm (n - es.length) none) M (rets Q)):wF (fnE n ar body es) M Q:=λS s=>by
 obtain⟨f,aw,S1,M1,e,s1,q⟩:=h S s;cases f with
 | rt e'=>exact⟨e',S1,M1,by unfold fnE;rw[if_pos hl,e],s1,q⟩
 | nx=>exact⟨_,S1,M1,by unfold fnE;rw[if_pos hl,e],s1,q⟩
 | bk=>exact q.elim
 | ct=>exact q.elim
end
def Le.mem{M N:Mp}(l:Le M N){c:Nat×Ob}(h:c∈M):c∈N:=by
 obtain⟨R,l⟩:=l;exact l.mem_iff.mpr (Mv _ h)
def SrcAt(src:Src)(xs:List E)(M:Mp):Prop:=∀S,Sub S M->src S=some xs
theorem SrcAt.le{xs:List E}{M N:Mp}(h:SrcAt src xs M)(l:Le M N):SrcAt src xs N:=λS s=>h S (s.le l)
def wU(lk:Option Nat)(M:Mp)(Q:Mp->Prop):Prop:=∀S,Sub S M->∃S' M',unl lk S=some S'/\Sub S' M'/\Q M'
def pc{M:Mp}{Q:Mp->Prop}(q:Q M):wU none M Q:=λS s=>⟨S,M,rfl,s,q⟩
def xW{M M':Mp}{Q:Mp->Prop}{kvs:List (D×E)}(h:(n,.dct tk true kvs)∈M)(p:Put n (.dct tk false kvs) M M')(q:Q M'):wU (some n) M Q:=λS s=>⟨_,M',by
 show freeS n S=_;unfold freeS
 rw[s.get h],s.put p,q⟩
section
variable{α:Type}{M:Mp}{Q:Fl->Nms->Mp->Prop}{f:GM}{body:SM}{g:α->E}{xs:List α}{lk:Option Nat}
def turnS(lk:Option Nat)(nx:Nms->Mp->Prop)(Q:Fl->Nms->Mp->Prop)(fl:Fl)(ν:Nms)(M:Mp):Prop:=match fl with
 | .nx=>nx ν M
 | .ct=>nx ν M
 | .bk=>wU lk M (Q .nx ν)
 | .rt r=>wU lk M (Q (.rt r) ν)
theorem BS(I:List α->Nms->Mp->Prop)(bC:∀done ν M,I done ν M->SrcAt src (xs.map g) M)(step:∀done a ad ν M,xs=done++a::ad->I done ν M->∃aw,f (g a) ν=some aw/\wS body aw M (turnS lk (I (done++[a])) Q))(fin:∀ν M,I xs ν M->wU lk M (Q .nx ν)):
  ∀(ad done:List α),xs=done++ad->∀aB,ad.length < aB->∀ν M,I done ν M->wS (forL src f body aB done.length) ν M λfl ag M'=>wU lk M' (Q fl ag)
 | _,_,_,0,h,_,_,_=>absurd h (Ov _)
 | [],done,e,aB+1,_,ν,M,i=>λS s=>by
  rw[MY] at e;subst e;refine⟨.nx,ν,S,M,?_,s,fin ν M i⟩;unfold forL;rw[bC _ _ _ i S s];dsimp only;rw[Nv (by rw[c_];exact s_ _)]
 | a::ad,done,e,aB+1,hl,ν,M,i=>λS s=>by
  obtain⟨aw,e1,w⟩:=step done a ad ν M e i;obtain⟨fl,aq,S2,M2,e2,s2,q⟩:=w S s;have hs:=bC _ _ _ i S s;have hx:(xs.map g)[done.length]?=some (g a):=by rw[e,o_,MT (by rw[c_];exact s_ _),c_,SH];rfl
  have mw:forL src f body (aB+1) done.length ν S=match body aw S with
     | some (.nx,aq,S2)=>forL src f body aB (done.length+1) aq S2
     | some (.ct,aq,S2)=>forL src f body aB (done.length+1) aq S2
     | some (.bk,aq,S2)=>some (.nx,aq,S2)
     | some (.rt r,aq,S2)=>some (.rt r,aq,S2)
     | none=>none:=by
   show(match src S with
    | some es=>_
    | none=>none)=_
   rw[hs];dsimp only;rw[hx];dsimp only;rw[e1]
   try rfl
  rw[mw,e2]
  have more:I (done++[a]) aq M2->OS (forL src f body aB (done.length+1) aq S2) (λfl ag M'=>wU lk M' (Q fl ag)):=λi2=>by
   have:=BS I bC step fin ad (done++[a]) (by rw[e,MF];rfl) aB (by rw[G_] at hl;omega) aq M2 i2 S2 s2;rw[g_] at this;exact this
  cases fl with
  | nx=>exact more q
  | ct=>exact more q
  | bk=>exact⟨.nx,aq,S2,M2,rfl,s2,q⟩
  | rt r=>exact⟨.rt r,aq,S2,M2,rfl,s2,q⟩
def pf(I:List α->Nms->Mp->Prop)(h:wM it ν M λi M1=>i.lk=lk/\(∀done ν M,I done ν M->SrcAt i.src (xs.map g) M)/\I [] ν M1)(hl:xs.length < 1000000)(step:∀done a ad ν M,xs=done++a::ad->I done ν M->∃aw,f (g a) ν=some aw/\wS body aw M (turnS lk (I (done++[a])) Q))(fin:∀ν M,I xs ν M->wU lk M (Q .nx ν)):wS (forE it f body) ν M Q:=
 s_ve (h.mono λi M1 ⟨e,hs,i0⟩ S s=>by
  obtain⟨fl,ag,S1,M2,e1,s1,u⟩:=BS (src:=i.src) (f:=f) (body:=body) I hs step fin xs [] rfl 1000000 hl ν M1 i0 S s;obtain⟨S2,M3,e2,s2,q⟩:=u S1 s1;refine⟨fl,ag,S2,M3,?_,s2,q⟩
  show(match forL i.src f body 1000000 0 ν S with
   | some (fl,ag,S')=>_
   | none=>none)=_
  rw[show forL i.src f body 1000000 0 ν S=some (fl,ag,S1) from e1];dsimp only
  rw[e,e2])
end
def EL{body:SM}{f:Fl->SM}{S2:Sto}{fl:Fl}(h:body ν S=some (fl,aq,S2)):bs body f ν S=f fl aq S2:=by
 unfold bs;rw[h]
theorem vN{c:MM Bool}{body:SM}{Q:Fl->Nms->Mp->Prop}(I:Nat->Nms->Mp->Prop)(step:∀k ν M,I k ν M->wM c ν M λb M1=>if b=true then wS body ν M1 λfl aq M2=>match fl with
   | .nx=>∃k',k' < k/\I k' aq M2
   | .ct=>∃k',k' < k/\I k' aq M2
   | .bk=>Q .nx aq M2
   | .rt r=>Q (.rt r) aq M2
  else Q .nx ν M1):∀(aB k:Nat),k < aB->∀ν M,I k ν M->wS (whL c body aB) ν M Q
 | 0,k,h,_,_,_=>absurd h (Ov _)
 | aB+1,k,h,ν,M,i=>s_ve ((step k ν M i).mono λb M1 q=>by
  cases b with
  | false=>exact ra q
  | true =>
   intro S s;obtain⟨fl,aq,S2,M2,e2,s2,q2⟩:=q S s
   show OS (bs body (λf=>match f with
    | .nx=>whL c body aB
    | .ct=>whL c body aB
    | .bk=>ends .nx
    | .rt r=>ends (.rt r)) ν S) Q
   rw[EL e2];cases fl with
   | nx=>obtain⟨k',hk,i'⟩:=q2;exact vN I step aB k' ⋯ aq M2 i' S2 s2
   | ct=>obtain⟨k',hk,i'⟩:=q2;exact vN I step aB k' ⋯ aq M2 i' S2 s2
   | bk=>exact⟨_,_,_,_,rfl,s2,q2⟩
   | rt r=>exact⟨_,_,_,_,rfl,s2,q2⟩)
section
variable{α:Type}{M:Mp}{Q:E->Mp->Prop}{f:GM}{ts:MM Bool}{g:α->E}{xs:List α}{lk:Option Nat}{m:Nat}{own:α->Nms}
theorem Ag(I:List α->List E->Mp->Prop)(bC:∀done ac M,I done ac M->SrcAt src (xs.map g) M)(hf:∀a∈xs,∀pre:Nms,pre.length=m->f (g a) (pre++ν)=some (own a++ν))(hm:∀a∈xs,(own a).length=m)(step:∀done a ad ac M p,xs=done++a::ad->I done ac M->wM ts (own a++ν) ((p,.lst ac)::M) λb M2=>if b=true then wM el (own a++ν) M2 λx M3=>ac.length<=lim/\∃M4,Le ((p,.lst ac)::M4) M3/\I (done++[a]) (ac++[x]) M4
   else ∃M4,Le ((p,.lst ac)::M4) M2/\I (done++[a]) ac M4)(p:Nat):
  ∀(ad done:List α),xs=done++ad->∀aB,ad.length < aB->∀(pre:Nms),pre.length=m->∀ac M S,Sub S ((p,.lst ac)::M)->I done ac M →
   ∃S' bU M',compL src f ts el p aB done.length (pre++ν) S=some S'/\Sub S' ((p,.lst bU)::M')/\I xs bU M'
 | _,_,_,0,h,_,_,_,_,_,_,_=>absurd h (Ov _)
 | [],done,e,aB+1,_,pre,hp,ac,M,S,s,i=>by
  rw[MY] at e;subst e;refine⟨S,ac,M,?_,s,i⟩;unfold compL;rw[(bC _ _ _ i).le (Le.tl (Le.refl M)) S s];dsimp only;rw[Nv (by rw[c_];exact s_ _)]
 | a::ad,done,e,aB+1,hl,pre,hp,ac,M,S,s,i=>by
  have ha:a∈xs:=by rw[e];simp
  have hs:=(bC _ _ _ i).le (Le.tl (c:=(p,.lst ac)) (Le.refl M)) S s;have hx:(xs.map g)[done.length]?=some (g a):=by rw[e,o_,MT (by rw[c_];exact s_ _),c_,SH];rfl
  obtain⟨b,S1,M1,e1,s1,q⟩:=step done a ad ac M p e i S s
  have more:∀dW M2 S2,Sub S2 ((p,.lst dW)::M2)->I (done++[a]) dW M2->∃S' bU M',compL src f ts el p aB (done.length+1) (own a++ν) S2=some S'/\Sub S' ((p,.lst bU)::M')/\I xs bU M':=λdW M2 S2 s2 i2=>by
   have:=Ag I bC hf hm step p ad (done++[a]) (by rw[e,MF];rfl) aB (by rw[G_] at hl;omega) (own a) (hm a ha) dW M2 S2 s2 i2;rw[g_] at this;exact this
  unfold compL;rw[hs];dsimp only;rw[hx];dsimp only;rw[hf a ha pre hp];dsimp only;rw[e1];cases b with
  | false =>
   obtain⟨M4,l,i4⟩:=q;exact more ac M4 S1 (s1.le l) i4
  | true =>
   obtain⟨x,S2,M2,e2,s2,mx,M4,l,i4⟩:=q S1 s1;have s3:=s2.le l;dsimp only;rw[e2];dsimp only;rw[s3.get p_];dsimp only;rw[if_pos mx];exact more (ac++[x]) M4 _ (s3.put .hd) i4
def vJ(I:List α->List E->Mp->Prop)(h:wM it ν M λi M1=>i.lk=lk/\(∀done ac M,I done ac M->SrcAt i.src (xs.map g) M)/\I [] [] M1)(hl:xs.length < 1000000)(hf:∀a∈xs,∀pre:Nms,pre.length=m->f (g a) (pre++ν)=some (own a++ν))(hm:∀a∈xs,(own a).length=m)(step:∀done a ad ac M p,xs=done++a::ad->I done ac M->wM ts (own a++ν) ((p,.lst ac)::M) λb M2=>if b=true then wM el (own a++ν) M2 λx M3=>ac.length<=lim/\∃M4,Le ((p,.lst ac)::M4) M3/\I (done++[a]) (ac++[x]) M4
   else ∃M4,Le ((p,.lst ac)::M4) M2/\I (done++[a]) ac M4)(fin:∀ac p M,I xs ac M->wU lk ((p,.lst ac)::M) (Q (.ref p))):wM (comp m it f ts el) ν M Q:=
 w_bd (h.mono λi M1 ⟨e,hs,i0⟩ S s=>by
  obtain⟨S1,ac,M2,e1,s1,i1⟩:=Ag (src:=i.src) I hs hf hm step S.length xs [] rfl 1000000 hl (Mm m none) (Mw ..) [] M1 _ (s.new _) i0;obtain⟨S2,M3,e2,s2,q⟩:=fin ac _ M2 i1 S1 s1;refine⟨.ref S.length,S2,M3,?_,s2,q⟩
  show(match compL i.src f ts el S.length 1000000 0 (Mm m none++ν) (S++[.lst []]) with
   | some S'=>_
   | none=>none)=_
  rw[show compL i.src f ts el S.length 1000000 0 (Mm m none++ν) (S++[.lst []])=some S1 from e1];dsimp only
  rw[e,e2])
def o6(bc:α->Bool)(cb:α->E)(h:wM it ν M λi M1=>i.lk=none/\SrcAt i.src (xs.map g) M1/\Le M M1)(hl:xs.length < 1000000)(hf:∀a∈xs,∀pre:Nms,pre.length=m->f (g a) (pre++ν)=some (own a++ν))(hm:∀a∈xs,(own a).length=m)(ht:∀a∈xs,∀N,Le M N->wM ts (own a++ν) N λb N1=>b=bc a/\Le N N1)(he:∀a∈xs,bc a=true->∀N,Le M N->wM el (own a++ν) N λx N1=>x=cb a/\Le N N1)(fin:∀p,Q (.ref p) ((p,.lst ((xs.filter bc).map cb))::M)):wM (comp m it f ts el) ν M Q:=by
 intro S s;obtain⟨i,S1,M1,e1,s1,my,bC,iP⟩:=h S s
 have key:wM (comp m (λ_ S=>some (i,S)) f ts el) ν M1 Q:=by
  refine vJ (lk:=none) (xs:=xs) (g:=g) (own:=own) (λdone ac N=>N=M1/\ac=(done.filter bc).map cb) (λS s=>⟨i,S,M1,rfl,s,my,λ_ _ N ⟨z,_⟩=>by rw[z];exact bC,rfl,rfl⟩) hl hf hm ?_ ?_
  ·rintro done a ad ac N p e ⟨rfl,rfl⟩;have ha:a∈xs:=by rw[e];simp
   refine wF.mono (ht a ha _ (iP.trans (Le.tl (Le.refl _)))) λb N1 ⟨eb,l⟩=>?_
   cases q:bc a with
   | false =>
    rw[q] at eb;subst eb;exact⟨N,l,rfl,by rw[Nn,o_];simp[q]⟩
   | true =>
    rw[q] at eb;subst eb;refine wF.mono (he a ha q N1 ((iP.trans (Le.tl (Le.refl _))).trans l)) λx N2 ⟨ex,l2⟩=>⟨?_,N,l.trans l2,rfl,by rw[Nn,o_,ex];simp[q]⟩
    rw[c_];have h1:=MB bc done;have h2:done.length<=xs.length:=by rw[e,g_];omega
    show _<=1000000;omega
  ·rintro ac p N ⟨rfl,rfl⟩;exact λS s=>⟨S,_,rfl,s.le (Le.hd iP),fin p⟩
 obtain⟨x,S2,M2,e2,s2,q⟩:=key S1 s1;refine⟨x,S2,M2,?_,s2,q⟩;unfold comp bd at e2 ⊢;rw[e1];exact e2
def own1{xs:List α}:∀a∈xs,∀pre:Nms,pre.length=1->tgn 0 (g a) (pre++ν)=some ([some (g a)]++ν):=λa _ pre hp=>by
 obtain⟨x,rfl⟩:=List.length_eq_one_iff.mp hp;rfl
def own2{x y:α->E}{xs:List α}(hu:∀a∈xs,unT (g a)=some [x a,y a]):∀a∈xs,∀pre:Nms,pre.length=2->tgt 2 (tgc (tgn 0) (tgc (tgn 1) tg0)) (g a) (pre++ν)=some ([some (x a),some (y a)]++ν):=λa ha pre hp=>by
 match pre,hp with
 | [u,v],_ =>
  unfold tgt;rw[hu a ha];rfl
end
section
variable{M:Mp}{Q:Itn->Mp->Prop}{a:MM E}{t:MM (List E)}
def oJ{xs:List E}(h:(n,.lst xs)∈M):SrcAt (seqSrc (.ref n)) xs M:=λS s=>by
 unfold seqSrc seqE;dsimp only;rw[s.get h]
def yA{e:E}{xs:List E}(h:unT e=some xs)(S:Sto):seqE e S=some xs:=by
 cases e with
 | ref n=>cases h
 | d x=>exact h
 | tup es=>exact h
def o5{e:E}{xs:List E}(h:unT e=some xs):SrcAt (seqSrc e) xs M:=λS s=>yA h S
def J0{e:E}{xs:List E}(h:seqE e S=some xs):itF e S=some (⟨seqSrc e,none⟩,S):=by unfold itF;rw[h]
def oW(h:wM a ν M λe M1=>(∃xs,SrcAt (seqSrc e) xs M1)/\Q ⟨seqSrc e,none⟩ M1):wM (itA a) ν M Q:=w_bd (h.mono λe M1 ⟨⟨xs,hs⟩,q⟩ S s=>⟨_,S,M1,J0 (hs S s),s,q⟩)
def DX(h:wM a ν M λe M1=>∃n kvs M2,e=.ref n/\(n,.dct true false kvs)∈M1/\Put n (.dct true true kvs) M1 M2/\Q ⟨keySrc n,some n⟩ M2):wM (itA a) ν M Q:=w_bd (h.mono λe M1 ⟨n,kvs,M2,e1,hm,hp,q⟩ S s=>by
 subst e1;have g:=s.get hm;refine⟨_,_,M2,?_,s.put hp,q⟩;show itF (.ref n) S=_;unfold itF seqE;dsimp only
 rw[g])
def Fn{kvs:List (D×E)}(h:(n,.dct true true kvs)∈M):SrcAt (keySrc n) (kvs.map λp=>.d p.1) M:=λS s=>by
 unfold keySrc;rw[s.get h]
def Ku(h:wM a ν M λe M1=>∃n kvs M2,e=.ref n/\(n,.dct false false kvs)∈M1/\Put n (.dct false true kvs) M1 M2/\Q ⟨itemSrc n,some n⟩ M2):wM (itemA a) ν M Q:=w_bd (h.mono λe M1 ⟨n,kvs,M2,e1,hm,hp,q⟩ S s=>by
 subst e1;have g:=s.get hm;refine⟨_,_,M2,?_,s.put hp,q⟩;show itemF (.ref n) S=_;unfold itemF;dsimp only
 rw[g])
def GA{kvs:List (D×E)}(h:(n,.dct false true kvs)∈M):SrcAt (itemSrc n) (kvs.map λp=>mkT [.d p.1,p.2]) M:=λS s=>by
 unfold itemSrc;rw[s.get h]
def qF(h:wM t ν M λes M1=>∃j:Int,es=[.d (.int j)]/\(-1000000<=j/\j<=1000000)/\Q ⟨λ_=>some (rngL 0 j.toNat),none⟩ M1):wM (rng1E t) ν M Q:=w_bd (h.mono λes M1 ⟨j,e1,hj,q⟩ S s=>by
 subst e1
 exact⟨_,S,M1,if_pos hj,s,q⟩)
def Hk(h:wM t ν M λes M1=>∃i j:Int,es=[.d (.int i),.d (.int j)]/\((-1000000<=i/\i<=1000000)/\-1000000<=j/\j<=1000000)/\Q ⟨λ_=>some (rngL i (j - i).toNat),none⟩ M1):wM (rng2E t) ν M Q:=w_bd (h.mono λes M1 ⟨i,j,e1,hj,q⟩ S s=>by
 subst e1
 exact⟨_,S,M1,if_pos hj,s,q⟩)
def sd(h:wM t ν M λes M1=>∃a b xs ys,es=[a,b]/\SrcAt (seqSrc a) xs M1/\SrcAt (seqSrc b) ys M1/\Q ⟨zipSrc a b,none⟩ M1):wM (zipE t) ν M Q:=w_bd (h.mono λes M1 ⟨a,b,xs,ys,e1,hx,hy,q⟩ S s=>by
 subst e1;refine⟨_,S,M1,?_,s,q⟩;unfold lif zipF;dsimp only
 rw[show seqE a S=some xs from hx S s,show seqE b S=some ys from hy S s])
def v8{a b:E}{xs ys:List E}(hx:SrcAt (seqSrc a) xs M)(hy:SrcAt (seqSrc b) ys M):SrcAt (zipSrc a b) ((xs.zip ys).map λq=>mkT [q.1,q.2]) M:=λS s=>by
 unfold zipSrc;rw[show seqE a S=some xs from hx S s,show seqE b S=some ys from hy S s]
def A0(h:wM t ν M λes M1=>∃a xs,es=[a]/\SrcAt (seqSrc a) xs M1/\Q ⟨enumSrc a,none⟩ M1):wM (enumE t) ν M Q:=w_bd (h.mono λes M1 ⟨a,xs,e1,hx,q⟩ S s=>by
 subst e1;refine⟨_,S,M1,?_,s,q⟩;unfold lif enumF;dsimp only
 rw[show seqE a S=some xs from hx S s])
def yj{a:E}{xs:List E}(hx:SrcAt (seqSrc a) xs M):SrcAt (enumSrc a) (xs.zipIdx.map λq=>mkT [.d (.int q.2),q.1]) M:=λS s=>by
 unfold enumSrc;rw[show seqE a S=some xs from hx S s]
def qv{xs:List E}:SrcAt (λ_=>some xs) xs M:=λ_ _=>rfl
end
section
variable{M:Mp}{Q:E->Mp->Prop}{a b e:E}{m:Nat}{xs ys:List E}{i j:Int}
def qz{C:Int->Int->Bool}{g:Int->Int->D}(h:C i j=true)(q:Q (.d (g i j)) M):wF (iop C g (.d (.int i)) (.d (.int j))) M Q:=λS s=>⟨_,S,M,if_pos h,s,q⟩
def Eo(q:Q (.d (.int (i+j))) M):wF (addE (.d (.int i)) (.d (.int j))) M Q:=rz q
def GT(q:Q (.d (.int (i - j))) M):wF (subE (.d (.int i)) (.d (.int j))) M Q:=qz rfl q
def w_lt(q:Q (.d (.bl (decide (i < j)))) M):wF (ltE (.d (.int i)) (.d (.int j))) M Q:=qz rfl q
def w_le(q:Q (.d (.bl (decide (i<=j)))) M):wF (leE (.d (.int i)) (.d (.int j))) M Q:=qz rfl q
def w_gt(q:Q (.d (.bl (decide (j < i)))) M):wF (gtE (.d (.int i)) (.d (.int j))) M Q:=qz rfl q
def w_ge(q:Q (.d (.bl (decide (j<=i)))) M):wF (geE (.d (.int i)) (.d (.int j))) M Q:=qz rfl q
def HL(h:(-(2 ^ 64) < i/\i < 2 ^ 64)\/(-(2 ^ 64) < j/\j < 2 ^ 64))(q:Q (.d (.int (i*j))) M):wF (or2 mulE mul1 (.d (.int i)) (.d (.int j))) M Q:=λS s=>⟨_,S,M,by
 unfold or2 mulE iop;dsimp only
 rw[if_pos (decide_eq_true h)],s,q⟩
def u6(h:0 < j)(q:Q (.d (.int (i % j))) M):wF (modE (.d (.int i)) (.d (.int j))) M Q:=qz (decide_eq_true h) q
def Hq(h:0 < j/\j < 2 ^ 200)(q:Q (.d (.int (i / j))) M):wF (divE (.d (.int i)) (.d (.int j))) M Q:=qz (decide_eq_true h) q
def Lf(h:0<=j/\j<=1000000/\i.natAbs < 2 ^ 64)(q:Q (.d (.int (i ^ j.toNat))) M):wF (powE (.d (.int i)) (.d (.int j))) M Q:=qz (decide_eq_true h) q
theorem rT:∀ds:List D,pures (ds.map .d)=some ds
 | []=>rfl
 | d::ds=>by rw[I_,pures,rT ds]
def qA(ds:List D):mkT (ds.map .d)=.d (.tup ds):=by unfold mkT;rw[rT]
def qw{us vs:List D}(h:us.length+vs.length<=lim)(q:Q (.d (.tup (us++vs))) M):wF (addE (.d (.tup us)) (.d (.tup vs))) M Q:=λS s=>⟨_,S,M,by
 have t:catT (.d (.tup us)) (.d (.tup vs)) S=some (.d (.tup (us++vs)),S):=by
  show(if(us.map E.d).length+(vs.map E.d).length<=lim then some (mkT (us.map .d++vs.map .d),S) else none)=_;rw[if_pos (by rw[c_,c_];exact h),←o_,qA]
 show(match catT (.d (.tup us)) (.d (.tup vs)) S with
  | some z=>some z
  | none=>_)=_
 rw[t],s,q⟩
def sn(h1:(n,.lst xs)∈M)(h2:(m,.lst ys)∈M)(h:xs.length+ys.length<=lim)(q:∀p,Q (.ref p) ((p,.lst (xs++ys))::M)):wF (addE (.ref n) (.ref m)) M Q:=λS s=>⟨_,_,_,by
 show(match catL (.ref n) (.ref m) S with
  | some z=>some z
  | none=>catS (.ref n) (.ref m) S)=_
 unfold catL;dsimp only;rw[s.get h1,s.get h2];dsimp only
 rw[if_pos h],s.new _,q _⟩
def Rd9(M:Mp)(e:E)(x:D):Prop:=∀S,Sub S M->toD S 9 e=some x
def rd_d{x:D}:Rd9 M (.d x) x:=λ_ _=>rfl
theorem xC{f:E->Option D}(hf:∀d,f (.d d)=some d):∀ds:List D,tos f (ds.map .d)=some ds
 | []=>rfl
 | d::ds=>by rw[I_,tos,hf,xC hf ds]
def vp(S:Sto)(k:Nat)(d:D):toD S k (.d d)=some d:=by cases k<;>rfl
def ph(h:(n,.lst (ds.map .d))∈M):Rd9 M (.ref n) (.lst ds):=λS s=>by
 show(match S[n]? with
  | some (.lst es)=>_
  | _=>none)=_
 rw[s.get h];dsimp only;rw[xC (vp S 8)]
def pk{x y:D}(ha:Rd9 M a x)(hb:Rd9 M b y)(hd:dep x<=100\/dep y<=100)(q:Q (.d (.bl (if neg then !deq x y else deq x y))) M):wF (eqE neg a b) M Q:=λS s=>⟨_,S,M,by
 unfold eqE;rw[ha S s,hb S s];dsimp only
 rw[if_pos hd],s,q⟩
def ur{x:D}{zs:List D}(ha:Rd9 M a x)(hb:Rd9 M b (.lst zs))(hd:dep x<=99)(q:Q (.d (.bl (if neg then !zs.any (λd=>deq d x) else zs.any λd=>deq d x))) M):wF (inE neg a b) M Q:=λS s=>⟨_,S,M,by
 unfold inE inS;rw[ha S s,hb S s];dsimp only
 rw[if_pos hd],s,q⟩
def LF{x:D}{zs:List D}(ha:Rd9 M a x)(hb:Rd9 M b (.tup zs))(hd:dep x<=99)(q:Q (.d (.bl (if neg then !zs.any (λd=>deq d x) else zs.any λd=>deq d x))) M):wF (inE neg a b) M Q:=λS s=>⟨_,S,M,by
 unfold inE inS;rw[ha S s,hb S s];dsimp only
 rw[if_pos hd],s,q⟩
def pF(q:Q (.d (.bl (if neg then !isN a else isN a))) M):wF (isE neg a (.d .non)) M Q:=λS s=>⟨_,S,M,if_pos rfl,s,q⟩
def oT{k:Int}(h:(n,.lst xs)∈M)(hk:atI xs k=some e)(q:Q e M):wF (ixE (.ref n) (.d (.int k))) M Q:=λS s=>⟨e,S,M,by
 show(match seqE (.ref n) S with
  | some xs=>_
  | none=>_)=_
 unfold seqE;dsimp only;rw[s.get h];dsimp only
 rw[hk],s,q⟩
def pB{k:Int}{o:E}(h:unT o=some xs)(hk:atI xs k=some e)(q:Q e M):wF (ixE o (.d (.int k))) M Q:=λS s=>⟨e,S,M,by
 show(match seqE o S with
  | some xs=>_
  | none=>_)=_
 rw[yA h];dsimp only
 rw[hk],s,q⟩
def qr{k:D}{kvs:Kvs}{c:List Key}(h:(n,.dct tk lk kvs)∈M)(hk:kD tk k=some c)(hg:dget tk kvs c=some e)(q:Q e M):wF (ixE (.ref n) (.d k)) M Q:=λS s=>⟨e,S,M,by
 have g:=s.get h
 have t:(match S[n]? with
   | some (.dct tk _ kvs)=>match kD tk k with
    | some q=>match dget tk kvs q with
     | some e=>some (e,S)
     | none=>none
    | none=>none
   | _=>none)=some (e,S):=by
  rw[g];dsimp only;rw[hk];dsimp only;rw[hg]
 have u:seqE (.ref n) S=none:=by
  unfold seqE;dsimp only;rw[g]
 unfold ixE;cases k with
 | int k =>
  rw[u];exact t
 | _=>exact t,s,q⟩
end
section
variable{M M':Mp}{Q:Fl->Nms->Mp->Prop}{mo mi:MM E}{F:F3}
noncomputable def stF(F:F3)(o i v:E):Sto->Option (Unit×Sto):=λS=>match F o i v S with
 | some S'=>some ((),S')
 | none=>none
def HS(h:wM mv ν M λv M1=>wM mo ν M1 λo M2=>wM mi ν M2 λi M3=>wF (stF F o i v) M3 λ_ M4=>Q .nx ν M4):wS (putE F mv mo mi) ν M Q:=s_ve (h.mono λv M1 q=>s_ve (wF.mono q λo M2 q=>s_ve (wF.mono q λi M3 q S s=>by
  obtain⟨u,S',M',e,s',q⟩:=q S s;unfold stF at e;split at e
  ·rename_i S1 z;cases e;exact⟨.nx,ν,_,M',by dsimp only;rw[z],s',q⟩
  ·cases e)))
def ud{xs:List E}{k:Int}{v:E}{Q:Unit->Mp->Prop}(h:(n,.lst xs)∈M)(hk:ixN xs.length k=some j)(p:Put n (.lst (xs.set j v)) M M')(q:Q () M'):wF (stF setE (.ref n) (.d (.int k)) v) M Q:=λS s=>⟨(),_,M',by
 unfold stF setE;dsimp only;rw[s.get h];dsimp only
 rw[hk],s.put p,q⟩
def rK{kvs:Kvs}{k:D}{c:List Key}{v:E}{Q:Unit->Mp->Prop}(h:(n,.dct tk false kvs)∈M)(hk:kD tk k=some c)(hl:kvs.length < lim)(p:Put n (.dct tk false (dput tk kvs k c v)) M M')(q:Q () M'):wF (stF setE (.ref n) (.d k) v) M Q:=λS s=>⟨(),_,M',by
 unfold stF setE;dsimp only;rw[s.get h];dsimp only;rw[hk];dsimp only
 rw[if_pos hl],s.put p,q⟩
def pq{f:Str}(h:wM mv ν M λv M1=>wM mo ν M1 λo M2=>∃n c fs M3,o=.ref n/\(n,.ins c fs)∈M2/\fs.length < 1000/\Put n (.ins c (putS f v fs)) M2 M3/\Q .nx ν M3):wS (fldP f mv mo) ν M Q:=s_ve (h.mono λv M1 q=>s_ve (wF.mono q λo M2 ⟨n,c,fs,M3,e,hm,hl,p,q⟩ S s=>by
 subst e;refine⟨.nx,ν,_,M3,?_,s.put p,q⟩;dsimp only;rw[s.get hm];dsimp only
 rw[if_pos hl]))
end
section
variable{M M':Mp}{Q:E->Mp->Prop}{mo:MM E}{t:MM (List E)}{Fl Fd:FM}{m:Nat}{xs ys:List E}{x e:E}
inductive kfd(f:Str)(Q:E->Mp->Prop)(o:E)(M:Mp):Prop | mk (n:Nat) (c:Str) (fs:List (Str×E)) (e:E):o=.ref n->(n,.ins c fs)∈M->fs.lookup f=some e->Q e M->kfd f Q o M
def sh{f:Str}(h:wM mo ν M (kfd f Q)):wM (fld f mo) ν M Q:=w_bd (h.mono λo M1 ⟨n,c,fs,e,e1,hm,hl,q⟩ S s=>by
 subst e1;refine⟨e,S,M1,?_,s,q⟩;show fldE f (.ref n) S=_;unfold fldE;dsimp only;rw[s.get hm];dsimp only
 rw[hl])
inductive kmb(F:FM)(t:MM (List E))(ν:Nms)(Q:E->Mp->Prop)(o:E)(M:Mp):Prop | mk (n:Nat) (xs:List E):o=.ref n->(n,.lst xs)∈M->wM t ν M (kf (F o) Q)->kmb F t ν Q o M
def EC(h:wM mo ν M (kmb Fl t ν Q)):wM (mbE Fl Fd mo t) ν M Q:=w_bd (h.mono λo M1 ⟨n,xs,e,hm,q⟩=>w_bd λS s=>⟨true,S,M1,by
 subst e;unfold kindE;dsimp only
 rw[s.get hm],s,w_bd q⟩)
def pK(h:(n,.lst xs)∈M)(hl:xs.length < lim)(p:Put n (.lst (xs++[x])) M M')(q:Q (.d .non) M'):wF (appE (.ref n) [x]) M Q:=λS s=>⟨_,_,M',by
 unfold appE onL;dsimp only;rw[s.get h];dsimp only
 rw[if_pos hl],s.put p,q⟩
def sA(h:(n,.lst xs)∈M)(h2:(m,.lst ys)∈M)(hl:xs.length+ys.length<=lim)(p:Put n (.lst (xs++ys)) M M')(q:Q (.d .non) M'):wF (extE (.ref n) [.ref m]) M Q:=λS s=>⟨_,_,M',by
 unfold extE onL;dsimp only;rw[s.get h,s.get h2];dsimp only
 rw[if_pos hl],s.put p,q⟩
def yD{i:Nat}(h:(n,.lst xs)∈M)(hi:i < 1000000)(hx:xs[i]?=some x)(p:Put n (.lst (xs.eraseIdx i)) M M')(q:Q x M'):wF (popAE (.ref n) [.d (.int (i:Int))]) M Q:=λS s=>⟨_,_,M',by
 unfold popAE onL;dsimp only;rw[s.get h];dsimp only
 rw[if_pos ⋯,MC,hx],s.put p,q⟩
def w_rm{a:D}(h:(n,.lst (ds.map .d))∈M)(hj:(ds.findIdx? λd=>deq d a)=some j)(hd:dep a<=99)(p:Put n (.lst ((ds.eraseIdx j).map .d)) M M')(q:Q (.d .non) M'):wF (rmE (.ref n) [.d a]) M Q:=λS s=>⟨_,_,M',by
 unfold rmE onL;dsimp only;rw[s.get h];dsimp only;rw[xC (vp S 9),vp];dsimp only;rw[hj];dsimp only
 rw[if_pos hd,←Av],s.put p,q⟩
def uE{F:List E->Sto->Option (E×Sto)}(h:SrcAt (seqSrc e) xs M)(k:wF (F xs) M Q):wF (onS F [e]) M Q:=λS s=>by
 obtain⟨a,S',M',e1,s1,q⟩:=k S s;refine⟨a,S',M',?_,s1,q⟩;unfold onS;dsimp only;rw[show seqE e S=some xs from h S s];exact e1
def uz(h:SrcAt (seqSrc e) xs M)(q:Q (.d (.int xs.length)) M):wF (lenE [e]) M Q:=uE h (rz q)
def Ea(h:SrcAt (seqSrc e) xs M)(q:Q (mkT xs) M):wF (tupleE [e]) M Q:=uE h (rz q)
def GB{F F':FL}{es:List E}(h:wF (F es) M Q):wF (orL F F' es) M Q:=λS s=>by
 obtain⟨a,S',M',e1,s1,q⟩:=h S s;exact⟨a,S',M',by unfold orL;rw[e1],s1,q⟩
def AD{F F':FL}{es:List E}(h0:∀S,Sub S M->F es S=none)(h:wF (F' es) M Q):wF (orL F F' es) M Q:=λS s=>by
 obtain⟨a,S',M',e1,s1,q⟩:=h S s;exact⟨a,S',M',by unfold orL;rw[h0 S s];exact e1,s1,q⟩
def yH(h:SrcAt (seqSrc e) xs M)(q:∀p,Q (.ref p) ((p,.lst xs)::M)):wF (listE [e]) M Q:=uE h (sO q)
def Ic{kvs:Kvs}(h:(n,.dct tk lk kvs)∈M)(s:Sub S M):seqE (.ref n) S=none:=by
 unfold seqE;dsimp only;rw[s.get h]
def rh(h:SrcAt (seqSrc e) (ds.map .d) M)(hs:SortOk ds)(q:∀p,Q (.ref p) ((p,.lst ((sortD ds).map .d))::M)):wF (orL sortE (onK sortDF) [e]) M Q:=GB (uE h λS s=>⟨_,_,_,by
 rw[rT]
 exact if_pos hs,s.new _,q _⟩)
def Jc{kvs:Kvs}(h:(n,.dct tk lk kvs)∈M)(hs:SortOk (kvs.map (·.1)))(q:∀p,Q (.ref p) ((p,.lst ((sortD (kvs.map (·.1))).map .d))::M)):wF (orL sortE (onK sortDF) [.ref n]) M Q:=AD (λS s=>by
 unfold sortE onS;dsimp only;rw[Ic h s]) λS s=>⟨_,_,_,by
 unfold onK;dsimp only;rw[s.get h]
 exact if_pos hs,s.new _,q _⟩
def yJ(h:(n,.lst (ds.map .d))∈M)(hs:SetOk ds/\(ds.all fstI=true\/ds.all fstT=true))(q:∀p,Q (.ref p) ((p,.lst ((sortD (dd ds)).map .d))::M)):wF (sortsetE [.ref n]) M Q:=λS s=>⟨_,_,_,by
 unfold sortsetE;dsimp only;rw[s.get h];dsimp only;rw[rT]
 exact if_pos hs,s.new _,q _⟩
theorem zQ:∀bs:List Bool,bools (bs.map λb=>.d (.bl b))=some bs
 | []=>rfl
 | b::bs=>by rw[I_,bools,zQ bs]
def ze{f:List Bool->Bool}{bs:List Bool}(h:(n,.lst (bs.map λb=>.d (.bl b)))∈M)(q:Q (.d (.bl (f bs))) M):wF (onB f [.ref n]) M Q:=λS s=>⟨_,S,M,by
 unfold onB;dsimp only;rw[s.get h];dsimp only
 rw[zQ],s,q⟩
def K8{i j:Int}(q:Q (.d (.int (min i j))) M):wF (minE [.d (.int i),.d (.int j)]) M Q:=rz (by show Q (.d (.int (if j < i then j else i))) M;rw[show(if j < i then j else i)=min i j by omega];exact q)
def J3{i j:Int}(q:Q (.d (.int (max i j))) M):wF (maxE [.d (.int i),.d (.int j)]) M Q:=rz (by show Q (.d (.int (if j > i then j else i))) M;rw[show(if j > i then j else i)=max i j by omega];exact q)
def DV{k:Ki}(h:wM mo ν M λe M1=>∃d,Rd9 M1 e d/\Q (.d (.bl (isiB k d))) M1):wM (isiE k mo) ν M Q:=w_bd (h.mono λe M1 ⟨d,hr,q⟩ S s=>⟨_,S,M1,by
 unfold lif;dsimp only
 rw[hr S s],s,q⟩)
def K9(h:wM t ν M λes M1=>∃j:Int,es=[.d (.int j)]/\(-1000000<=j/\j<=1000000)/\∀p,Q (.ref p) ((p,.lst (rngL 0 j.toNat))::M1)):wM (lrngE t) ν M Q:=w_bd (h.mono λes M1 ⟨j,e1,hj,q⟩ S s=>by
 subst e1
 exact⟨_,_,_,if_pos hj,s.new _,q _⟩)
def Ko(h:wM mo ν M λo M1=>∃n kvs,o=.ref n/\(n,.dct false false kvs)∈M1/\kvs.length<=lim/\∀p,Q (.ref p) ((p,.lst (kvs.map (·.2)))::M1)):wM (lvalE mo) ν M Q:=w_bd (h.mono λo M1 ⟨n,kvs,e1,hm,hl,q⟩ S s=>by
 subst e1;refine⟨_,_,_,?_,s.new _,q _⟩;unfold lif;dsimp only;rw[s.get hm]
 exact if_pos hl)
def w_sl{o:E}{lo:Option Int}(h:SrcAt (seqSrc o) xs M)(hr:∃n,o=.ref n)(q:∀p,Q (.ref p) ((p,.lst (cutE xs lo hi))::M)):wF (slE o lo hi) M Q:=λS s=>by
 obtain⟨n,rfl⟩:=hr;have h:=h S s;unfold seqSrc seqE at h;dsimp only at h;refine⟨_,_,_,?_,s.new _,q _⟩;unfold slE;dsimp only;split at h
 ·rename_i es hh;cases h
  first | rw[hh] | rfl
 ·cases h
def zX{lo:Option Int}(hn:¬(HT.sIx ds.length 0 lo=0/\HT.sIx ds.length ds.length hi=ds.length))(q:Q (.d (.tup ((ds.drop (HT.sIx ds.length 0 lo)).take (HT.sIx ds.length ds.length hi - HT.sIx ds.length 0 lo)))) M):wF (slE (.d (.tup ds)) lo hi) M Q:=λS s=>⟨_,S,M,by
 show(if HT.sIx (ds.map E.d).length 0 lo=0/\HT.sIx (ds.map E.d).length (ds.map E.d).length hi=(ds.map E.d).length then none else some (mkT (cutE (ds.map .d) lo hi),S))=_;rw[c_,if_neg hn];unfold cutE
 rw[c_,←PJ,←PK,qA],s,q⟩
def Mf{ml mh:MM (Option Int)}(h:wM mo ν M λo M1=>wM ml ν M1 λlo M2=>wM mh ν M2 λhi M3=>wF (slE o lo hi) M3 Q):wM (sl3 mo ml mh) ν M Q:=w_bd (h.mono λo M1 q=>w_bd (wF.mono q λl M2 q=>w_bd q))
inductive kp(Q:Option Int->Mp->Prop)(e:E)(M:Mp):Prop | mk (i:Int):e=.d (.int i)->Q (some i) M->kp Q e M
def CH{QO:Option Int->Mp->Prop}(h:wM mo ν M (kp QO)):wM (prt mo) ν M QO:=w_bd (h.mono λe M1 ⟨i,e1,q⟩ S s=>by
 subst e1
 exact⟨_,S,M1,rfl,s,q⟩)
def w_mk{c:Str}{g:FL}(h:wM t ν M λes M1=>∀n,wF (g (.ref n::es)) ((n,.ins c [])::M1) λe M2=>e=.d .non/\Q (.ref n) M2):wM (mkE c g t) ν M Q:=w_bd (h.mono λes M1 q S s=>by
 obtain⟨e,S',M',e1,s1,rfl,q1⟩:=q S.length _ (s.new (.ins c []));refine⟨.ref S.length,S',M',?_,s1,q1⟩;unfold lif;dsimp only
 rw[e1])
abbrev kg(g:FL)(o:E)(Q:E->Mp->Prop)(es:List E)(M:Mp):Prop:=wF (g (o::es)) M Q
inductive kme(G:Str->FL)(t:MM (List E))(ν:Nms)(Q:E->Mp->Prop)(o:E)(M:Mp):Prop | mk (n:Nat) (c:Str) (fs:List (Str×E)):o=.ref n->(n,.ins c fs)∈M->wM t ν M (kg (G c) o Q)->kme G t ν Q o M
def w_me{G:Str->FL}(h:wM mo ν M (kme G t ν Q)):wM (meE G mo t) ν M Q:=w_bd (h.mono λo M1 ⟨n,c,fs,e,hm,q⟩=>w_bd λS s=>⟨c,S,M1,by
 subst e;unfold clsE;dsimp only
 rw[s.get hm],s,w_bd q⟩)
end
section
variable{M:Mp}{Q:E->Mp->Prop}{QS:Fl->Nms->Mp->Prop}{a b c e:MM E}{h:SM}{x:E}{i:Nat}{A oA:Prop}{k:Bool}
def qc(q:wS h ν M QS):thenS h QS .nx ν M:=q
def Fa(q:QS (.rt x) ν M):thenS h QS (.rt x) ν M:=q
def GZ(q:Q x M):rets Q (.rt x) ν M:=q
def Ld(q:Q (.d .non) M):rets Q .nx ν M:=q
def qy{lk:Option Nat}{nx:Nms->Mp->Prop}(q:nx ν M):turnS lk nx QS .nx ν M:=q
def xD{nx:Nms->Mp->Prop}(q:QS (.rt x) ν M):turnS none nx QS (.rt x) ν M:=pc q
def pe(h:k=true)(q:A):if k=true then A else oA:=by rw[if_pos h];exact q
def oH(h:k=false)(q:oA):if k=true then A else oA:=by rw[if_neg (by rw[h];exact q_)];exact q
def oZ(h1:k=true->A)(h2:k=false->oA):if k=true then A else oA:=by
 cases k
 ·exact h2 rfl
 ·exact h1 rfl
def C2(q:oA):if(!true)=true then A else oA:=q
def cutP(I:Nms->Mp->Prop)(f:Fl)(ν:Nms)(M:Mp):Prop:=f=.nx/\∃N,Le N M/\I ν N
def v6{g:SM}(I:Nms->Mp->Prop)(k:wS g ν M (cutP I))(q:∀aw M1,I aw M1->wS h aw M1 QS):wS g ν M (thenS h QS):=k.mono λf aw M1 ⟨e,N,l,i⟩=>by subst e;exact wS.pre l (q aw N i)
def sX{g:SM}(I:Nms->Mp->Prop)(k:wS g ν M (cutP I))(q:∀aw M1,I aw M1->wS h aw M1 QS):wS (sq g h) ν M QS:=s_sq (v6 I k q)
def BD{g g':SM}(I:Nms->Mp->Prop)(h1:k=true->wS g ν M (cutP I))(h2:k=false->wS g' ν M (cutP I))(q:∀aw M1,I aw M1->wS h aw M1 QS):if k=true then wS g ν M (thenS h QS) else wS g' ν M (thenS h QS):=
 oZ (λe=>v6 I (h1 e) q) λe=>v6 I (h2 e) q
def pp{I:Nms->Mp->Prop}{N:Mp}(l:Le N M)(i:I ν N):cutP I .nx ν M:=⟨rfl,N,l,i⟩
def oF{c:Nat×Ob}:c∈c::M:=p_
def oC{c d:Nat×Ob}(h:c∈M):c∈d::M:=n_ _ h
inductive Sets(x:E):Nat->Nms->Nms->Prop where
 | hd {y:Option E}{ν:Nms}:Sets x 0 (y::ν) (some x::ν)
 | tl {y:Option E}{ν ag:Nms}{i:Nat} (h:Sets x i ν ag):Sets x (i+1) (y::ν) (y::ag)
def Sets.eq{x:E}{i:Nat}{ν ag:Nms}(h:Sets x i ν ag):i < ν.length/\ν.set i (some x)=ag:=by
 induction h with
 | hd=>exact⟨SI _,rfl⟩
 | tl h ih=>exact⟨Nat.succ_lt_succ ih.1,by rw[List.set_cons_succ,ih.2]⟩
abbrev kt(i:Nat)(ν:Nms)(Q:Fl->Nms->Mp->Prop)(x:E)(M:Mp):Prop:=∃ag,Sets x i ν ag/\Q .nx ag M
def rp(s:Sets x i ν ag)(q:QS .nx ag M):kt i ν QS x M:=⟨ag,s,q⟩
def s_to(h:wM a ν M (kt i ν QS)):wS (asg a (tgn i)) ν M QS:=BW (h.mono λx M1 ⟨ag,s,q⟩=>⟨ag,by
 obtain⟨h1,h2⟩:=s.eq;show(if i < ν.length then some (ν.set i (some x)) else none)=some ag
 rw[if_pos h1,h2],q⟩)
def pi{x:E}(h:Sets x i ν ag):tgn i x ν=some ag:=by
 obtain⟨h1,h2⟩:=h.eq;show(if i < ν.length then some (ν.set i (some x)) else none)=some ag;rw[if_pos h1,h2]
def rb{x y:E}{e:E}(hu:unT e=some [x,y])(h1:Sets x i ν aw)(h2:Sets y j aw ag):tgt 2 (tgc (tgn i) (tgc (tgn j) tg0)) e ν=some ag:=by
 unfold tgt tgc;rw[hu];dsimp only[length];rw[if_pos rfl,pi h1];dsimp only[tgc];rw[pi h2];rfl
def zB{as bs:List D}:SrcAt (zipSrc (.d (.tup as)) (.d (.tup bs))) ((as.zip bs).map λp=>.d (.tup [p.1,p.2])) M:=by
 have e:=v8 (M:=M) (o5 (e:=.d (.tup as)) rfl) (o5 (e:=.d (.tup bs)) rfl);rw[Tv,w_] at e;exact e
inductive kd(Q:E->Mp->Prop)(x:E)(M:Mp):Prop | mk (d:D):x=.d d->Q (.d (.tup [d])) M->kd Q x M
def FC(h:wM a ν M (kd Q)):wM (tupE (csE a nilE)) ν M Q:=rX (w_cs (h.mono λx M1 ⟨d,e,q⟩=>qg ⟨NI rfl,by subst e;exact q⟩))
inductive B5(x:E)(Q:E->Mp->Prop)(y:E)(M:Mp):Prop | mk (d d':D):x=.d d->y=.d d'->Q (.d (.tup [d,d'])) M->B5 x Q y M
abbrev k2(b:MM E)(ν:Nms)(Q:E->Mp->Prop)(x:E)(M:Mp):Prop:=wM b ν M (B5 x Q)
def Jd(h:wM a ν M (k2 b ν Q)):wM (tupE (csE a (csE b nilE))) ν M Q:=
 rX (w_cs (h.mono λx M1 q=>w_cs (wF.mono q λy M2 ⟨d,d',e,e',z⟩=>qg ⟨NI rfl,by rw[e,e'];exact z⟩)))
inductive k3''(x y:E)(Q:E->Mp->Prop)(z:E)(M:Mp):Prop | mk (d d' iQ:D):x=.d d->y=.d d'->z=.d iQ->Q (.d (.tup [d,d',iQ])) M->k3'' x y Q z M
abbrev IG(c:MM E)(ν:Nms)(Q:E->Mp->Prop)(x y:E)(M:Mp):Prop:=wM c ν M (k3'' x y Q)
abbrev k3(b c:MM E)(ν:Nms)(Q:E->Mp->Prop)(x:E)(M:Mp):Prop:=wM b ν M (IG c ν Q x)
def He(h:wM a ν M (k3 b c ν Q)):wM (tupE (csE a (csE b (csE c nilE)))) ν M Q:=
 rX (w_cs (h.mono λx M1 q=>w_cs (wF.mono q λy M2 q=>w_cs (wF.mono q λz M3 ⟨d,d',iQ,e,e',mz,u⟩=>qg ⟨NI rfl,by rw[e,e',mz];exact u⟩))))
def Fy(q:∀n,Q (.ref n) ((n,.lst [])::M)):wM (lstE nilE) ν M Q:=uR (qg ⟨NI rfl,q⟩)
def Dv(h:wM a ν M λx M1=>∀n,Q (.ref n) ((n,.lst [x])::M1)):wM (lstE (csE a nilE)) ν M Q:=uR (w_cs (h.mono λ_ _ q=>qg ⟨NI rfl,q⟩))
def J2(h:wM a ν M λx M1=>wM b ν M1 λy M2=>∀n,Q (.ref n) ((n,.lst [x,y])::M2)):wM (lstE (csE a (csE b nilE))) ν M Q:=uR (w_cs (h.mono λ_ _ q=>w_cs (wF.mono q λ_ _ q=>qg ⟨NI rfl,q⟩)))
abbrev kfo(f:GM)(body:SM)(ν:Nms)(Q:Fl->Nms->Mp->Prop)(i:Itn)(M:Mp):Prop:=wS (forE (pur i) f body) ν M Q
def qR{f:GM}{body:SM}(q:wM it ν M (kfo f body ν QS)):wS (forE it f body) ν M QS:=λS s=>by
 obtain⟨i,S1,M1,e1,s1,q⟩:=q S s;obtain⟨fl,ag,S2,M2,e2,s2,q2⟩:=q S1 s1;refine⟨fl,ag,S2,M2,?_,s2,q2⟩;unfold forE ve at e2 ⊢;rw[e1];exact e2
abbrev kco(m:Nat)(f:GM)(ts:MM Bool)(el:MM E)(ν:Nms)(Q:E->Mp->Prop)(i:Itn)(M:Mp):Prop:=wM (comp m (pur i) f ts el) ν M Q
def yu{f:GM}{ts:MM Bool}{m:Nat}(q:wM it ν M (kco m f ts el ν Q)):wM (comp m it f ts el) ν M Q:=λS s=>by
 obtain⟨i,S1,M1,e1,s1,q⟩:=q S s;obtain⟨x,S2,M2,e2,s2,q2⟩:=q S1 s1;refine⟨x,S2,M2,?_,s2,q2⟩;unfold comp bd at e2 ⊢;rw[e1];exact e2
def xO{k:Int}(h:0<=k/\k < ds.length)(q:Q (.d (.tup (ds.take k.toNat))) M):wF (slE (.d (.tup ds)) none (some k)) M Q:=by
 obtain⟨j,rfl⟩:=NB h.1;have e:HT.sIx ds.length ds.length (some ((j:Nat):Int))=j:=by rw[HT.rR];omega
 refine zX (by rw[HT.rB,e];omega) ?_;rw[HT.rB,e,List.drop_zero,Nat.sub_zero];exact q
def B7{k:Int}(h:0 < k/\k<=ds.length)(q:Q (.d (.tup (ds.drop k.toNat))) M):wF (slE (.d (.tup ds)) (some k) none) M Q:=by
 obtain⟨j,rfl⟩:=NB (Int.le_of_lt h.1);have e:HT.sIx ds.length 0 (some ((j:Nat):Int))=j:=by rw[HT.rR];omega
 refine zX (by rw[HT.rB,e];omega) ?_;rw[HT.rB,e,Oj (by rw[Nd];exact s_ _)];exact q
def uc{body:SM}{x:E}(h:wS body (some x::Mm (n - 1) none) M (rets (kl Q))):wF (fnE n 1 body [x]) M Q:=wF.le (rY rfl h)
def ue{body:SM}{x y:E}(h:wS body (some x::some y::Mm (n - 2) none) M (rets (kl Q))):wF (fnE n 2 body [x,y]) M Q:=wF.le (rY rfl h)
def vb{body:SM}{x y z:E}(h:wS body (some x::some y::some z::Mm (n - 3) none) M (rets (kl Q))):wF (fnE n 3 body [x,y,z]) M Q:=wF.le (rY rfl h)
def JQ{body:SM}{x y z u:E}(h:wS body (some x::some y::some z::some u::Mm (n - 4) none) M (rets (kl Q))):wF (fnE n 4 body [x,y,z,u]) M Q:=wF.le (rY rfl h)
def J1{ar:Nat}{body:SM}{es:List E}(hl:es.length=ar)(h:wS body (es.map some++Mm (n - es.length) none) M (rets (kl Q))):wF (fnE n ar body es) M Q:=wF.le (rY hl h)
end
end EV
variable{M R M1 oA B' R':EV.Mp}{M':Int×Int->EV.Mp}
namespace Own
open PySem PySem.Spec PyProof.Rows L2 DL EV
abbrev xx:FL:=fnE 4 1 (sq (oE 1 (fn listE (a1 (sl3 n0 (pur none) (prt (ci 12))))))
 (sq (forE (enumE (a1 (sl3 n0 (prt (ci 12)) (prt (ci 63))))) (qh 2 3)
 (putE setE (pl (ix n1 (md n2 (ci 12))) n3) n1 (md n2 (ci 12))))
 (rtn (lstE (a3 n1 (ci 0) (ci 0))))))
abbrev wj:FL:=fnE 5 2 (sq (if1 (ts (o2 geE n0 (o2 powE (ci 10) (ci 18))))
 (rtn n0))
 (sq (oE 2 (md (pl (pl (mu (md n0 (ci 998244353)) (ci 40692)) (mu n1 (ci 69621))) (ci 1009)) (ci 2147483399)))
 (sq (oE 3 (md (pl (pl (mu n2 n2) (mu n1 (ci 48271))) (md n0 (ci 131071))) (ci 2147483647)))
 (sq (oE 4 (md (pl (pl (mu n3 n3) (mu n2 (ci 17))) (ci 3)) (ci 2147483629)))
 (rtn (pl (mu (pl (mu n2 (ci 2147483647)) n3) (ci 2147483629)) n4))))))
abbrev oQ:FL:=fnE 5 2 (sq (if1 (pZ (ixc n0 2) n1)
 (sq (oE 2 (ixc n0 1))
 (sq (oE 3 (mu (ci 11) n2))
 (sq (iff (pZ n2 (ln (ixc n0 0)))
 (oE 3 (ix (ixc n0 0) n2))
 (if1 (tn (ixc n0 0) (lstE a0))
 (oE 3 (md (ix (ixc n0 0) (md (pl (mu n2 (ci 7)) (ci 1)) (ln (ixc n0 0)))) (pl (o2 powE (ci 10) (ci 17)) (mu (ci 3) n2))))))
 (sq (putE setE (pl n2 (ci 1)) n0 (ci 1))
 (putE setE (fn wj (a2 n3 n2)) n0 (ci 2)))))))
 (sq (oE 4 (md (ixc n0 2) n1))
 (sq (putE setE (o2 divE (ixc n0 2) n1) n0 (ci 2))
 (rtn n4))))
abbrev tD:FL:=fnE 8 4 (sq (oE 4 (lstE a0))
 (sq (forE (rng1E (a1 n1)) (tgn 5)
 (sq (oE 6 (pl n2 (fn oQ (a2 n0 n3))))
 (sq (oE 7 (pl n2 (fn oQ (a2 n0 n3))))
 (ap n4 (tupE (a2 (fn minE (a2 n6 n7)) (fn maxE (a2 n6 n7))))))))
 (rtn (fn tupleE (a1 n4)))))
abbrev xk:FL:=fnE 5 2 (sq (oE 2 (lstE a0))
 (sq (forE (zipE (a2 n0 n1)) (qh 3 4)
 (ap n2 (tupE (a2 (fn minE (a2 (ixc n3 0) (ixc n4 0))) (fn maxE (a2 (ixc n3 1) (ixc n4 1)))))))
 (rtn (fn tupleE (a1 n2)))))
abbrev se:FL:=fnE 7 2 (sq (oE 2 (fn oQ (a2 n0 (ln n1))))
 (sq (asg (ix n1 n2) (qh 3 4))
 (sq (oE 5 (pl n3 (fn oQ (a2 n0 (pl (mi n4 n3) (ci 1))))))
 (sq (oE 6 (ix (lstE (a3 (tupE (a2 n3 n5)) (tupE (a2 (fn maxE (a2 (ci 0) (mi n3 (ci 1)))) n5)) (tupE (a2 n5 (fn minE (a2 (ci 9) (pl n4 (ci 1)))))))) (fn oQ (a2 n0 (ci 3)))))
 (rtn (pl (pl (sl3 n1 (pur none) (prt n2)) (tupE (a1 n6))) (sl3 n1 (prt (pl n2 (ci 1))) (pur none))))))))
abbrev sK:FL:=fnE 10 4 (sq (oE 4 (fn oQ (a2 n0 (mi (ci 11) n2))))
 (sq (oE 5 (lstE a0))
 (sq (forE (rng1E (a1 (pl (ci 1) (fn oQ (a2 n0 n3))))) (tgn 6)
 (sq (oE 7 (fn oQ (a2 n0 (ci 5))))
 (sq (oE 8 (fn tD (a4 n0 n1 n4 n2)))
 (sq (if1 (anT (sF n7 (ci 1)) (tn n5 (lstE a0)))
 (sq (oE 9 (ix n5 (fn oQ (a2 n0 (ln n5)))))
 (oE 8 (ix (lstE (a3 (fn xk (a2 n9 n8)) (fn se (a2 n0 n9)) (fn se (a2 n0 (ixc n5 0))))) (mi n7 (ci 2))))))
 (ap n5 n8)))))
 (rtn n5))))
abbrev uI:FL:=fnE 9 2 (sq (oE 2 (fn oQ (a2 n0 n1)))
 (sq (oE 3 (pl (ci 1) (fn oQ (a2 n0 (ci 6)))))
 (sq (oE 4 (pl (pl n3 (ci 1)) (fn oQ (a2 n0 (mi (ci 8) n3)))))
 (sq (oE 5 (pl n3 (fn oQ (a2 n0 (mi n4 n3)))))
 (sq (oE 6 (fn oQ (a2 n0 (ci 9))))
 (sq (oE 7 (tupE (a2 n6 (pl n6 (fn oQ (a2 n0 (ci 2)))))))
 (sq (oE 8 (lstE (a3 (tupE (a2 n3 n4)) (tupE (a2 (fn oQ (a2 n0 n3)) n5)) (tupE (a2 (pl n5 (ci 1)) (pl (pl n4 (ci 1)) (fn oQ (a2 n0 (mi (ci 9) n4)))))))))
 (rtn (comp 1 (itA n8) (tgn 0) yes (pl (pl (mu (tupE (a1 n8)) n3) (tupE (a1 n0))) (mu (tupE (a1 n8)) (mi (mi n2 (ci 1)) n3))))))))))))
abbrev wI:FL:=fnE 8 1 (sq (oE 1 (fn oQ (a2 n0 (ci 4))))
 (sq (oE 2 (fn oQ (a2 n0 (ci 2))))
 (sq (oE 3 (pl (ci 1) (fn oQ (a2 n0 (ci 3)))))
 (sq (oE 4 (fn oQ (a2 n0 (ci 3))))
 (sq (oE 5 (ix (lstE (csE (ci 3) (csE (ci 4) (csE (ci 5) (csE (ci 6) (csE (ci 7) (a5 (ci 8) (ci 8) (ci 1) (ci 2) (ci 4)))))))) (fn oQ (a2 n0 (ci 10)))))
 (sq (if1 (pZ n1 (ci 2))
 (rtn (tupE (a4 (cst "roof") n5 n3 (fn sK (a4 n0 n3 (ix (lstE (a3 (ci 3) (ci 5) (ci 10))) n4) (ci 6)))))))
 (sq (oE 6 (ix (ix (lstE (a3 (lstE (a3 (ci 3) (ci 5) (ci 10))) (lstE (a3 (ci 2) (ci 3) (ci 4))) (lstE (a3 (ci 2) (ci 2) (ci 3))))) (mi n3 (ci 1))) n4))
 (sq (oE 7 (fn sK (a4 n0 n3 n6 (ix (lstE (a2 (ix (lstE (a3 (ci 5) (ci 5) (ci 4))) (mi n3 (ci 1))) (ci 3))) (mi n1 (ci 2))))))
 (sq (if1 (te n2 (ci 1))
 (oE 7 (pl (fn uI (a2 n0 n3)) (sl3 n7 (prt (ci 3)) (pur none)))))
 (rtn (tupE (a4 (cst "spare") (ix (lstE (a2 (pl (ci 1) (md n5 (ci 4))) n5)) (mi n1 (ci 2))) n3 n7))))))))))))
abbrev uL:FL:=fnE 2 2 (rtn (o2 (eqE false) (comp 2 (zipE (a2 n1 n0)) (qh 0 1) (orT' (pZ n0 (ixc n1 0)) (sF n0 (ixc n1 1))) (ci 1)) (lstE a0)))
abbrev vY:FL:=fnE 2 2 (rtn (o2 (inE true) cf (comp 1 (rng1E (a1 (ci 2))) (tgn 0) yes (fn uL (a2 n1 (comp 1 (itA n2) (tgn 0) yes (ix n0 n1)))))))
abbrev vF:FL:=fnE 2 1 (sq (oE 1 (fn sortsetE (a1 n0)))
 (rtn (comp 1 (itA n1) (tgn 0) (te (comp 1 (itA n2) (tgn 0) (anT (tn n0 n1) (ts (fn vY (a2 n0 n1)))) n0) (lstE a0)) n0)))
abbrev vq:FL:=fnE 6 1 (sq (oE 1 (lstE (a1 (tupE a0))))
 (sq (forE (itA n0) (qh 2 3)
 (sq (oE 4 (lstE a0))
 (sq (forE (itA n1) (tgn 5)
 (drp (mbE extE noM n4 (a1 (comp 1 (rng2E (a2 n2 (pl n3 (ci 1)))) (tgn 0) yes (pl n6 (tupE (a1 n0))))))))
 (oE 1 n4))))
 (rtn n1)))
abbrev wN:FL:=fnE 3 2 (sq (forE (itA (fn vq (a1 n1))) (tgn 2)
 (if1 (te (comp 1 (itA n0) (tgn 0) (ts (fn uL (a2 n0 n3))) (ci 1)) (lstE a0))
 rf))
 rtt)
abbrev wg:FL:=fnE 5 2 (sq (oE 2 (fn vF (a1 n1)))
 (sq (oE 3 (ci 0))
 (sq (whL (anT (te n0 (cst "spare")) (pZ n3 (ln n2)))
 (sq (oE 4 (pl (sl3 n2 (pur none) (prt n3)) (sl3 n2 (prt (pl n3 (ci 1))) (pur none))))
 (iff (ts (fn wN (a2 n4 (ix n2 n3))))
 (oE 2 n4)
 (oE 3 (pl n3 (ci 1))))) whN)
 (rtn n2))))
abbrev rA:FL:=fnE 7 3 (sq (oE 3 (fn wg (a2 n1 (ix (ix n0 (cst "own")) n2))))
 (sq (oE 4 (ix (ix n0 (cst "told")) n2))
 (sq (oE 5 (comp 1 (itA n3) (tgn 0) (ts (o2 (inE true) n0 n5)) (tupE (a2 (cst "more") n0))))
 (sq (oE 6 (comp 1 (itA n4) (tgn 0) (ts (o2 (inE true) n0 n4)) (tupE (a2 (cst "less") n0))))
 (sq (putE setE (pl (pl (ix (ix n0 (cst "lanes")) n2) n5) n6) (ix n0 (cst "lanes")) n2)
 (putE setE n3 (ix n0 (cst "told")) n2))))))
abbrev qj:FL:=fnE 2 2 (iff (te (ixc n1 0) (cst "wish"))
 (putE setE (ixc n1 2) (fld "own" n0) (ixc n1 1))
 (iff (te (ixc n1 0) (cst "back"))
 (drp (mbE popAE noM (fld "own" n0) (a1 (ixc n1 1))))
 (iff (te (ixc n1 0) (cst "join"))
 (sq (putE setE (lstE a0) (fld "hears" n0) (ixc n1 1))
 (putE setE (lstE a0) (fld "said" n0) (ixc n1 1)))
 (iff (te (ixc n1 0) (cst "cut"))
 (sq (drp (mbE popAE noM (fld "hears" n0) (a1 (ixc n1 1))))
 (drp (mbE popAE noM (fld "said" n0) (a1 (ixc n1 1)))))
 (iff (te (ixc (ixc n1 2) 0) (cst "more"))
 (ap (ix (fld "hears" n0) (ixc n1 1)) (ixc (ixc n1 2) 1))
 (drp (mbE rmE noM (ix (fld "hears" n0) (ixc n1 1)) (a1 (ixc (ixc n1 2) 1)))))))))
abbrev rD:FL:=fnE 2 1 (forE (itA n0) (tgn 1)
 (if1 (tn (ln n1) (ln (ixc n0 0)))
 nev))
abbrev uD:FL:=fnE 2 2 (sq (drp (fn rD (a1 (lstE (a2 n0 n1)))))
 (rtn (fn (onB (·.all id)) (a1 (comp 2 (zipE (a2 n0 n1)) (qh 0 1) yes (anE (o2 leE (ixc n0 0) (ixc n1 0)) (o2 leE (ixc n1 1) (ixc n0 1))))))))
abbrev xo:FL:=fnE 2 2 (rtn (fn (onB (·.any id)) (a1 (comp 1 (itA n0) (tgn 0) yes (anE (o2 (eqE true) n0 n2) (fn uD (a2 n0 n2)))))))
abbrev uo:FL:=fnE 2 1 (sq (drp (fn rD (a1 n0)))
 (sq (oE 1 (fn sortsetE (a1 n0)))
 (rtn (comp 1 (itA n1) (tgn 0) (noT (ts (fn xo (a2 n2 n0)))) n0))))
abbrev wB:FL:=fnE 6 2 (sq (oE 2 (lstE a0))
 (sq (forE (enumE (a1 n1)) (qh 3 4)
 (forE (itA n0) (tgn 5)
 (sq (if1 (pZ (ixc n4 0) (ixc (ix n5 n3) 0))
 (ap n2 (tupE (a2 n3 (mi (ixc (ix n5 n3) 0) (ci 1))))))
 (if1 (pZ (ixc (ix n5 n3) 1) (ixc n4 1))
 (ap n2 (tupE (a2 n3 (ixc (ix n5 n3) 1))))))))
 (rtn (fn minE (a1 n2)))))
abbrev xq:FL:=fnE 7 3 (sq (oE 3 (sl3 n0 (pur none) (prt n1)))
 (sq (oE 4 (sl3 n0 (prt (pl n1 (ci 1))) (pur none)))
 (sq (oE 5 (ixc (ix n0 n1) 0))
 (sq (oE 6 (ixc (ix n0 n1) 1))
 (rtn (tupE (a2 (pl (pl n3 (tupE (a1 (tupE (a2 n5 n2))))) n4) (pl (pl n3 (tupE (a1 (tupE (a2 (pl n2 (ci 1)) n6))))) n4))))))))
abbrev vP:FL:=fnE 7 2 (sq (drp (fn rD (a1 (lstE (a2 n0 n1)))))
 (sq (oE 2 (lstE a0))
 (sq (forE (zipE (a2 n0 n1)) (qh 3 4)
 (sq (oE 5 (fn maxE (a2 (ixc n3 0) (ixc n4 0))))
 (sq (oE 6 (fn minE (a2 (ixc n3 1) (ixc n4 1))))
 (sq (if1 (sF n5 n6)
 rno)
 (ap n2 (tupE (a2 n5 n6)))))))
 (rtn (fn tupleE (a1 n2))))))
def rC:Nat->FL
 | 0=>noL
 | k+1=>fnE 9 3 (sq (oE 4 (comp 1 (itA n1) (tgn 0) (tnn (fn vP (a2 (ix n1 n0) n3))) n0))
 (sq (if1 (te (ln n4) (ci 0))
 (rtn (tupE (a2 (cst "out") (fn tupleE (a1 (comp 1 (itA n2) (tgn 0) yes (ixc n0 0))))))))
 (sq (forE (itA n4) (tgn 3)
 (if1 (ts (fn uD (a2 (ix n0 n3) n2)))
 (rtn (tupE (a2 (cst "in") (tupE (a2 (cst "by") n3)))))))
 (sq (oE 5 (fn wB (a2 (comp 1 (itA n4) (tgn 0) yes (ix n1 n0)) n2)))
 (sq (oE 6 (fn xq (a3 n2 (ixc n5 0) (ixc n5 1))))
 (sq (oE 7 (fn (rC k) (a3 n0 n4 (ixc n6 0))))
 (sq (if1 (te (ixc n7 0) (cst "out"))
 (rtn n7))
 (sq (oE 8 (fn (rC k) (a3 n0 n4 (ixc n6 1))))
 (sq (if1 (te (ixc n8 0) (cst "out"))
 (rtn n8))
 (rtn (tupE (a2 (cst "in") (tupE (a5 (cst "cut") (ixc n5 0) (ixc n5 1) (ixc n7 1) (ixc n8 1)))))))))))))))
abbrev vW:FL:=fnE 2 2 (sq (drp (fn rD (a1 (pl (lstE (a1 n1)) n0))))
 (rtn (fn (rC 40) (a3 n0 (lrngE (a1 (ln n0))) n1))))
abbrev wm:FL:=fnE 5 1 (sq (oE 1 (fn uo (a1 n0)))
 (sq (oE 2 n1)
 (sq (forE (itA n1) (tgn 3)
 (sq (oE 4 (comp 1 (itA n2) (tgn 0) (tn n0 n4) n0))
 (if1 (te (ixc (fn vW (a2 n4 n3)) 0) (cst "in"))
 (oE 2 n4))))
 (rtn n2))))
abbrev vV:FL:=fnE 2 2 (sq (if1 (te n0 (cst "spare"))
 (rtn (fn wm (a1 n1))))
 (rtn (fn uo (a1 n1))))
abbrev vB:FL:=fnE 5 2 (sq (oE 2 (lvalE (fld "own" n0)))
 (sq (forE (itemA (fld "hears" n0)) (qh 3 4)
 (if1 (tn n3 n1)
 (drp (mbE extE noM n2 (a1 n4)))))
 (rtn (fn vV (a2 (fld "how" n0) n2)))))
abbrev uv:FL:=fnE 5 2 (sq (oE 2 (meE (meL [("House", vB)]) n0 (a1 n1)))
 (sq (oE 3 (ix (fld "said" n0) n1))
 (sq (putE setE n2 (fld "said" n0) n1)
 (sq (oE 4 (comp 1 (itA n2) (tgn 0) (ts (o2 (inE true) n0 n4)) (tupE (a2 (cst "more") n0))))
 (sq (drp (mbE extE noM n4 (a1 (comp 1 (itA n3) (tgn 0) (ts (o2 (inE true) n0 n3)) (tupE (a2 (cst "less") n0))))))
 (rtn (comp 1 (itA n4) (tgn 0) yes (tupE (a3 (cst "tell") n2 n0)))))))))
abbrev uf:FL:=fnE 3 1 (sq (oE 1 (lstE a0))
 (sq (forE (itA (fn (orL sortE (onK sortDF)) (a1 (fld "said" n0)))) (tgn 2)
 (drp (mbE extE noM n1 (a1 (meE (meL [("House", uv)]) n0 (a1 n2))))))
 (rtn n1)))
abbrev vU:FL:=fnE 2 2 (sq (if1 (te (ixc n1 0) (cst "send"))
 (rtn (meE (meL []) n0 (a3 (ixc n1 1) (ixc n1 2) cno))))
 (sq (if1 (anT (te (ixc n1 0) (cst "come")) (te (ixc (ixc n1 2) 0) (cst "letter")))
 (rtn (meE (meL []) n0 (a3 (ixc (ixc n1 2) 1) (ixc (ixc n1 2) 2) (ixc n1 1)))))
 (sq (drp (meE (meL [("House", qj)]) n0 (a1 n1)))
 (rtn (meE (meL [("House", uf)]) n0 a0)))))
abbrev qT:FL:=fnE 3 2 (sq (oE 2 (meE (meL [("House", vU)]) n0 (a1 n1)))
 (sq (ap (fld "rows" n0) n1)
 (sq (drp (mbE extE noM (fld "rows" n0) (a1 n2)))
 (rtn n2))))
abbrev tz:FL:=fnE 4 4 (sq (ap (ix (fld "lanes" n0) (tupE (a2 n1 n2))) n3)
 (iff (te (ixc n3 0) (cst "letter"))
 (fldP "letters_told" (pl (fld "letters_told" n0) (ci 1)) n0)
 (fldP "wishes_told" (pl (fld "wishes_told" n0) (ci 1)) n0)))
abbrev qZ:FL:=fnE 4 3 (forE (itA (meE (meL [("House", qT)]) (ix (fld "houses" n0) n1) (a1 n2))) (tgn 3)
 (iff (te (ixc n3 0) (cst "give"))
 (drp (mbE extE noM (ix (fld "gifts" n0) (ixc n3 1)) (a1 (ixc n3 2))))
 (drp (meE (meL [("Town", tz)]) n0 (a3 n1 (ixc n3 1) (ixc n3 2))))))
abbrev qK:FL:=fnE 2 2 (if1 (noT (ts (ch3 leE ltE (ci 0) n1 (ixc n0 0))))
 nev)
abbrev ux:FL:=fnE 2 2 (sq (drp (fn qK (a2 n0 n1)))
 (rtn (fn (orL sortE (onK sortDF)) (a1 (comp 1 (itA (ixc n0 1)) (tgn 0) (ts (o2 (inE false) n2 n0)) (ifE (te (ixc n0 0) n2) (ixc n0 1) (ixc n0 0)))))))
def rH:Nat->FL
 | 0=>noL
 | k+1=>fnE 6 4 (sq (if1 (te n2 n3)
 (rtn (lstE (a1 n2))))
 (sq (forE (itA (fn ux (a2 n0 n2))) (tgn 4)
 (if1 (tn n4 n1)
 (sq (oE 5 (fn (rH k) (a4 n0 n2 n4 n3)))
 (if1 (tnn n5)
 (rtn (pl (lstE (a1 n2)) n5))))))
 rno))
abbrev vL:FL:=fnE 3 3 (sq (drp (fn qK (a2 n0 n1)))
 (sq (drp (fn qK (a2 n0 n2)))
 (rtn (fn (rH 21) (a4 n0 cno n1 n2)))))
abbrev qY:FL:=fnE 1 1 (rtn (tupE (a2 (ln (fld "houses" n0)) (fn tupleE (a1 (fn (orL sortE (onK sortDF)) (a1 (comp 1 (itA (fld "lanes" n0)) (tgn 0) (pZ (ixc n0 0) (ixc n0 1)) n0))))))))
abbrev vO:FL:=fnE 3 3 (sq (if1 (tnn (fn vL (a3 (meE (meL [("Town", qY)]) n0 a0) n1 n2)))
 nev)
 (sq (putE setE (lstE a0) (fld "lanes" n0) (tupE (a2 n1 n2)))
 (sq (putE setE (lstE a0) (fld "lanes" n0) (tupE (a2 n2 n1)))
 (sq (drp (meE (meL [("Town", qZ),("House", qT)]) n0 (a2 n1 (tupE (a2 (cst "join") n2)))))
 (drp (meE (meL [("Town", qZ),("House", qT)]) n0 (a2 n2 (tupE (a2 (cst "join") n1)))))))))
def pG:Nat->FL
 | 0=>noL
 | k+1=>fnE 2 2 (sq (if1 (orT' (tin n1) (tin n0))
 (rtn (anE (o2 (isE false) n1 cno) (o2 (isE false) n0 cno))))
 (sq (if1 (orT' (ts (isiE .bT n1)) (ts (isiE .bT n0)))
 (rtn (anE (isiE .bT n1) (anE (isiE .bT n0) (o2 (eqE false) n0 n1)))))
 (sq (if1 (orT' (ts (isiE .iT n1)) (ts (isiE .sT n1)))
 (rtn (anE (o2 (eqE false) (isiE .iT n0) (isiE .iT n1)) (o2 (eqE false) n0 n1))))
 (sq (if1 (orT' (tn (isiE .tT n1) (isiE .tT n0)) (tn (isiE .lT n1) (isiE .lT n0)))
 rf)
 (sq (if1 (tn (ln n0) (ln n1))
 rf)
 (rtn (o2 (inE true) cf (comp 2 (zipE (a2 n0 n1)) (qh 0 1) yes (fn (pG k) (a2 n0 n1))))))))))
abbrev r9:FL:=fnE 2 2 (sq (if1 (noT (ts (fn (pG 8) (a2 n0 n1))))
 rf)
 (sq (ap n0 (cst ""))
 rtt))
abbrev wP:FL:=fnE 1 1 (rtn (fn (orL sortE (onK sortDF)) (a1 (comp 1 (itA (fld "lanes" n0)) (tgn 0) (sF (ln (ix (fld "lanes" n1) n0)) (ci 0)) n0))))
abbrev rU:FL:=fnE 3 3 (sq (drp (fn qK (a2 n0 n1)))
 (sq (drp (fn qK (a2 n0 n2)))
 (if1 (ts (o2 (inE true) n2 (fn ux (a2 n0 n1))))
 nev)))
abbrev tY:FL:=fnE 3 3 (sq (drp (fn rU (a3 (meE (meL [("Town", qY)]) n0 a0) n1 n2)))
 (rtn (fn listE (a1 (ix (fld "lanes" n0) (tupE (a2 n1 n2)))))))
abbrev uJ:FL:=fnE 3 3 (sq (drp (fn rU (a3 (meE (meL [("Town", qY)]) n0 a0) n1 n2)))
 (rtn (fn (orL sortE (onK sortDF)) (a1 (ix (fld "hears" (ix (fld "houses" n0) n1)) n2)))))
abbrev wt:FL:=fnE 7 3 (sq (forE (rng1E (a1 (ci 2))) (tgn 3)
 (sq (oE 4 (ix n1 n3))
 (sq (oE 5 (ix n1 (mi (ci 1) n3)))
 (sq (if1 (noT (ts (fn r9 (a2 (meE (meL [("Town", tY)]) n0 (a2 n4 n5)) (ix (ix n2 (cst "lanes")) n3)))))
 rf)
 (if1 (noT (ts (fn r9 (a2 (meE (meL [("Town", uJ)]) n0 (a2 n5 n4)) (fn (orL sortE (onK sortDF)) (a1 (ix (ix n2 (cst "heard")) n3)))))))
 rf)))))
 (sq (oE 6 (comp 1 (rng1E (a1 (ci 2))) (tgn 0) (tn (ix (ix n3 (cst "lanes")) n0) (lstE a0)) (tupE (a2 (ix n2 n0) (ix n2 (mi (ci 1) n0))))))
 (rtn (fn r9 (a2 (meE (meL [("Town", wP)]) n0 a0) (fn (orL sortE (onK sortDF)) (a1 n6)))))))
abbrev v9:FL:=fnE 3 3 (sq (drp (fn qK (a2 (meE (meL [("Town", qY)]) n0 a0) n1)))
 (if1 (tn (ln n2) (fld "fields" n0))
 nev))
abbrev vD:FL:=fnE 4 3 (sq (drp (meE (meL [("Town", v9)]) n0 (a2 n1 n2)))
 (sq (oE 3 (fld "wished" n0))
 (sq (fldP "wished" (pl n3 (ci 1)) n0)
 (sq (drp (meE (meL [("Town", qZ),("House", qT)]) n0 (a2 n1 (tupE (a3 (cst "wish") n3 n2)))))
 (rtn n3)))))
abbrev xB:FL:=fnE 5 3 (sq (drp (fn rU (a3 (meE (meL [("Town", qY)]) n0 a0) n1 n2)))
 (sq (oE 3 (ix (fld "lanes" n0) (tupE (a2 n1 n2))))
 (sq (if1 (te (ln n3) (ci 0))
 nev)
 (sq (oE 4 (mbE popAE noM n3 (a1 (ci 0))))
 (sq (drp (meE (meL [("Town", qZ),("House", qT)]) n0 (a2 n2 (tupE (a3 (cst "come") n1 n4)))))
 (rtn n4))))))
abbrev tR:FL:=fnE 3 2 (sq (oE 2 (mbE popAE noM (ix (ix n0 (cst "lanes")) n1) (a1 (ci 0))))
 (sq (iff (te (ixc n2 0) (cst "more"))
 (ap (ix (ix n0 (cst "heard")) n1) (ixc n2 1))
 (drp (mbE rmE noM (ix (ix n0 (cst "heard")) n1) (a1 (ixc n2 1)))))
 (rtn n2)))
abbrev wa:FL:=fnE 12 5 (sq (oE 5 (dispE [((cst "own"),(lstE (a2 (lstE a0) (lstE a0)))),((cst "told"),(lstE (a2 (lstE a0) (lstE a0)))),((cst "lanes"),(lstE (a2 (lstE a0) (lstE a0)))),((cst "heard"),(lstE (a2 (lstE a0) (lstE a0))))]))
 (sq (oE 6 (fn oQ (a2 n0 (ci 4))))
 (sq (oE 7 (ci 0))
 (sq (forE (rng1E (a1 (pl n6 (ci 14)))) (tgn 8)
 (sq (oE 9 (fn oQ (a2 n0 (ci 5))))
 (sq (oE 10 (fn oQ (a2 n0 (ci 2))))
 (sq (iff (te n8 n6)
 (sq (if1 (tnn (meE (meL [("Town", vO)]) n1 (a2 (ixc n2 0) (ixc n2 1))))
 rf)
 (sq (drp (fn rA (a3 n5 n3 (ci 0))))
 (drp (fn rA (a3 n5 n3 (ci 1))))))
 (iff (orT' (pZ n8 n6) (orT' (pZ n9 (ci 2)) (te (ix (ix n5 (cst "lanes")) n10) (lstE a0))))
 (sq (oE 11 (ix n4 (fn oQ (a2 n0 (ln n4)))))
 (sq (if1 (noT (ts (fn (pG 8) (a2 (meE (meL [("Town", vD)]) n1 (a2 (ix n2 n10) n11)) n7))))
 rf)
 (sq (oE 7 (pl n7 (ci 1)))
 (sq (ap (ix (ix n5 (cst "own")) n10) n11)
 (if1 (sF n8 n6)
 (drp (fn rA (a3 n5 n3 n10))))))))
 (if1 (noT (ts (fn (pG 8) (a2 (meE (meL [("Town", xB)]) n1 (a2 (ix n2 n10) (ix n2 (mi (ci 1) n10)))) (fn tR (a2 n5 n10))))))
 rf)))
 (if1 (anT (ts (o2 geE n8 n6)) (noT (ts (fn wt (a3 n1 n2 n5)))))
 rf)))))
 rtt))))
abbrev uS:FL:=fnE 2 2 (sq (fldP "how" n1 n0)
 (sq (fldP "own" (newD false) n0)
 (sq (fldP "hears" (newD false) n0)
 (sq (fldP "said" (newD false) n0)
 (sq (fldP "had" (newD false) n0)
 (fldP "rows" (lstE a0) n0))))))
abbrev vG:FL:=fnE 4 4 (sq (fldP "fields" n2 n0)
 (sq (fldP "how" n3 n0)
 (sq (fldP "houses" (comp 1 (rng1E (a1 n1)) (tgn 0) yes (mkE "House" uS (a1 n4))) n0)
 (sq (fldP "lanes" (newD true) n0)
 (sq (fldP "wished" (ci 0) n0)
 (sq (fldP "gifts" (lstE a0) n0)
 (sq (fldP "wishes_told" (ci 0) n0)
 (fldP "letters_told" (ci 0) n0))))))))
abbrev wJ:FL:=fnE 9 1 (sq (oE 1 (fn xx (a1 n0)))
 (sq (forE (rng1E (a1 (ci 2))) (tgn 2)
 (sq (asg (fn wI (a1 n1)) (tgt 4 (tgc (tgn 3) (tgc (tgn 4) (tgc (tgn 5) (tgc (tgn 6) tg0))))))
 (sq (oE 4 (fn maxE (a2 (ci 2) n4)))
 (sq (oE 7 (fn oQ (a2 n1 n4)))
 (sq (oE 8 (lstE (a2 n7 (md (pl (pl n7 (ci 1)) (fn oQ (a2 n1 (mi n4 (ci 1))))) n4))))
 (if1 (noT (ts (fn wa (a5 n1 (mkE "Town" vG (a3 n4 n5 n3)) n8 n3 n6))))
 rf))))))
 rtt))
def JC{Q:E->Mp->Prop}{c a:Int}(q:∀r,Q (.d (.int r)) M):wF (wj [.d (.int c),.d (.int a)]) M Q:=by
 walk_at "d"
 refine oZ (λh=>?_) (λh=>?_)
 ·tm_at"c"
  exact⟨M,.refl _,q _⟩
 ·tm_at"c"
  exact⟨M,.refl _,q _⟩
noncomputable abbrev potO(nc:Nat)(a c:Int):Ob:=.lst [.ref nc,.d (.int a),.d (.int c)]
noncomputable abbrev intsO(cs:List Int):Ob:=.lst ((cs.map D.int).map .d)
def qE{α:Type}{xs:List α}{k:Int}{x:α}(h0:0<=k)(h:xs[k.toNat]?=some x):atI xs k=some x:=by
 unfold atI ixN;have hl:=(j_.mp h).1;rw[if_pos h0,if_pos ⋯];exact h
def wx{cs:List Int}{a:Int}(h0:0<=a)(h:a < cs.length):∃z:Int,atI ((cs.map D.int).map E.d) a=some (.d (.int z)):=by
 have hl:a.toNat < cs.length:=by omega
 exact⟨cs[a.toNat],qE h0 (by rw[Mx,Mx,i_ hl];rfl)⟩
def JH{Q:E->Mp->Prop}{a c u:Int}{cs:List Int}(h2:(nc,intsO cs)∈(np,potO nc a c)::R)(ha:0<=a)(hu:0 < u/\u < 2 ^ 200)(q:∀r a c,0<=a->0<=r->r < u->Q (.d (.int r)) ((np,potO nc a c)::R)):wF (oQ [.ref np,.d (.int u)]) ((np,potO nc a c)::R) Q:=by
 refine ue ?_;refine sX (λν M=>∃x y a c,0<=a/\ν=[some (.ref np),some (.d (.int u)),x,y,none]/\M=(np,potO nc a c)::R) ?_ ?_
 ·tm_at"c"
  refine oZ (λh=>?_) (λh=>?_)
  ·tm_at"c"
   refine BD (λν M=>∃z,ν=[some (.ref np),some (.d (.int u)),some (.d (.int a)),some (.d (.int z)),none]/\M=(np,potO nc a c)::R) (λh=>?_) (λh=>?_) ?_
   ·have h:=of_decide_eq_true h;rw[c_,c_] at h;obtain⟨z,hz⟩:=wx ha h
    tm_at"c"
    exists oT ‹m› hz ?_
    exact pp (.refl _) ⟨z,rfl,rfl⟩
   ·tm_at"c"
    exists pk (ph (ds:=cs.map .int) ‹m›) (ph (ds:=[]) ‹m›) (.inr (by decide)) ?_
    rcases cs with _ | ⟨c0,cs⟩
    ·exists oH rfl ?_
     exact pp (Le.tl (.refl _)) ⟨_,rfl,rfl⟩
    ·exists pe rfl ?_
     rw[c_,c_];have hl:(0:Int) < (c0::cs).length:=by simp
     obtain⟨z,hz⟩:=wx (Rt (a*7+1) (Int.ne_of_gt hl)) (Qs (a*7+1) hl)
     exists u6 hl (oT ‹m› hz ?_)
     try exists u6 (by decide) ?_
     exact pp (Le.tl (.refl _)) ⟨_,rfl,rfl⟩
   ·rintro _ _ ⟨z,rfl,rfl⟩
    tm_at"c"
    exists JC λr=>?_
    exact pp (.refl _) ⟨_,_,a+1,r,⋯,rfl,rfl⟩
  ·tm_at"c"
   exact pp (.refl _) ⟨_,_,a,c,ha,rfl,rfl⟩
 ·rintro _ _ ⟨x,y,a,c,ha,rfl,rfl⟩
  tm_at"c"
  exact⟨_,.refl _,q _ _ _ ha (Rt _ ⋯) (Qs _ hu.1)⟩
def qu{Q:E->Mp->Prop}{a c u:Int}{cs:List Int}(h1:(np,potO nc a c)∈M)(h2:(nc,intsO cs)∈M)(ha:0<=a)(hu:0 < u/\u < 2 ^ 200)(p:∀i:Int×Int,Put np (potO nc i.1 i.2) M (M' i))(q:∀r a c,0<=a->0<=r->r < u->Q (.d (.int r)) (M' (a,c))):wF (oQ [.ref np,.d (.int u)]) M Q:=
 wF.at1 h1 p λR e=>JH (e.mem_iff.mp h2) ha hu λr a c h0 h3 h4=>⟨(a,c),.refl _,q r a c h0 h3 h4⟩
def uP{a c:Int}{cs:List Int}(h:(nc,intsO cs)∈(np,potO nc a c)::R):(nc,intsO cs)∈R:=by
 rcases x_.mp h with z | z
 ·cases cs<;>cases z
 ·exact z
inductive I6(np nc f:Nat)(low top:Int)(R:Mp)(k:Nat)(ν:Nms)(M:Mp):Prop | mk (n:Nat) (x y z:Option E) (ps:List (Int×Int)) (a c:Int):0<=a->ps.length=k->(∀p∈ps,low<=p.1/\p.1<=p.2/\p.2 < low+top)->ν=[some (.ref np),some (.d (.int f)),some (.d (.int low)),some (.d (.int top)),some (.ref n),x,y,z]->M=(n,.lst ((ps.map prD).map .d))::(np,potO nc a c)::R->I6 np nc f low top R k ν M
def LW{Q:E->Mp->Prop}{a c top:Int}{f:Nat}{cs:List Int}(h2:(nc,intsO cs)∈R)(ha:0<=a)(hf:f<=1000)(ht:0 < top/\top < 1000)(q:∀(w:List (Int×Int)) a c,0<=a->w.length=f->(∀p∈w,low<=p.1/\p.1<=p.2/\p.2 < low+top)->Q (.d (.tup (w.map prD))) ((np,potO nc a c)::R)):wF (tD [.ref np,.d (.int f),.d (.int low),.d (.int top)]) ((np,potO nc a c)::R) Q:=by
 walk_at "d"
 refine pf (lk:=none) (xs:=MO f) (g:=λk:Nat=>.d (.int (0+(k:Int)))) (λdone=>I6 np nc f low top R done.length) ?_ (by rw[MD];omega) ?_ ?_
 ·exists qF ?_
  refine⟨⋯,rfl,λdone ν M _=>by rw[MC];exact qv,_,_,_,_,[],a,c,ha,rfl,by simp,rfl,rfl⟩
 ·rintro done k ad _ _ e ⟨n,x,y,z,ps,a,c,ha,hl,hp,rfl,rfl⟩
  exists ⟨_,pi ‹p›,?_⟩
  walk_at "k"; intro r1 a c ha h1 h3;tm_at"c"
  walk_at "k"; intro r2 a c ha h4 h5;tm_at"c"
  have hk:done.length < f:=by have:=congrArg length e;rw[MD,g_,G_] at this;omega
  exists pK ‹m› (by rw[c_,c_,hl];show _ < 1000000;omega) ‹p› ?_
  refine⟨_,_,_,_,ps++[(min (low+r1) (low+r2),max (low+r1) (low+r2))],a,c,ha,by rw[g_,g_,hl];rfl,λp mB=>?_,rfl,by rw[o_,o_];rfl⟩
  rcases L_.mp mB with h | h
  ·exact hp p h
  ·rw[m_.mp h];omega
 ·rintro _ _ ⟨n,x,y,z,ps,a,c,ha,hl,hp,rfl,rfl⟩
  exists pc ?_
  rw[qA];exact⟨_,Le.tl (.refl _),q ps a c ha (by rw[hl,MD]) hp⟩
def Ds{Q:E->Mp->Prop}{a c top:Int}{f:Nat}{cs:List Int}(h1:(np,potO nc a c)∈M)(h2:(nc,intsO cs)∈M)(ha:0<=a)(hf:f<=1000)(ht:0 < top/\top < 1000)(p:∀i:Int×Int,Put np (potO nc i.1 i.2) M (M' i))(q:∀(w:List (Int×Int)) a c,0<=a->w.length=f->(∀p∈w,low<=p.1/\p.1<=p.2/\p.2 < low+top)->Q (.d (.tup (w.map prD))) (M' (a,c))):wF (tD [.ref np,.d (.int f),.d (.int low),.d (.int top)]) M Q:=
 wF.at1 h1 p λR e=>LW (uP (e.mem_iff.mp h2)) ha hf ht λw a c h0 h3 h4=>⟨(a,c),.refl _,q w a c h0 h3 h4⟩
inductive I8(one ai:List (Int×Int))(M:Mp)(done:List ((Int×Int)×(Int×Int)))(ν:Nms)(N:Mp):Prop | mk (n:Nat) (x y:Option E):ν=[some (.d (.tup (one.map prD))),some (.d (.tup (ai.map prD))),some (.ref n),x,y]->(N=(n,.lst (((done.map λp=>(min p.1.1 p.2.1,max p.1.2 p.2.2)).map prD).map .d))::M)->I8 one ai M done ν N
def Ey{Q:E->Mp->Prop}{one:List (Int×Int)}(h3:one.length<=1000)(q:Q (.d (.tup (((one.zip ai).map λp=>(min p.1.1 p.2.1,max p.1.2 p.2.2)).map prD))) M):wF (xk [.d (.tup (one.map prD)),.d (.tup (ai.map prD))]) M Q:=by
 walk_at "d"
 refine pf (lk:=none) (xs:=one.zip ai) (g:=λp=>.d (.tup [prD p.1,prD p.2])) (I8 one ai M) ?_ (by rw[OW];omega) ?_ ?_
 ·exists sd ?_
  refine⟨_,_,_,_,rfl,o5 rfl,o5 rfl,rfl,λdone ν N _=>?_,_,_,_,rfl,rfl⟩;have e:=zB (M:=N) (as:=one.map prD) (bs:=ai.map prD);rw[Tv,w_] at e;exact e
 ·rintro done p ad _ _ e ⟨n,x,y,rfl,rfl⟩
  exists ⟨_,rb (x:=.d (.tup [.int p.1.1,.int p.1.2])) (y:=.d (.tup [.int p.2.1,.int p.2.2])) rfl ‹p› ‹p›,?_⟩
  have hk:done.length < one.length:=by have:=congrArg length e;rw[OW,g_,G_] at this;omega
  exists pK ‹m› (by rw[c_,c_,c_];show _ < 1000000;omega) ‹p› ?_
  exact⟨_,_,_,rfl,by rw[o_,o_,o_];rfl⟩
 ·rintro _ _ ⟨n,x,y,rfl,rfl⟩
  exists pc ?_
  rw[qA];exact⟨_,Le.tl (.refl _),q⟩
structure PrOk(p:Int×Int):Prop where
 lo:0<=p.1
 le:p.1<=p.2
 hi:p.2<=9
def qJ{α:Type}{f:α->D}{w:List α}{k:Int}{p:α}(h0:0<=k)(h:w[k.toNat]?=some p):atI ((w.map f).map E.d) k=some (.d (f p)):=qE h0 (by rw[Mx,Mx,h];rfl)
def JB{Q:E->Mp->Prop}{a c:Int}{w:List (Int×Int)}{cs:List Int}(h2:(nc,intsO cs)∈R)(ha:0<=a)(h0:w≠[])(hl:w.length<=1000)(hw:∀p∈w,PrOk p)(q:∀(w':List (Int×Int)) a c,0<=a->w'.length=w.length->(∀p∈w',PrOk p)->Q (.d (.tup (w'.map prD))) ((np,potO nc a c)::R)):wF (se [.ref np,.d (.tup (w.map prD))]) ((np,potO nc a c)::R) Q:=by
 have hp:=Pb.mpr h0
 walk_at "d"
 rw[c_,c_]
 walk_at "k"; intro k a c ha k0 k1;tm_at"c"
 have hk:k.toNat < w.length:=by omega
 obtain⟨p,ep⟩:∃p,w[k.toNat]?=some p:=⟨_,i_ hk⟩;have ok:=hw p (NC ep);refine pB rfl (qJ k0 ep) ?_
 exists ⟨_,rb (x:=.d (.int p.1)) (y:=.d (.int p.2)) rfl ‹p› ‹p›,?_⟩
 exists qu ‹m› ‹m› ha (by have:=ok.le;have:=ok.lo;have:=ok.hi;omega) (λ_=>by walk_at "p") λr a c ha r0 r1=>?_
 walk_at "k"; intro t a c ha t0 t1
 have bj:=ok.lo;have gj:=ok.hi
 obtain⟨p',aC,eB⟩:∃p',PrOk p'/\atI [E.d (D.tup [D.int p.fst,D.int (p.fst+r)]),E.d (D.tup [D.int (max 0 (p.fst - 1)),D.int (p.fst+r)]),E.d (D.tup [D.int (p.fst+r),D.int (min 9 (p.snd+1))])] t=some (.d (prD p')):=by
  obtain rfl | rfl | rfl:t=0\/t=1\/t=2:=by omega
  ·exact⟨(p.1,p.1+r),⟨bj,by dsimp only;omega,by dsimp only;omega⟩,rfl⟩
  ·exact⟨(max 0 (p.1 - 1),p.1+r),⟨by dsimp only;omega,by dsimp only;omega,by dsimp only;omega⟩,rfl⟩
  ·exact⟨(p.1+r,min 9 (p.2+1)),⟨by dsimp only;omega,by dsimp only;omega,by dsimp only;omega⟩,rfl⟩
 exists oT ‹m› eB ?_
 exists xO ⟨k0,by rw[c_];exact k1⟩ ?_
 have hm:(w.map prD).length=w.length:=c_ _
 exists qw (by rw[M8];show _<=1000000;simp;omega) ?_
 exists B7 ⟨⋯,⋯⟩ (qw (by rw[g_,M8,Nd];show _<=1000000;simp;omega) ?_)
 have e:(w.map prD).take k.toNat++[prD p']++(w.map prD).drop (k+1).toNat=(w.take k.toNat++[p']++w.drop (k+1).toNat).map prD:=by
  rw[o_,o_,PK,PJ];rfl
 rw[e];refine⟨_,Le.tl (.refl _),q _ a c ha ?_ λx hx=>?_⟩
 ·rw[g_,g_,M8,Nd,Ms];omega
 ·rcases L_.mp hx with hx | hx
  ·rcases L_.mp hx with hx | hx
   ·exact hw x (PF hx)
   ·rw[m_.mp hx];exact aC
  ·exact hw x (PL hx)
def zo{Q:E->Mp->Prop}{a c:Int}{w:List (Int×Int)}{cs:List Int}(h1:(np,potO nc a c)∈M)(h2:(nc,intsO cs)∈M)(ha:0<=a)(h0:w≠[])(hl:w.length<=1000)(hw:∀p∈w,PrOk p)(p:∀i:Int×Int,Put np (potO nc i.1 i.2) M (M' i))(q:∀(w':List (Int×Int)) a c,0<=a->w'.length=w.length->(∀p∈w',PrOk p)->Q (.d (.tup (w'.map prD))) (M' (a,c))):wF (se [.ref np,.d (.tup (w.map prD))]) M Q:=
 wF.at1 h1 p λR e=>JB (uP (e.mem_iff.mp h2)) ha h0 hl hw λw a c h0 h3 h4=>⟨(a,c),.refl _,q w a c h0 h3 h4⟩
abbrev wD(w:List (Int×Int)):D:=.tup (w.map prD)
structure WiOk(f:Nat)(w:List (Int×Int)):Prop where
 len:w.length=f
 all:∀p∈w,PrOk p
abbrev wsO(ws:List (List (Int×Int))):Ob:=.lst ((ws.map wD).map .d)
inductive P9(np nc f:Nat)(top most low:Int)(R:Mp)(k:Nat)(ν:Nms)(M:Mp):Prop | mk (ws:List (List (Int×Int))) (n:Nat) (x6 x7 x8 x9:Option E) (a c:Int):0<=a->ws.length=k->(∀w∈ws,WiOk f w)->ν=[some (.ref np),some (.d (.int f)),some (.d (.int top)),some (.d (.int most)),some (.d (.int low)),some (.ref n),x6,x7,x8,x9]->M=(n,wsO ws)::(np,potO nc a c)::R->P9 np nc f top most low R k ν M
inductive Q9(np nc f n:Nat)(top most low j way:Int)(ws:List (List (Int×Int)))(R:Mp)(ν:Nms)(M:Mp):Prop | mk (w:List (Int×Int)) (x9:Option E) (a c:Int):0<=a->WiOk f w->ν=[some (.ref np),some (.d (.int f)),some (.d (.int top)),some (.d (.int most)),some (.d (.int low)),some (.ref n),some (.d (.int j)),some (.d (.int way)),some (.d (wD w)),x9]->M=(n,wsO ws)::(np,potO nc a c)::R->Q9 np nc f n top most low j way ws R ν M
def Dp{Q:E->Mp->Prop}{a c top:Int}{f:Nat}{cs:List Int}(h2:(nc,intsO cs)∈R)(ha:0<=a)(hf:0 < f/\f<=1000)(ht:0 < top/\top<=10)(hm:0 < most/\most < 1000)(q:∀(ws:List (List (Int×Int))) n a c,0<=a->ws≠[]->(ws.length:Int)<=most->(∀w∈ws,WiOk f w)->Q (.ref n) ((n,wsO ws)::(np,potO nc a c)::R)):wF (sK [.ref np,.d (.int f),.d (.int top),.d (.int most)]) ((np,potO nc a c)::R) Q:=by
 walk_at "d"
 walk_at "k"; intro low a c ha l0 l1;tm_at"c"
 refine qR ?_
 exists qF ?_
 walk_at "k"; intro m a c ha m0 m1;tm_at"c"
 refine⟨⋯,?_⟩;refine pf (lk:=none) (xs:=MO (1+m).toNat) (g:=λk:Nat=>.d (.int (0+(k:Int)))) (λdone=>P9 np nc f top most low R done.length) (oU ⟨rfl,λ_ _ _ _=>qv,[],_,_,_,_,_,a,c,ha,rfl,by simp,rfl,rfl⟩) (by rw[MD];omega) ?_ ?_
 ·rintro done k ad _ _ e ⟨ws,n,x6,x7,x8,x9,a,c,ha,hl,hw,rfl,rfl⟩;have hk:done.length < (1+m).toNat:=by have:=congrArg length e;rw[MD,g_,G_] at this;omega
  exists ⟨_,pi ‹p›,?_⟩
  walk_at "k"; intro way a c ha v0 v1;tm_at"c"
  refine Ds ‹m› ‹m› ha hf.2 ⋯ (λ_=>by walk_at "p") λw a c ha lw pw=>?_
  have gl:WiOk f w:=⟨lw,λp hp=>⟨by have:=pw p hp;omega,(pw p hp).2.1,by have:=pw p hp;omega⟩⟩;refine rp ‹p› (qc (sX (Q9 np nc f n top most low (0+(k:Int)) way ws R) ?_ ?_))
  ·tm_at"c"
   refine oZ (λh=>?_) (λh=>?_)
   ·tm_at"c"
    exists pk (ph (ds:=ws.map wD) ‹m›) (ph (ds:=[]) ‹m›) (.inr (by decide)) ?_
    rcases ws with _ | ⟨w0,ws⟩
    ·exists oH rfl ?_
     exact pp (Le.tl (.refl _)) ⟨w,_,a,c,ha,gl,rfl,rfl⟩
    ·exists pe rfl ?_
     rw[c_,c_];refine qu ‹m› ‹m› ha (by rw[hl];rw[G_] at hl;omega) (λ_=>by walk_at "p") λt a c ha t0 t1=>?_
     obtain⟨w1,e1⟩:∃w1,(w0::ws)[t.toNat]?=some w1:=⟨_,i_ ⋯⟩;have bj:=hw w1 (NC e1)
     exists oT ‹m› (qJ t0 e1) ?_
     have mC:WiOk f (((w1.zip w).map λp=>(min p.1.1 p.2.1,max p.1.2 p.2.2))):=by
      refine⟨by rw[c_,OW,bj.len,gl.len];omega,λp hp=>?_⟩;obtain⟨⟨x,y⟩,jU,rfl⟩:=F_.mp hp;have h1:=bj.all x (Ri jU).1;have h2:=gl.all y (Ri jU).2;exact⟨by have:=h1.lo;have:=h2.lo;dsimp only;omega,by have:=h1.le;dsimp only;omega,by have:=h1.hi;have:=h2.hi;dsimp only;omega⟩
     exists Ey (by rw[bj.len];exact hf.2) ?_
     exists zo ‹m› ‹m› ha (λz=>by rw[z] at bj;have:=bj.len;simp at this;omega) (by rw[bj.len];exact hf.2) bj.all (λ_=>by walk_at "p") λw2 a c ha l2 fx=>?_
     exists oT ‹m› (qJ (w:=w0::ws) (PM 0) rfl) ?_
     have fy:=hw w0 p_
     exists zo ‹m› ‹m› ha (λz=>by rw[z] at fy;have:=fy.len;simp at this;omega) (by rw[fy.len];exact hf.2) fy.all (λ_=>by walk_at "p") λw3 a c ha l3 gj=>?_
     have nF:1 < way:=of_decide_eq_true h
     obtain⟨w',aC,mD⟩:∃w',WiOk f w'/\atI [E.d (D.tup (PN prD (PN (λp=>(min p.1.1 p.2.1,max p.1.2 p.2.2)) (w1.zip w)))),E.d (D.tup (PN prD w2)),E.d (D.tup (PN prD w3))] (way - 2)=some (.d (wD w')):=by
      obtain rfl | rfl | rfl:way=2\/way=3\/way=4:=by omega
      ·exact⟨_,mC,rfl⟩
      ·exact⟨w2,⟨by rw[l2];exact bj.len,fx⟩,rfl⟩
      ·exact⟨w3,⟨by rw[l3];exact fy.len,gj⟩,rfl⟩
     exists oT ‹m› mD ?_
     exact pp (Le.tl (Le.tl (.refl _))) ⟨w',_,a,c,ha,aC,rfl,rfl⟩
   ·exists oH rfl ?_
    exact pp (.refl _) ⟨w,_,a,c,ha,gl,rfl,rfl⟩
  ·rintro _ _ ⟨w',x9,a,c,ha,aC,rfl,rfl⟩
   tm_at"c"
   exists pK ‹m› (by rw[c_,c_,hl];show _ < 1000000;omega) ‹p› ?_
   refine⟨ws++[w'],n,_,_,_,_,a,c,ha,by rw[g_,g_,hl];rfl,λx hx=>?_,rfl,by rw[wsO,o_,o_];rfl⟩
   rcases L_.mp hx with hx | hx
   ·exact hw x hx
   ·rw[m_.mp hx];exact aC
 ·rintro _ _ ⟨ws,n,x6,x7,x8,x9,a,c,ha,hl,hw,rfl,rfl⟩
  exists pc ?_
  exact⟨_,.refl _,q ws n a c ha (λz=>by rw[z,MD] at hl;simp at hl;omega) (by rw[hl,MD];omega) hw⟩
def yb{Q:E->Mp->Prop}{a c top:Int}{f:Nat}{cs:List Int}(h1:(np,potO nc a c)∈M)(h2:(nc,intsO cs)∈M)(ha:0<=a)(hf:0 < f/\f<=1000)(ht:0 < top/\top<=10)(hm:0 < most/\most < 1000)(p:∀i:Int×Int,Put np (potO nc i.1 i.2) M (M' i))(q:∀(ws:List (List (Int×Int))) n a c,0<=a->ws≠[]->(ws.length:Int)<=most->(∀w∈ws,WiOk f w)->Q (.ref n) ((n,wsO ws)::M' (a,c))):wF (sK [.ref np,.d (.int f),.d (.int top),.d (.int most)]) M Q:=λS s=>by
 have q0:=((p (0,0)).split s.1 h1).1;obtain⟨e,S',N,e1,s',n,ws,a,c,ha,cn,hl,hw,rfl,rfl⟩:=Dp (Q:=λe N=>∃n ws a c,0<=a/\ws≠[]/\(ws.length:Int)<=most/\(∀w∈ws,WiOk f w)/\e=.ref n/\N=(n,wsO ws)::(np,potO nc a c)::M.filter λc=>c.1 != np) (uP (q0.mem_iff.mp h2)) ha hf ht hm (λws n a c x1 x2 x3 x4=>⟨n,ws,a,c,x1,x2,x3,x4,rfl,rfl⟩) S (s.perm q0);exact⟨_,S',_,e1,s'.perm (((p (a,c)).split s.1 h1).2.symm.cons _),q ws n a c ha cn hl hw⟩
def yG{Q:E->Mp->Prop}{n:Int}(h:0<=n/\n<=1000)(q:Q (.d (.tup (Mm n.toNat d))) M):wF (or2 mulE mul1 (.d (.tup [d])) (.d (.int n))) M Q:=λS s=>⟨_,S,M,by
 show(if 0<=n/\n<=1000 then some (mkT (Mm n.toNat (E.d d)),S) else none)=_
 rw[if_pos h,←Qt,qA],s,q⟩
def LI{Q:E->Mp->Prop}{a c:Int}{f:Nat}{cs:List Int}(h2:(nc,intsO cs)∈R)(ha:0<=a)(hf:0 < f/\f<=1000)(q:∀(ws:List (List (Int×Int))) n a c,0<=a->ws.length=3->(∀w∈ws,WiOk f w)->Q (.ref n) ((n,wsO ws)::(np,potO nc a c)::R)):wF (uI [.ref np,.d (.int f)]) ((np,potO nc a c)::R) Q:=by
 walk_at "d"
 walk_at "k"; intro k a c ha k0 k1;tm_at"c"
 walk_at "k"; intro r1 a c ha a1 b1;tm_at"c"
 walk_at "k"; intro r2 a c ha a2 b2;tm_at"c"
 walk_at "k"; intro r3 a c ha a3 b3;tm_at"c"
 walk_at "k"; intro s1 a c ha a4 b4;tm_at"c"
 walk_at "k"; intro r5 a c ha a5 b5;tm_at"c"
 walk_at "k"; intro r6 a c ha a6 b6;tm_at"c"
 walk_at "k"; intro r7 a c ha a7 b7;tm_at"c"
 refine o6 (m:=1) (xs:=[(1+r1,1+r1+1+r2),(r6,1+r1+r3),(1+r1+r3+1,1+r1+1+r2+1+r7)]) (g:=λp=>.d (prD p)) (own:=λp=>[some (.d (prD p))]) (λ_=>true) (λp=>.d (wD (Mm k.toNat (s1,s1+r5)++[p]++Mm ((f:Int) - 1 - k).toNat (s1,s1+r5)))) ?_ (by show 3 < 1000000;decide) own1 (λ_ _=>rfl) (λ_ _ N _=>oU ⟨rfl,.refl _⟩) (λp hp _ N l=>?_) λm=>?_
 ·exists oW ?_
  exact⟨⟨_,oJ ‹m›⟩,rfl,oJ ‹m›,.refl _⟩
 ·tm_at"c"
  exists yG ⟨k0,⋯⟩ ?_
  exists qw (by rw[Mw];show _<=1000000;simp;omega) ?_
  refine yG ⟨⋯,⋯⟩ (qw (by rw[g_,Mw,Mw];show _<=1000000;simp;omega) ⟨?_,.refl _⟩);rw[wD,o_,o_,Qt,Qt];rfl
 ·tm_at"c"
  refine⟨_,Le.hd (Le.tl (.refl _)),q ([(1+r1,1+r1+1+r2),(r6,1+r1+r3),(1+r1+r3+1,1+r1+1+r2+1+r7)].map λp=>Mm k.toNat (s1,s1+r5)++[p]++Mm ((f:Int) - 1 - k).toNat (s1,s1+r5)) m a c ha rfl λw hw=>?_⟩;obtain⟨p,hp,rfl⟩:=F_.mp hw
  have mE:PrOk p:=by
   simp only[x_,Px,or_false] at hp
   rcases hp with rfl | rfl | rfl<;>exact⟨by dsimp only;omega,by dsimp only;omega,by dsimp only;omega⟩
  refine⟨by rw[g_,g_,Mw,Mw,Ms];omega,λx hx=>?_⟩
  rcases L_.mp hx with hx | hx
  ·rcases L_.mp hx with hx | hx
   ·rw[(Ss.mp hx).2];exact⟨a4,by dsimp only;omega,by dsimp only;omega⟩
   ·rw[m_.mp hx];exact mE
  ·rw[(Ss.mp hx).2];exact⟨a4,by dsimp only;omega,by dsimp only;omega⟩
def Kx{Q:E->Mp->Prop}{i j:Int}(q:Q (.d (.bl (decide (i=j)))) M):wF (eqE false (.d (.int i)) (.d (.int j))) M Q:=pk rd_d rd_d (.inl (Mu _)) (by show Q (.d (.bl (i == j))) M;rw[show(i == j)=decide (i=j) by rw[Nq];simp];exact q)
def yt{Q:E->Mp->Prop}{i j:Int}(q:Q (.d (.bl (!decide (i=j)))) M):wF (eqE true (.d (.int i)) (.d (.int j))) M Q:=pk rd_d rd_d (.inl (Mu _)) (by show Q (.d (.bl (!(i == j)))) M;rw[show(i == j)=decide (i=j) by rw[Nq];simp];exact q)
def KG{Q:E->Mp->Prop}{i j:Str}(q:Q (.d (.bl (i == j))) M):wF (eqE false (.d (.str i)) (.d (.str j))) M Q:=pk rd_d rd_d (.inl (Mu _)) q
def zI{xs:List E}{k:Nat}:cutE xs (some ((k:Nat):Int)) none=xs.drop k:=by
 unfold cutE;rw[HT.rR,HT.rB];by_cases h:k<=xs.length
 ·rw[RO h];exact Oj (by rw[Nd];exact s_ _)
 ·rw[Oi ⋯,Oi ⋯,List.take_nil]
def yI{xs:List E}{k:Nat}:cutE xs none (some ((k:Nat):Int))=xs.take k:=by
 unfold cutE;rw[HT.rR,HT.rB,List.drop_zero,Nat.sub_zero];by_cases h:k<=xs.length
 ·rw[RO h]
 ·rw[Oj ⋯,Oj ⋯]
def CU{Q:E->Mp->Prop}{a c:Int}{f:Nat}{cs:List Int}(h1:(np,potO nc a c)∈M)(h2:(nc,intsO cs)∈M)(ha:0<=a)(hf:0 < f/\f<=1000)(p:∀i:Int×Int,Put np (potO nc i.1 i.2) M (M' i))(q:∀(ws:List (List (Int×Int))) n a c,0<=a->ws.length=3->(∀w∈ws,WiOk f w)->Q (.ref n) ((n,wsO ws)::M' (a,c))):wF (uI [.ref np,.d (.int f)]) M Q:=λS s=>by
 have q0:=((p (0,0)).split s.1 h1).1;obtain⟨e,S',N,e1,s',n,ws,a,c,ha,hl,hw,rfl,rfl⟩:=LI (Q:=λe N=>∃n ws a c,0<=a/\ws.length=3/\(∀w∈ws,WiOk f w)/\e=.ref n/\N=(n,wsO ws)::(np,potO nc a c)::M.filter λc=>c.1 != np) (uP (q0.mem_iff.mp h2)) ha hf (λws n a c x1 x2 x3=>⟨n,ws,a,c,x1,x2,x3,rfl,rfl⟩) S (s.perm q0);exact⟨_,S',_,e1,s'.perm (((p (a,c)).split s.1 h1).2.symm.cons _),q ws n a c ha hl hw⟩
def rj{cs:List Int}{k:Int}(P:Int->Prop)(hp:∀c∈cs,P c)(h0:0<=k)(h1:k < cs.length):∃z,P z/\atI (cs.map λc=>E.d (.int c)) k=some (.d (.int z)):=by
 have hl:k.toNat < cs.length:=by omega
 exact⟨cs[k.toNat],hp _ (Nf hl),qE h0 (by rw[Mx,i_ hl];rfl)⟩
def w_in{a:MM E}{Q:E->Mp->Prop}{I:E->Prop}(k:wM a ν M λx N=>I x/\Le M N)(q:∀x N,I x->Le M N->Q x N):wM a ν M Q:=wF.mono k λx N h=>q x N h.1 h.2
def xQ{α:Type}{a:MM α}{N:Mp}{Q:α->Mp->Prop}(le:Le M N)(h:wM a ν M Q):wM a ν N Q:=wF.pre le h
def FA{Q:E->Mp->Prop}{a c:Int}{cs:List Int}(h2:(nc,intsO cs)∈R)(ha:0<=a)(q:∀(how:Str) (many:Int) (f:Nat) (ws:List (List (Int×Int))) n a c,0<=a->(how = "roof"\/how = "spare")->(1<=many/\many<=8)->(0 < f/\f<=3)->ws≠[]->ws.length<=6->(∀w∈ws,WiOk f w)->Q (.tup [.d (.str how),.d (.int many),.d (.int f),.ref n]) ((n,wsO ws)::(np,potO nc a c)::R)):wF (wI [.ref np]) ((np,potO nc a c)::R) Q:=by
 refine uc ?_
 tm_at"c"; walk_at "k"; intro way a c ha w0 w1
 tm_at"c"; walk_at "k"; intro iR a c ha t0 t1
 tm_at"c"; walk_at "k"; intro fi a c ha f0 f1
 obtain⟨f,hf⟩:∃f:Nat,1+fi=f:=⟨(1+fi).toNat,⋯⟩
 tm_at"c"
 rw[hf]
 walk_at "k"; intro jV a c ha n0 n1
 tm_at"c"
 walk_at "k"; intro k a c ha k0 k1
 obtain⟨many,hm,em⟩:=rj (cs:=[3,4,5,6,7,8,8,1,2,4]) (λz=>1<=z/\z<=8) (by decide) k0 k1
 exists oT ‹m› em ?_
 refine oZ (λh=>?_) (λh=>?_)
 ·tm_at"c"
  obtain⟨top,ht,et⟩:=rj (cs:=[3,5,10]) (λz=>0 < z/\z<=10) (by decide) n0 n1
  exists oT ‹m› et ?_
  exists yb ‹m› ‹m› ha ⋯ ht (by decide) (λ_=>by walk_at "p") λws n a c ha z1 z2 z3=>?_
  exact⟨_,Le.hd (Le.tl (Le.tl (.refl _))),q _ many f ws n a c ha (.inl rfl) hm ⋯ z1 ⋯ z3⟩
 ·have hw:way - 2=0\/way - 2=1:=by have:=of_decide_eq_false h;omega
  have jW:(f:Int) - 1=fi:=by omega
  refine ra (qc (wS.pre (.tl (.refl _)) (s_sq (s_to (w_in (I:=λe=>∃z:Int,e=.d (.int z)/\0 < z/\z<=10) ?_ ?_)))))
  ·obtain⟨z1,g1,e1⟩:=rj (cs:=[3,5,10]) (λz=>0 < z/\z<=10) (by decide) n0 n1;obtain⟨z2,g2,e2⟩:=rj (cs:=[2,3,4]) (λz=>0 < z/\z<=10) (by decide) n0 n1;obtain⟨z3,g3,e3⟩:=rj (cs:=[2,2,3]) (λz=>0 < z/\z<=10) (by decide) n0 n1
   tm_at"c"
   rw[jW];obtain rfl | rfl | rfl:fi=0\/fi=1\/fi=2:=by omega
   all_goals
    tm_at"c"
    first | refine oT ‹m› e1 ?_ | refine oT ‹m› e2 ?_ | refine oT ‹m› e3 ?_
    exact⟨⟨_,rfl,by assumption⟩,by walk_at "l"⟩
  rintro _ N ⟨top,rfl,ht⟩ le;refine rp ‹p› (qc (wS.pre le (s_sq (s_to (w_fn (w_cs (w_nm rfl (w_cs (w_nm rfl (w_cs (w_nm rfl (w_cs (w_in (I:=λe=>∃z:Int,e=.d (.int z)/\0 < z/\z<=5) ?_ ?_)))))))))))))
  ·obtain⟨z1,g1,e1⟩:=rj (cs:=[5,5,4]) (λz=>0 < z/\z<=5) (by decide) f0 f1
   tm_at"c"
   rw[jW]
   exists oT ‹m› e1 ?_
   rcases hw with hw | hw
   all_goals
    rw[hw]
    tm_at"c"
    exact⟨⟨_,rfl,⋯⟩,by walk_at "l"⟩
  rintro _ N ⟨most,rfl,nY⟩ le;refine xQ le (qg (yb ‹m› ‹m› ha ⋯ ht ⋯ (λ_=>by walk_at "p") λws n a c ha z1 z2 z3=>rp ‹p› (qc (sX (λν N=>∃ws n a c,0<=a/\(ws:List (List (Int×Int)))≠[]/\ws.length<=6/\(∀w∈ws,WiOk f w)/\ν=[some (.ref np),some (.d (.int way)),some (.d (.int iR)),some (.d (.int f)),some (.d (.int jV)),some (.d (.int many)),some (.d (.int top)),some (.ref n)]/\N=(n,wsO ws)::(np,potO nc a c)::R) ?_ ?_))))
  ·tm_at"c"
   refine oZ (λh=>?_) (λh=>?_)
   ·tm_at"c"
    exists CU ‹m› ‹m› ha ⋯ (λ_=>by walk_at "p") λvs m a c ha y1 y2=>?_
    refine w_sl (oJ ‹m›) ⟨_,rfl⟩ λp=>?_
    rw[show(3:Int)=((3:Nat):Int) from rfl,zI,←PJ,←PJ];refine sn ‹m› ‹m› (by rw[c_,c_,c_,c_,Nd,y1];show _<=1000000;omega) λp2=>?_
    rw[←o_,←o_]
    tm_at"c"
    exact pp (.hd (.tl (.tl (.tl (.refl _))))) ⟨vs++ws.drop 3,p2,a,c,ha,(λz=>by rw[List.append_eq_nil_iff] at z;rw[z.1] at y1;cases y1),by rw[g_,Nd];omega,λw hw=>(L_.mp hw).elim (y2 w) λh=>z3 w (PL h),rfl,rfl⟩
   ·tm_at"c"
    exact pp (.refl _) ⟨ws,n,a,c,ha,z1,⋯,z3,rfl,rfl⟩
  rintro _ _ ⟨ws,n,a,c,ha,z1,z2,z3,rfl,rfl⟩;refine BP (rX (w_cs (rG (w_cs (w_in (I:=λe=>∃z:Int,e=.d (.int z)/\1<=z/\z<=8) ?_ ?_)))))
  ·tm_at"c"
   rcases hw with hw | hw
   all_goals
    rw[hw]
    tm_at"c"
    exact⟨⟨_,rfl,⋯⟩,by walk_at "l"⟩
  rintro _ N ⟨z,rfl,hz⟩ le;refine xQ le ?_
  tm_at"c"
  exact⟨_,.refl _,q "spare" _ f ws n a c ha (.inr rfl) hz ⋯ z1 z2 z3⟩
abbrev Wi:=List (Int×Int)
def Hy(ds:List D):∀d∈ds,(dd ds).any (λe=>deq e d)=true:=by
 have key:∀(ds ac:List D),(∀d,ac.any (λe=>deq e d)=true->(ds.foldl dstep ac).any (λe=>deq e d)=true)/\∀d∈ds,(ds.foldl dstep ac).any (λe=>deq e d)=true:=by
  intro ds
  induction ds with
  | nil=>exact λac=>⟨λd h=>h,λd h=>by cases h⟩
  | cons c ds ih =>
   intro ac;obtain⟨h1,h2⟩:=ih (dstep ac c)
   have st:∀d,ac.any (λe=>deq e d)=true->(dstep ac c).any (λe=>deq e d)=true:=λd h=>by
    unfold dstep;split
    ·exact h
    ·rw[Su,h];rfl
   refine⟨λd h=>h1 d (st d h),λd h=>?_⟩
   rcases x_.mp h with rfl | h
   ·refine h1 d ?_;unfold dstep;split
    ·assumption
    ·rw[Su];simp[tf]
   ·exact h2 d h
 exact(key ds []).2
def Fm(ds:List D):(dd ds).length<=ds.length:=by
 have key:∀(ds ac:List D),(ds.foldl dstep ac).length<=ac.length+ds.length:=by
  intro ds
  induction ds with
  | nil=>exact λac=>s_ _
  | cons c ds ih =>
   intro ac;have:=ih (dstep ac c)
   have:(dstep ac c).length<=ac.length+1:=by
    unfold dstep;split
    ·omega
    ·simp
   rw[So,G_];omega
 have:=key ds [];simpa[dd] using this
theorem o8{α:Type}:∀(l m:List α),l.Nodup->(∀x∈l,x∈m)->l.length<=m.length
 | [],m,_,_=>Mu _
 | x::l,m,nd,h=>by
  obtain⟨a,b,rfl⟩:=Sq (h x p_);rw[MH] at nd
  have:=o8 l (a++b) nd.2 (λy hy=>by
   have:=h y (n_ _ hy)
   rcases L_.mp this with z | z
   ·exact(Np _ z)
   ·rcases x_.mp z with z | z
    ·subst z;exact absurd hy nd.1
    ·exact(Mv _ z))
  simp at this ⊢;omega
theorem A9:∀(a b:Wi),deqA (a.map prD) (b.map prD)=decide (a=b)
 | [],[]=>by simp[deqA]
 | [],q::b=>by simp[deqA]
 | p::a,[]=>by simp[deqA]
 | p::a,q::b=>by
  rw[I_,I_,deqA,A9 a b];simp[prD,deq,deqA,Prod.ext_iff];by_cases h1:p.1=q.1<;>by_cases h2:p.2=q.2<;>by_cases h3:a=b<;>simp[h1,h2,h3]
def sH(a b:Wi):deq (wD a) (wD b)=decide (a=b):=by
 exact A9 a b
def yc{a b:Wi}(h:wD a=wD b):a=b:=by
 have:=sH a b;rw[h,DL.tf] at this;simpa using this.symm
theorem Bn:∀(a b:Wi),cmA (a.map prD) (b.map prD)=true
 | [],[]=>by simp[cmA]
 | [],q::b=>by simp[cmA]
 | p::a,[]=>by simp[cmA]
 | p::a,q::b=>by
  rw[I_,I_,cmA,Bn a b];simp[prD,cmB,cmA]
def zq(a b:Wi):cmB (wD a) (wD b)=true:=by
 exact Bn a b
def BQ(ws:List Wi):cmAll (ws.map wD)=true:=by
 unfold cmAll;rw[H_];intro a ha;rw[H_];intro b hb;obtain⟨x,_,rfl⟩:=F_.mp ha;obtain⟨y,_,rfl⟩:=F_.mp hb;exact zq x y
theorem Ai:∀a:Wi,kyA (a.map prD)=true
 | []=>by simp[kyA]
 | p::a=>by
  rw[I_,kyA,Ai a];simp[prD,kyB,kyA]
def tI{f:D->Bool}{ws:List Wi}(h:∀w∈ws,f (wD w)=true):(ws.map wD).all f=true:=by
 rw[H_];intro d hd;obtain⟨w,hw,rfl⟩:=F_.mp hd;exact h w hw
def qM(a:Wi):dep (wD a)<=2:=by
 rw[dep]
 have:depA (a.map prD)<=1:=by
  induction a with
  | nil=>simp[depA]
  | cons p a ih=>rw[I_,depA];simp[prD,dep,depA] at ih ⊢;omega
 omega
theorem wV:∀ws:List Wi,depA (ws.map wD)<=2
 | []=>by simp[depA]
 | w::ws=>by have:=qM w;have:=wV ws;rw[I_,depA];omega
theorem pull{ws:List Wi}:∀(l:List D),(∀d∈l,∃w∈ws,d=wD w)->∃us:List Wi,l=us.map wD/\∀u∈us,u∈ws
 | [],_=>⟨[],rfl,λu hu=>by cases hu⟩
 | d::l,h=>by
  obtain⟨us,e,m⟩:=pull l λd hd=>h d (n_ _ hd)
  obtain⟨w,hw,rfl⟩:=h d p_;refine⟨w::us,by rw[e];rfl,λu hu=>?_⟩
  rcases x_.mp hu with rfl | hu
  ·exact hw
  ·exact m u hu
def vX{us:List Wi}{w:Wi}:wD w∈us.map wD↔w∈us:=by
 rw[F_];constructor
 ·rintro⟨u,hu,e⟩;rw[←yc e];exact hu
 ·exact λh=>⟨w,h,rfl⟩
def FT{us:List Wi}(h:(us.map wD).Nodup):us.Nodup:=by
 induction us with
 | nil=>exact N8
 | cons u us ih =>
  rw[I_,MH] at h;rw[MH];exact⟨λm=>h.1 (vX.mpr m),ih h.2⟩
def u7(ws:List Wi):∃us:List Wi,sortD (dd (ws.map wD))=us.map wD/\(∀u,u∈us↔u∈ws)/\us.Nodup/\us.length<=ws.length:=by
 have p:=pQ (dd (ws.map wD))
 obtain⟨us,e,m⟩:=pull (ws:=ws) (sortD (dd (ws.map wD))) λd hd=>by
  obtain⟨w,hw,rfl⟩:=F_.mp (rJ (p.mem_iff.mp hd));exact⟨w,hw,rfl⟩
 refine⟨us,e,λu=>⟨m u,λhu=>?_⟩,FT ?_,?_⟩
 ·have h1:=Hy (ws.map wD) (wD u) (vX.mpr hu);obtain⟨d,hd,q⟩:=Oc.mp h1;obtain⟨w,hw,rfl⟩:=F_.mp (rJ hd);rw[sH] at q;simp at q;subst q;have:=p.mem_iff.mpr hd;rw[e] at this;exact vX.mp this
 ·rw[←e];exact p.nodup_iff.mpr (xt _)
 ·have h1:=p.length_eq;have h2:=Fm (ws.map wD);rw[e] at h1;simp at h1 h2;omega
noncomputable def hasB(w:Wi)(l:List Int):Bool:=(l.zip w).all λq=>decide (q.2.1<=q.1)&&decide (q.1<=q.2.2)
noncomputable def covB(a b:Wi):Bool:=(a.zip b).all λq=>decide (q.1.1<=q.2.1)&&decide (q.2.2<=q.1.2)
theorem ub{α:Type}(f:α->D):∀xs:List α,deq (.lst (xs.map f)) (.lst [])=xs.isEmpty
 | []=>rfl
 | _::_=>rfl
def vt{α:Type}(p:α->Bool)(xs:List α):(xs.filter p).isEmpty=xs.all λx=>!p x:=by
 induction xs with
 | nil=>rfl
 | cons x xs ih=>rw[QI,Nw];cases p x<;>simp[ih]
def Ev{Q:E->Mp->Prop}{e x:E}{xs:List E}{k:Int}(h:SrcAt (seqSrc e) xs M)(hk:atI xs k=some x)(q:Q x M):wF (ixE e (.d (.int k))) M Q:=λS s=>⟨x,S,M,by
 show(match seqE e S with
  | some xs=>_
  | none=>_)=_
 rw[show seqE e S=some xs from h S s];dsimp only
 rw[hk],s,q⟩
def pd{α:Type}{f:α->D}{xs:List α}(h:(n,.lst ((xs.map f).map .d))∈M):SrcAt (seqSrc (.ref n)) (xs.map λx=>.d (f x)) M:=by
 have e:=oJ h;rw[w_] at e;exact e
def B3{a b:Wi}:SrcAt (zipSrc (.d (wD a)) (.d (wD b))) ((a.zip b).map λq=>.d (.tup [prD q.1,prD q.2])) M:=by
 have e:=zB (M:=M) (as:=a.map prD) (bs:=b.map prD);rw[Tv,w_] at e;exact e
section
variable{Q:E->Mp->Prop}{e:E}{l:List Int}{w a b:Wi}{ws:List Wi}
def yT(hs:SrcAt (seqSrc e) (l.map λi=>.d (.int i)) M)(hl:l.length<=1000)(q:Q (.d (.bl (hasB w l))) M):wF (uL [.d (wD w),e]) M Q:=by
 walk_at "d"
 refine o6 (m:=2) (xs:=l.zip w) (g:=λq=>.d (.tup [.int q.1,prD q.2])) (own:=λq=>[some (.d (.int q.1)),some (.d (.tup [.int q.2.1,.int q.2.2]))]) (λq=>decide (q.1 < q.2.1)||decide (q.2.2 < q.1)) (λ_=>.d (.int 1)) ?_ (by rw[OW];omega) (own2 λ_ _=>rfl) (λ_ _=>rfl) (λq _ N l=>?_) (λ_ _ _ N l=>rG ⟨rfl,.refl _⟩) λp=>?_
 ·exists sd ?_
  refine⟨_,_,_,_,rfl,hs,o5 rfl,rfl,?_,.refl _⟩;have e:=v8 (M:=M) hs (o5 (e:=.d (wD w)) rfl);rw[w_,Tv,w_] at e;exact e
 ·tm_at"c"
  exists oZ (λh=>⟨by rw[h];rfl,.refl _⟩) (λh=>?_)
  exact⟨by rw[h];rfl,.refl _⟩
 ·tm_at"c"
  exists pk (ph (ds:=((l.zip w).filter _).map λ_=>D.int 1) (by rw[w_];walk_at "m")) (ph (ds:=[]) ‹m›) (.inr (by decide)) ?_
  refine⟨_,Le.tl (Le.tl (.refl _)),?_⟩;rw[if_neg q_,ub,vt];rw[show((l.zip w).all λx=>!(decide (x.1 < x.2.1)||decide (x.2.2 < x.1)))=hasB w l from List.all_congr rfl λx=>by rw[Nq];simp];exact q
def CG(cJ:a.length=b.length)(hb:∀p∈b,p.1<=p.2):(hasB a (b.map (·.1))&&hasB a (b.map (·.2)))=covB a b:=by
 unfold hasB covB
 induction b generalizing a with
 | nil=>cases a<;>first | rfl | cases cJ
 | cons p b ih =>
  cases a with
  | nil=>cases cJ
  | cons r a =>
   have:=hb p p_;have ih:=ih (a:=a) (by simpa using cJ) λx hx=>hb x (n_ _ hx)
   simp only[I_,On,Nw];rw[←ih];rw[Nq];simp only[k_,decide_eq_true_eq];constructor
   ·rintro⟨⟨⟨h1,h2⟩,h3⟩,⟨h4,h5⟩,h6⟩;exact⟨⟨h1,h5⟩,h3,h6⟩
   ·rintro⟨⟨h1,h2⟩,h3,h4⟩;exact⟨⟨⟨h1,⋯⟩,h3⟩,⟨⋯,h2⟩,h4⟩
def Lv(cJ:a.length=b.length)(hl:b.length<=1000)(hb:∀p∈b,p.1<=p.2)(q:Q (.d (.bl (covB a b))) M):wF (vY [.d (wD a),.d (wD b)]) M Q:=by
 walk_at "d"
 refine o6 (m:=1) (xs:=[true,false]) (g:=λk=>.d (.int (if k then 0 else 1))) (own:=λk=>[some (.d (.int (if k then 0 else 1)))]) (λ_=>true) (λk=>.d (.bl (hasB a (b.map λp=>if k then p.1 else p.2)))) (qF ?_) (by show 2 < 1000000;decide) own1 (λ_ _=>rfl) (λq _ N l=>oU ⟨rfl,.refl _⟩) (λk _ _ N l=>?_) λp=>?_
 ·tm_at"c"
  exact⟨by decide,rfl,qv,.refl _⟩
 ·tm_at"c"
  refine o6 (m:=1) (xs:=b) (g:=λq=>.d (prD q)) (own:=λq=>[some (.d (.tup [.int q.1,.int q.2]))]) (λ_=>true) (λq=>.d (.int (if k then q.1 else q.2))) (oW ?_) ⋯ own1 (λ_ _=>rfl) (λq _ N l=>oU ⟨rfl,.refl _⟩) (λq _ _ N l=>?_) λp=>?_
  ·tm_at"c"
   exact⟨⟨_,o5 rfl⟩,rfl,(by have e:=o5 (M:=N) (e:=.d (wD b)) rfl;rw[w_] at e;exact e),.refl _⟩
  ·tm_at"c"
   cases k
   ·refine pB rfl rfl ⟨rfl,.refl _⟩
   ·refine pB rfl rfl ⟨rfl,.refl _⟩
  ·tm_at"c"
   refine yT (l:=b.map λq=>if k then q.1 else q.2) ?_ (by rw[c_];exact hl) ⟨rfl,Le.tl (.refl _)⟩;rw[w_,No.mpr λ_ _=>rfl];exact oJ ‹m›
 ·tm_at"c"
  exists ur (x:=.bl false) (zs:=[.bl (hasB a (b.map (·.1))),.bl (hasB a (b.map (·.2)))]) rd_d (ph ‹m›) (Mu _) ?_
  refine⟨_,Le.tl (.refl _),?_⟩;rw[←CG cJ hb] at q;generalize hasB a (b.map (·.1))=u at q ⊢;generalize hasB a (b.map (·.2))=v at q ⊢;cases u<;>cases v<;>exact q
def tu{f:Nat}(hs:SrcAt (seqSrc e) (ds.map .d) M)(hf:∀d∈ds,∃xs,d=.tup xs/\xs.length=f)(hl:ds.length<=1000)(q:Q (.d .non) M):wF (rD [e]) M Q:=by
 refine uc ?_;refine pf (lk:=none) (xs:=ds) (g:=.d) (λdone ν N=>(∃x,ν=[some e,x])/\N=M) (oW ?_) ⋯ ?_ ?_
 ·tm_at"c"
  exact⟨⟨_,hs⟩,rfl,λ_ _ _ ⟨_,h⟩=>by rw[h];exact hs,⟨_,rfl⟩,rfl⟩
 ·rintro done d ad _ _ e1 ⟨⟨x,rfl⟩,rfl⟩;obtain⟨xs,rfl,hx⟩:=hf d (by rw[e1];simp)
  tm_at"c"
  obtain⟨d0,cG,e2⟩:∃d0 cG,ds=d0::cG:=by cases ds with
   | nil=>cases done<;>cases e1
   | cons d0 cG=>exact⟨_,_,rfl⟩
  obtain⟨x0,rfl,h0⟩:=hf d0 (by rw[e2];exact p_)
  exists Ev hs (k:=0) (x:=.d (.tup x0)) (by rw[e2];exact qE (PM 0) rfl) ?_
  exists oH (by rw[c_,c_,hx,h0];simp) ?_
  exact⟨⟨_,rfl⟩,rfl⟩
 ·rintro _ _ ⟨⟨x,rfl⟩,rfl⟩
  exists pc ?_
  exact⟨_,.refl _,q⟩
def uG{ws:List Wi}{f:Nat}(h:∀w∈ws,w.length=f):∀d∈ws.map wD,∃xs,d=.tup xs/\xs.length=f:=λd hd=>by
 obtain⟨w,hw,rfl⟩:=F_.mp hd;exact⟨_,rfl,by rw[c_];exact h w hw⟩
def y3(cJ:a.length=b.length)(hl:b.length<=1000)(q:Q (.d (.bl (covB a b))) M):wF (uD [.d (wD a),.d (wD b)]) M Q:=by
 walk_at "d"
 exists tu (ds:=[wD a,wD b]) (f:=b.length) (oJ ‹m›) (uG (ws:=[a,b]) (by simp[cJ])) (by show 2<=1000;decide) ?_
 refine o6 (m:=2) (xs:=a.zip b) (g:=λq=>.d (.tup [prD q.1,prD q.2])) (own:=λq=>[some (.d (.tup [.int q.1.1,.int q.1.2])),some (.d (.tup [.int q.2.1,.int q.2.2]))]) (λ_=>true) (λq=>.d (.bl (decide (q.1.1<=q.2.1)&&decide (q.2.2<=q.1.2)))) (sd ?_) (by rw[OW];omega) (own2 λ_ _=>rfl) (λ_ _=>rfl) (λq _ N l=>oU ⟨rfl,.refl _⟩) (λq _ _ N l=>?_) λp=>?_
 ·tm_at"c"
  refine⟨_,_,_,_,rfl,o5 rfl,o5 rfl,rfl,B3,.refl _⟩
 ·tm_at"c"
  exists oZ (λh=>?_) (λh=>⟨by rw[h];rfl,.refl _⟩)
  exact⟨by rw[h];rfl,.refl _⟩
 ·tm_at"c"
  exists ze (bs:=(a.zip b).map λq=>decide (q.1.1<=q.2.1)&&decide (q.2.2<=q.1.2)) (by rw[w_,No.mpr λ_ _=>rfl];walk_at "m") ?_
  refine⟨_,Le.tl (Le.tl (.refl _)),?_⟩;rw[RW];exact q
def underB(us:List Wi)(w:Wi):Bool:=us.any λo=>o != w&&covB o w
def tM{a b:Wi}:deq (wD a) (wD b)=(a == b):=by rw[sH,Nq];simp
def DC(hm:(n,wsO ws)∈M)(hw:∀x∈ws,x.length=w.length)(hl:w.length<=1000)(hn:ws.length < 1000000)(q:Q (.d (.bl (underB ws w))) M):wF (xo [.ref n,.d (wD w)]) M Q:=by
 walk_at "d"
 refine o6 (m:=1) (xs:=ws) (g:=λo=>.d (wD o)) (own:=λo=>[some (.d (wD o))]) (λ_=>true) (λo=>.d (.bl (o != w&&covB o w))) (oW ?_) hn own1 (λ_ _=>rfl) (λq _ N l=>oU ⟨rfl,.refl _⟩) (λo ho _ N l=>?_) λp=>?_
 ·tm_at"c"
  exact⟨⟨_,oJ ‹m›⟩,rfl,pd hm,.refl _⟩
 ·tm_at"c"
  exists pk rd_d rd_d (.inl (A_ (qM _) (by decide))) ?_
  rw[if_pos rfl,tM];refine oZ (λh=>?_) (λh=>⟨by rw[bne,h];rfl,.refl _⟩);refine y3 (hw o ho) hl ⟨by rw[bne,h];rfl,.refl _⟩
 ·tm_at"c"
  exists ze (bs:=ws.map λo=>o != w&&covB o w) (by rw[w_,No.mpr λ_ _=>rfl];walk_at "m") ?_
  refine⟨_,Le.tl (.refl _),?_⟩;rw[SE];exact q
end
def uO{us ws:List Wi}(m:∀u,u∈us↔u∈ws)(w:Wi):underB us w=underB ws w:=by
 unfold underB;rw[Nq,Oc,Oc];exact⟨λ⟨u,h,q⟩=>⟨u,(m u).mp h,q⟩,λ⟨u,h,q⟩=>⟨u,(m u).mpr h,q⟩⟩
def Ie{as bs:List Wi}(h1:(as.map wD).Pairwise λa b=>leD a b=true)(h2:(bs.map wD).Pairwise λa b=>leD a b=true)(n1:as.Nodup)(n2:bs.Nodup)(m:∀w,w∈as↔w∈bs):as=bs:=by
 have len:bs.length<=as.length:=by
  have:=o8 bs as n2 (λw hw=>(m w).mpr hw);exact this
 have p:as.Perm bs:=vm as bs n1 (λw hw=>(m w).mp hw) len
 have e:as.map wD=bs.map wD:=tP _ _ (p.map _) h1 h2 λa ha b hb l1 l2=>by
  obtain⟨x,_,rfl⟩:=F_.mp ha;obtain⟨y,_,rfl⟩:=F_.mp hb;have c:=zq x y;refine sf _ _ c ?_;rw[rq _ _ c];unfold leD at l1 l2;rw[l1,l2];rfl
 have:∀(as bs:List Wi),as.map wD=bs.map wD->as=bs:=by
  intro as
  induction as with
  | nil=>intro bs e;cases bs with
   | nil=>rfl
   | cons b bs=>simp at e
  | cons a as ih =>
   intro bs e;cases bs with
   | nil=>simp at e
   | cons b bs =>
    injection e with e1 e2
    rw[yc e1,ih bs e2]
 exact this as bs e
structure IsRoof(ws R:List Wi):Prop where
 up:(R.map wD).Pairwise λa b=>leD a b=true
 nd:R.Nodup
 mem:∀w,w∈R↔w∈ws/\underB ws w=false
def IsRoof.alone{ws R S:List Wi}(a:IsRoof ws R)(b:IsRoof ws S):R=S:=Ie a.up b.up a.nd b.nd λw=>(a.mem w).trans (b.mem w).symm
def IsRoof.congr{ws vs R:List Wi}(a:IsRoof ws R)(m:∀u,u∈vs↔u∈ws):IsRoof vs R:=⟨a.up,a.nd,λw=>by rw[a.mem,m,uO m]⟩
structure Po(P:List Wi)(f:Nat):Prop where
 len:P.length<=18
 f1:0 < f/\f<=3
 all:∀w∈P,WiOk f w
def BA{P ws:List Wi}{f:Nat}(p:Po P f)(h:∀w∈ws,w∈P):SetOk (ws.map wD)/\((ws.map wD).all fstI=true\/(ws.map wD).all fstT=true):=by
 have mF:(dd (ws.map wD)).length<=18:=by
  refine A_ (o8 _ (P.map wD) (xt _) λd hd=>?_) (by rw[c_];exact p.len);obtain⟨w,hw,rfl⟩:=F_.mp (rJ hd);exact F_.mpr ⟨w,h w hw,rfl⟩
 refine⟨⟨BQ ws,tI λw _=>?_,tI λw _=>rfl,A_ (wV ws) ⋯,mF⟩,.inr (tI λw hw=>?_)⟩
 ·unfold wD;exact Ai w
 ·have:=(p.all w (h w hw)).len;have:=p.f1.1;cases w with
  | nil=>simp at *;omega
  | cons p w=>rfl
section
variable{Q:E->Mp->Prop}{f:Nat}{ws P:List Wi}
def B0(p:Po P f)(hw:∀w∈ws,w∈P)(hl:ws.length<=1000)(hm:(n,wsO ws)∈M)(q:∀R m,IsRoof ws R->Q (.ref m) ((m,wsO R)::M)):wF (uo [.ref n]) M Q:=by
 have au:∀w∈ws,w.length=f:=λw h=>(p.all w (hw w h)).len
 have hf:=p.f1;obtain⟨us,e,mem,nd,hu⟩:=u7 ws;have up:=rn (dd (ws.map wD));rw[e] at up
 walk_at "d"
 exists tu (oJ hm) (uG au) (by rw[c_];exact hl) ?_
 refine yJ hm (BA p hw) λm=>?_
 rw[e]
 tm_at"c"
 refine o6 (m:=1) (xs:=us) (g:=λo=>.d (wD o)) (own:=λo=>[some (.d (wD o))]) (λo=>!underB us o) (λo=>.d (wD o)) (oW ?_) ⋯ own1 (λ_ _=>rfl) (λo ho N l=>?_) (λo ho _ N l=>?_) λp=>?_
 ·tm_at"c"
  exact⟨⟨_,oJ ‹m›⟩,rfl,pd ‹m›,.refl _⟩
 ·tm_at"c"
  have ho:=au o ((mem o).mp ho)
  exists DC (l.mem ‹m›) (λx hx=>by rw[au x ((mem x).mp hx),ho]) ⋯ ⋯ ?_
  exact⟨rfl,.refl _⟩
 ·tm_at"c"
  exact⟨rfl,.refl _⟩
 ·tm_at"c"
  refine⟨_,Le.hd (Le.tl (.refl _)),?_⟩;have z:=q (us.filter λo=>!underB us o) p ⟨up.sublist (Oy.map _),nd.filter _,λw=>by rw[z_,mem,uO mem];simp⟩;rw[wsO,w_] at z;exact z
def Kv(p:Po P f)(hw:∀w∈ws,w∈P)(hl:ws.length<=1000)(hm:(n,wsO ws)∈M)(q:∀R m,IsRoof ws R->Q (.ref m) ((m,wsO R)::M)):wF (vF [.ref n]) M Q:=by
 have hok:∀w∈ws,WiOk f w:=λw h=>p.all w (hw w h)
 have hf:=p.f1;obtain⟨us,e,mem,nd,hu⟩:=u7 ws;have up:=rn (dd (ws.map wD));rw[e] at up
 walk_at "d"
 refine yJ hm (BA p hw) λm=>?_
 rw[e]
 tm_at"c"
 refine o6 (m:=1) (xs:=us) (g:=λo=>.d (wD o)) (own:=λo=>[some (.d (wD o))]) (λo=>!underB us o) (λo=>.d (wD o)) (oW ?_) ⋯ own1 (λ_ _=>rfl) (λo ho N l=>?_) (λo ho _ N l=>?_) λp=>?_
 ·tm_at"c"
  exact⟨⟨_,oJ ‹m›⟩,rfl,pd ‹m›,.refl _⟩
 ·have iS:=hok o ((mem o).mp ho);have nZ:=l.mem (c:=(m,wsO us)) ‹m›
  tm_at"c"
  refine o6 (m:=1) (xs:=us) (g:=λo=>.d (wD o)) (own:=λo=>[some (.d (wD o))]) (λx=>x != o&&covB x o) (λx=>.d (wD x)) (oW ?_) ⋯ own1 (λ_ _=>rfl) (λx hx N2 l2=>?_) (λx hx _ N2 l2=>?_) λk=>?_
  ·tm_at"c"
   exact⟨⟨_,oJ ‹m›⟩,rfl,pd ‹m›,.refl _⟩
  ·tm_at"c"
   exists pk rd_d rd_d (.inl (A_ (qM _) (by decide))) ?_
   rw[if_pos rfl,tM];have mG:=hok x ((mem x).mp hx)
   exists oZ (λh=>?_) (λh=>⟨by rw[bne,h];rfl,.refl _⟩)
   exists Lv (by rw[mG.len,iS.len]) (by rw[iS.len];omega) (λp hp=>(iS.all p hp).le) ?_
   exact⟨by rw[bne,h];rfl,.refl _⟩
  ·tm_at"c"
   exact⟨rfl,.refl _⟩
  ·tm_at"c"
   exists pk (ph (ds:=(us.filter λx=>x != o&&covB x o).map wD) (by rw[w_];walk_at "m")) (ph (ds:=[]) ‹m›) (.inr (by decide)) ?_
   rw[if_neg q_,ub,vt];refine⟨?_,Le.tl (Le.tl (.refl _))⟩;unfold underB;rw[List.not_any_eq_all_not]
 ·tm_at"c"
  exact⟨rfl,.refl _⟩
 ·tm_at"c"
  refine⟨_,Le.hd (Le.tl (.refl _)),?_⟩;have z:=q (us.filter λo=>!underB us o) p ⟨up.sublist (Oy.map _),nd.filter _,λw=>by rw[z_,mem,uO mem];simp⟩;rw[wsO,w_] at z;exact z
end
def DE{Q:E->Mp->Prop}{p:Int×Int}(q:Q (.d (.int p.1)) M):wF (ixE (.d (prD p)) (.d (.int 0))) M Q:=pB rfl rfl q
def E1{Q:E->Mp->Prop}{p:Int×Int}(q:Q (.d (.int p.2)) M):wF (ixE (.d (prD p)) (.d (.int 1))) M Q:=pB rfl rfl q
noncomputable def apB(a b:Wi):Bool:=(a.zip b).any λq=>decide (min q.1.2 q.2.2 < max q.1.1 q.2.1)
section
variable{Q:E->Mp->Prop}{f:Nat}{ws P:List Wi}{a b p:Wi}
inductive C3(a b:Wi)(M:Mp)(done:List ((Int×Int)×(Int×Int)))(ν:Nms)(N:Mp):Prop | mk (n:Nat) (x y z u:Option E) (ps:Wi):ν=[some (.d (wD a)),some (.d (wD b)),some (.ref n),x,y,z,u]->N=(n,.lst ((ps.map prD).map .d))::M->(ps:Wi).length=done.length->((done.any λq=>decide (min q.1.2 q.2.2 < max q.1.1 q.2.1))=false)->C3 a b M done ν N
def EK(cJ:a.length=b.length)(hl:b.length<=1000)(q:∀x,isN (.d x)=apB a b->Q (.d x) M):wF (vP [.d (wD a),.d (wD b)]) M Q:=by
 walk_at "d"
 exists wF.le (tu (ds:=[wD a,wD b]) (f:=b.length) (oJ ‹m›) (uG (ws:=[a,b]) (by simp[cJ])) (by show 2<=1000;decide) ⟨M,Le.tl (.refl _),?_⟩)
 refine pf (lk:=none) (xs:=a.zip b) (g:=λq=>.d (.tup [prD q.1,prD q.2])) (C3 a b M) (sd ?_) (by rw[OW];omega) ?_ ?_
 ·tm_at"c"
  refine⟨_,_,_,_,rfl,o5 rfl,o5 rfl,rfl,λ_ _ _ _=>B3,_,_,_,_,_,[],rfl,rfl,rfl,rfl⟩
 ·rintro done r ad _ _ e ⟨n,x,y,z,u,ps,rfl,rfl,hp,hd⟩
  exists ⟨_,rb (x:=.d (.tup [.int r.1.1,.int r.1.2])) (y:=.d (.tup [.int r.2.1,.int r.2.2])) rfl ‹p› ‹p›,?_⟩
  refine oZ (λh=>?_) (λh=>?_)
  ·tm_at"c"
   refine⟨_,Le.tl (.refl _),?_⟩;refine q _ ?_;unfold apB;rw[e,Su,OL,show decide _=true from decide_eq_true (of_decide_eq_true h)];rw[Bool.true_or,Bool.or_true];rfl
  ·tm_at"c"
   exists pK ‹m› (by rw[c_,c_,hp];show _ < 1000000;have:=congrArg length e;rw[OW,g_,G_] at this;omega) ‹p› ?_
   refine⟨_,_,_,_,_,ps++[(max r.1.1 r.2.1,min r.1.2 r.2.2)],rfl,by rw[o_,o_];rfl,by rw[g_,g_,hp];rfl,by rw[Su,hd];simpa using h⟩
 ·rintro _ _ ⟨n,x,y,z,u,ps,rfl,rfl,hp,hd⟩
  exists pc ?_
  rw[qA];exact⟨_,Le.tl (.refl _),q _ (by unfold apB;rw[hd];rfl)⟩
def Bd(ws:List Wi)(p:Wi)(x:Int×Int):Prop:=∃(g:Nat) (w:Wi) (r v:Int×Int),w∈ws/\p[g]?=some r/\w[g]?=some v/\x.1=g/\((r.1 < v.1/\x.2=v.1 - 1)\/(v.2 < r.2/\x.2=v.2))
def FG{L:Wi}:prsD (L.map prD)=some L:=by
 induction L with
 | nil=>rfl
 | cons x L ih=>simp only[I_,prD,prsD] at ih ⊢;rw[ih]
def FN{L:Wi}(hm:(n,.lst ((L.map prD).map .d))∈M)(ne:L≠[])(q:∀x∈L,Q (.d (prD x)) M):wF (minE [.ref n]) M Q:=AD (λS s=>rfl) λS s=>by
 have low:=Bo (btP L) (L.length - 1);have pos:=Pb.mpr ne;refine⟨_,S,M,?_,s,q (minP L) ?_⟩
 ·unfold minPE;dsimp only;rw[s.get hm];dsimp only;rw[rT];dsimp only;rw[FG];cases L with
  | nil=>exact absurd rfl ne
  | cons x L=>rfl
 ·unfold minP;rw[C_,i_ ⋯];exact Nf _
def G8{M:Mp}{p:Wi}:SrcAt (enumSrc (.d (wD p))) (p.zipIdx.map λq=>.d (.tup [.int q.2,prD q.1])) M:=by
 have e:=yj (M:=M) (o5 (e:=.d (wD p)) rfl);rw[w_,List.zipIdx_map,w_] at e;exact e
abbrev Ou(ws:List Wi)(q:(Int×Int)×Nat):Prop:=∀w∈ws,∀v,w[q.2]?=some v->v.1<=q.1.1/\q.1.2<=v.2
inductive B1(ws:List Wi)(p:Wi)(n:Nat)(M:Mp)(done:List ((Int×Int)×Nat))(ν:Nms)(N:Mp):Prop | mk (m:Nat) (x y z:Option E) (L:Wi):ν=[some (.ref n),some (.d (wD p)),some (.ref m),x,y,z]->N=(m,.lst ((L.map prD).map .d))::M->(∀x∈L,Bd ws p x)->L.length<=2000*done.length->(L=[]->∀q∈done,Ou ws q)->B1 ws p n M done ν N
inductive B2(ws:List Wi)(p:Wi)(n m:Nat)(M:Mp)(done:List ((Int×Int)×Nat))(q:(Int×Int)×Nat)(c:Nat)(P:Prop)(ν:Nms)(N:Mp):Prop | mk (z:Option E) (L:Wi):ν=[some (.ref n),some (.d (wD p)),some (.ref m),some (.d (.int q.2)),some (.d (.tup [.int q.1.1,.int q.1.2])),z]->N=(m,.lst ((L.map prD).map .d))::M->(∀x∈L,Bd ws p x)->L.length<=2000*done.length+c->(L=[]->(∀q∈done,Ou ws q)/\P)->B2 ws p n m M done q c P ν N
def Hn(hw:∀w∈ws,w.length=p.length)(hp:p.length<=3)(hl:ws.length<=1000)(hm:(n,wsO ws)∈M)(ne:∃x,Bd ws p x)(q:∀x,Bd ws p x->Q (.d (prD x)) M):wF (wB [.ref n,.d (wD p)]) M Q:=by
 walk_at "d"
 refine pf (lk:=none) (xs:=p.zipIdx) (g:=λq=>.d (.tup [.int q.2,prD q.1])) (B1 ws p n M) (A0 ?_) (by rw[Qu];omega) ?_ ?_
 ·tm_at"c"
  exact⟨_,_,rfl,o5 rfl,rfl,λ_ _ _ _=>G8,_,_,_,_,[],rfl,rfl,by simp,Mu _,by simp⟩
 ·rintro done q ad _ _ e ⟨m,x,y,z,L,rfl,rfl,hL,hn,hE⟩;have hq:p[q.2]?=some q.1:=P0.mp (by rw[e];simp);have dI:done.length < 3:=by have:=congrArg length e;rw[Qu,g_,G_] at this;omega
  refine⟨_,rb (x:=.d (.int q.2)) (y:=.d (.tup [.int q.1.1,.int q.1.2])) rfl ‹p› ‹p›,?_⟩;refine pf (lk:=none) (xs:=ws) (g:=λw=>.d (wD w)) (λdn=>B2 ws p n m M done q (2*dn.length) (Ou dn q)) (oW ?_) ⋯ ?_ ?_
  ·tm_at"c"
   exact⟨⟨_,oJ ‹m›⟩,rfl,λ_ _ _ ⟨_,_,_,h,_,_,_⟩=>by rw[h];exact pd ‹m›,_,L,rfl,rfl,hL,⋯,λh=>⟨hE h,λ_ h=>nomatch h⟩⟩
  ·rintro dn w rs _ _ e2 ⟨z,L,rfl,rfl,hL,hn,hE⟩;have iU:w∈ws:=by rw[e2];simp
   have gm:dn.length < 1000:=by have:=congrArg length e2;rw[g_,G_] at this;omega
   obtain⟨v,hv⟩:∃v,w[q.2]?=some v:=⟨_,i_ (by rw[hw w iU];exact(j_.mp hq).1)⟩;have cH:=qJ (f:=prD) (k:=(q.2:Int)) (w:=w) ⋯ (by rw[MC];exact hv)
   exists ⟨_,pi ‹p›,?_⟩
   exists pB rfl cH ?_
   refine BD (λν N=>B2 ws p n m M done q (2*dn.length+1) (Ou dn q/\v.1<=q.1.1) ν N/\ν[5]?=some (some (.d (wD w)))) (λh=>?_) (λh=>?_) ?_
   ·tm_at"c"
    exists pB rfl cH ?_
    exists pK ‹m› (by rw[c_,c_];show _ < 1000000;omega) ‹p› ?_
    refine pp (.refl _) ⟨⟨_,L++[((q.2:Int),v.1 - 1)],rfl,by rw[o_,o_];rfl,λx hx=>?_,by rw[g_,Ms];omega,λz=>absurd z (by simp)⟩,rfl⟩
    rcases L_.mp hx with hx | hx
    ·exact hL x hx
    ·rw[m_.mp hx];exact⟨q.2,w,q.1,v,iU,hq,hv,rfl,.inl ⟨of_decide_eq_true h,rfl⟩⟩
   ·tm_at"c"
    exact pp (.refl _) ⟨⟨_,L,rfl,rfl,hL,⋯,λz=>⟨(hE z).1,(hE z).2,by have:=of_decide_eq_false h;omega⟩⟩,rfl⟩
   ·rintro _ _ ⟨⟨x5,L,rfl,rfl,hL,hn,hE⟩,e5⟩;obtain rfl:x5=some (.d (wD w)):=Mt e5
    tm_at"c"
    exists pB rfl cH ?_
    tm_at"c"
    refine oZ (λh=>?_) (λh=>?_)
    ·tm_at"c"
     exists pB rfl cH ?_
     exists pK ‹m› (by rw[c_,c_];show _ < 1000000;omega) ‹p› ?_
     refine⟨_,L++[((q.2:Int),v.2)],rfl,by rw[o_,o_];rfl,λx hx=>?_,by rw[g_,g_,Ms,Ms];omega,λz=>absurd z (by simp)⟩
     rcases L_.mp hx with hx | hx
     ·exact hL x hx
     ·rw[m_.mp hx];exact⟨q.2,w,q.1,v,iU,hq,hv,rfl,.inr ⟨of_decide_eq_true h,rfl⟩⟩
    ·tm_at"c"
     refine⟨_,L,rfl,rfl,hL,by rw[g_,Ms];omega,λz=>⟨(hE z).1,λx hx u hu=>?_⟩⟩
     rcases L_.mp hx with hx | hx
     ·exact(hE z).2.1 x hx u hu
     ·rw[m_.mp hx,hv] at hu;cases hu;exact⟨(hE z).2.2,by have:=of_decide_eq_false h;omega⟩
  ·rintro _ _ ⟨z,L,rfl,rfl,hL,hn,hE⟩
   exists pc ?_
   refine⟨m,_,_,_,L,rfl,rfl,hL,by rw[g_,Ms];omega,λz x hx=>?_⟩
   rcases L_.mp hx with hx | hx
   ·exact(hE z).1 x hx
   ·rw[m_.mp hx];exact(hE z).2
 ·rintro _ _ ⟨m,x,y,z,L,rfl,rfl,hL,hn,hE⟩
  exists pc ?_
  refine FN ‹m› (λz=>?_) λx hx=>?_
  ·obtain⟨x,g,w,r,v,h1,h2,h3,h4,h5⟩:=ne;have:=hE z (r,g) (P0.mpr h2) w h1 v h3;dsimp only at this;omega
  ·tm_at"c"
   exact⟨_,Le.tl (.refl _),q x (hL x hx)⟩
end
noncomputable def hvA(p:Wi)(f:Nat)(r:Int×Int)(a:Int):Wi:=p.take f++(r.1,a)::p.drop (f+1)
noncomputable def hvB(p:Wi)(f:Nat)(r:Int×Int)(a:Int):Wi:=p.take f++(a+1,r.2)::p.drop (f+1)
def yw{p:Wi}{f:Nat}{r:Int×Int}(h:p[f]?=some r):p=p.take f++r::p.drop (f+1):=by
 obtain⟨hf,e⟩:=j_.mp h
 conv=>lhs;rw[←Oq f p,OI hf,e]
def Lt(p:Wi)(l:List Int):Prop:=l.length=p.length/\hasB p l=true
def yW{a b:Wi}{l:List Int}:Lt (a++b) l↔∃x y,l=x++y/\Lt a x/\Lt b y:=by
 unfold Lt;constructor
 ·rintro⟨h1,h2⟩;rw[g_] at h1;refine⟨l.take a.length,l.drop a.length,(Oq ..).symm,?_⟩;have e:(l.take a.length).length=a.length:=by rw[M8];omega
  have h3:=h2;rw[←Oq a.length l] at h3;unfold hasB at h3 ⊢;rw[List.zip_append e,List.all_append,k_] at h3;exact⟨⟨e,h3.1⟩,by rw[Nd];omega,h3.2⟩
 ·rintro⟨x,y,rfl,⟨h1,h2⟩,h3,h4⟩;refine⟨by rw[g_,g_,h1,h3],?_⟩;unfold hasB at *;rw[List.zip_append h1,List.all_append,h2,h4];rfl
def rm{r:Int×Int}{b:Wi}{l:List Int}:Lt (r::b) l↔∃n y,l=n::y/\(r.1<=n/\n<=r.2)/\Lt b y:=by
 unfold Lt hasB;cases l with
 | nil=>simp
 | cons n y =>
  rw[On,Nw];simp only[G_,k_,decide_eq_true_eq,PX,Nat.succ.injEq,Nat.add_right_cancel_iff];constructor
  ·rintro⟨h1,h2,h3⟩;exact⟨n,y,⟨rfl,rfl⟩,h2,h1,h3⟩
  ·rintro⟨_,_,⟨rfl,rfl⟩,h2,h1,h3⟩;exact⟨h1,h2,h3⟩
def AllIn(ws:List Wi)(p:Wi):Prop:=∀l,Lt p l->∃w∈ws,hasB w l=true
def FX{ws:List Wi}{p:Wi}{f:Nat}{r:Int×Int}{a:Int}(h:p[f]?=some r)(h1:r.1<=a)(h2:a < r.2):AllIn ws p↔AllIn ws (hvA p f r a)/\AllIn ws (hvB p f r a):=by
 have key:∀l,Lt p l↔Lt (hvA p f r a) l\/Lt (hvB p f r a) l:=λl=>by
  unfold hvA hvB
  conv=>lhs;rw[yw h]
  simp only[yW,rm];constructor
  ·rintro⟨x,_,rfl,hx,n,z,rfl,hn,hz⟩;by_cases c:n<=a
   ·exact .inl ⟨x,_,rfl,hx,n,z,rfl,⟨hn.1,c⟩,hz⟩
   ·exact .inr ⟨x,_,rfl,hx,n,z,rfl,⟨⋯,hn.2⟩,hz⟩
  ·rintro(⟨x,_,rfl,hx,n,z,rfl,hn,hz⟩ | ⟨x,_,rfl,hx,n,z,rfl,hn,hz⟩)
   ·exact⟨x,_,rfl,hx,n,z,rfl,⟨hn.1,by have:=hn.2;omega⟩,hz⟩
   ·exact⟨x,_,rfl,hx,n,z,rfl,⟨by have:=hn.1;omega,hn.2⟩,hz⟩
 constructor
 ·exact λh=>⟨λl hl=>h l ((key l).mpr (.inl hl)),λl hl=>h l ((key l).mpr (.inr hl))⟩
 ·exact λh l hl=>((key l).mp hl).elim (h.1 l) (h.2 l)
noncomputable def sizeP(p:Wi):Nat:=(p.map λq=>(q.2 - q.1).toNat).sum
def JG{p:Wi}{f:Nat}{r:Int×Int}{a:Int}(h:p[f]?=some r)(h1:r.1<=a)(h2:a < r.2):sizeP (hvA p f r a) < sizeP p/\sizeP (hvB p f r a) < sizeP p:=by
 have e:sizeP p=sizeP (p.take f++r::p.drop (f+1)):=by rw[←yw h]
 rw[e];unfold sizeP hvA hvB;simp only[o_,I_,List.sum_append,List.sum_cons];omega
def GG{p:Wi}{f k:Nat}{r:Int×Int}{a:Int}(w:WiOk k p)(h:p[f]?=some r)(h1:r.1<=a)(h2:a < r.2):WiOk k (hvA p f r a)/\WiOk k (hvB p f r a):=by
 have hr:=w.all r (NC h);have hf:=(j_.mp h).1;have:=w.len;have:=hr.lo;have:=hr.hi
 have mem:∀x y,PrOk x->y∈p.take f++x::p.drop (f+1)->PrOk y:=λx y hx hy=>by
  rcases L_.mp hy with hy | hy
  ·exact w.all y (PF hy)
  ·rcases x_.mp hy with rfl | hy
   ·exact hx
   ·exact w.all y (PL hy)
 refine⟨⟨?_,λy hy=>mem (r.1,a) y ⟨hr.lo,h1,by dsimp only;omega⟩ hy⟩,⟨?_,λy hy=>mem (a+1,r.2) y ⟨by dsimp only;omega,by dsimp only;omega,hr.hi⟩ hy⟩⟩
 ·unfold hvA;rw[g_,M8,G_,Nd];omega
 ·unfold hvB;rw[g_,M8,G_,Nd];omega
theorem xG:∀{w p:Wi}{l:List Int},w.length=p.length->apB w p=true->Lt p l->hasB w l=false
 | [],[],_,_,h,_=>by cases h
 | v::w,r::p,l,e,h,hl=>by
  obtain⟨n,y,rfl,hn,hy⟩:=rm.mp hl;unfold apB at h;rw[On,OL,Bool.or_eq_true] at h;unfold hasB;rw[On,Nw,Ph]
  rcases h with h | h
  ·left;have h:=of_decide_eq_true h;rw[Ph,decide_eq_false_iff_not,decide_eq_false_iff_not];dsimp only at h ⊢;omega
  ·exact .inr (xG (by simpa using e) h hy)
theorem yn:∀{w p:Wi}{l:List Int},w.length=p.length->covB w p=true->Lt p l->hasB w l=true
 | [],[],l,_,_,_=>by cases l<;>rfl
 | v::w,r::p,l,e,h,hl=>by
  obtain⟨n,y,rfl,hn,hy⟩:=rm.mp hl;unfold covB at h;rw[On,Nw,k_,k_,decide_eq_true_eq,decide_eq_true_eq] at h;unfold hasB;rw[On,Nw,k_,k_,decide_eq_true_eq,decide_eq_true_eq];exact⟨by dsimp only at *;omega,yn (by simpa using e) h.2 hy⟩
theorem yf:∀{p:Wi},(∀r∈p,r.1<=r.2)->∃l,Lt p l
 | [],_=>⟨[],rfl,rfl⟩
 | r::p,h=>by
  obtain⟨l,hl⟩:=yf λx hx=>h x (n_ _ hx)
  exact⟨r.1::l,rm.mpr ⟨_,_,rfl,⟨PM _,h r p_⟩,hl⟩⟩
def Gn{ws:List Wi}{p:Wi}{x:Int×Int}(hw:∀w∈ws,w.length=p.length/\apB w p=false)(b:Bd ws p x):∃(f:Nat) (r:Int×Int),p[f]?=some r/\x.1=f/\r.1<=x.2/\x.2 < r.2:=by
 obtain⟨g,w,r,v,h1,h2,h3,h4,h5⟩:=b;refine⟨g,r,h2,h4,?_⟩;have hz:(w.zip p)[g]?=some (v,r):=NS.mpr ⟨h3,h2⟩;have:=(hw w h1).2;unfold apB at this;rw[Rh] at this;have:=this _ (NC hz);simp only[decide_eq_true_eq] at this;omega
def G5{ws:List Wi}{p:Wi}(hw:∀w∈ws,w.length=p.length)(ne:ws≠[])(no:∀w∈ws,covB w p=false):∃x,Bd ws p x:=by
 obtain⟨w,hm⟩:=List.exists_mem_of_ne_nil ws ne;have:=no w hm;unfold covB at this;rw[SU] at this;obtain⟨⟨v,r⟩,hq,hn⟩:=this;obtain⟨g,hg⟩:=Pn.mp hq;obtain⟨h3,h2⟩:=NS.mp hg;simp only[k_,decide_eq_true_eq] at hn;by_cases c:r.1 < v.1
 ·exact⟨(g,v.1 - 1),g,w,r,v,hm,h2,h3,rfl,.inl ⟨c,rfl⟩⟩
 ·exact⟨(g,v.2),g,w,r,v,hm,h2,h3,rfl,.inr ⟨⋯,rfl⟩⟩
noncomputable abbrev nsO(ks:List Nat):Ob:=.lst ((ks.map λk:Nat=>D.int k).map .d)
section
variable{Q:E->Mp->Prop}{m f:Nat}{ws:List Wi}{p:Wi}
def Ju{r:Int×Int}{a:Int}(hf:p[f]?=some r)(hp:p.length<=3)(q:Q (.d (.tup [wD (hvA p f r a),wD (hvB p f r a)])) M):wF (xq [.d (wD p),.d (.int f),.d (.int a)]) M Q:=by
 have hl:=(j_.mp hf).1;have cH:=qJ (f:=prD) (k:=(f:Int)) (w:=p) ⋯ (by rw[MC];exact hf);have hm:(p.map prD).length=p.length:=c_ _
 walk_at "d"
 exists xO ⟨⋯,⋯⟩ ?_
 exists B7 ⟨⋯,⋯⟩ ?_
 exists pB rfl cH ?_
 exists pB rfl cH ?_
 exists qw (by rw[M8];show _<=1000000;simp;omega) ?_
 exists qw (by rw[g_,M8,Nd];show _<=1000000;simp;omega) ?_
 exists qw (by rw[M8];show _<=1000000;simp;omega) ?_
 exists qw (by rw[g_,M8,Nd];show _<=1000000;simp;omega) ?_
 refine⟨_,.refl _,?_⟩
 have e:∀x,wD (p.take f++x::p.drop (f+1))=.tup (List.take (f:Int).toNat (p.map prD)++[prD x]++List.drop ((f:Int)+1).toNat (p.map prD)):=λx=>by
  rw[wD,o_,I_,PK,PJ,MF,show((f:Int)+1).toNat=f+1 by omega,MC];rfl
 unfold hvA hvB at q;rw[e,e] at q;exact q
noncomputable def pickW(ws:List Wi)(ks:List Nat):List Wi:=ks.map λk=>ws.getD k []
def xh{k:Nat}(h:k < ws.length):atI ((ws.map wD).map E.d) (k:Int)=some (.d (wD (ws.getD k []))):=qJ ⋯ (by rw[MC,C_,i_ h];rfl)
theorem vM:∀(fu:Nat){M:Mp}{Q:E->Mp->Prop}{m:Nat}{p:Wi}{ks:List Nat},(n,wsO ws)∈M->(m,nsO ks)∈M->(∀w∈ws,w.length=f)->ws.length<=1000->(∀k∈ks,k < ws.length)->ks.length<=1000->WiOk f p->0 < f/\f<=3->sizeP p < fu →
  (∀x s,(s=true↔AllIn (pickW ws ks) p)->Q (.d (.tup [.str (if s then "in" else "out"),x])) M)->wF (rC fu [.ref n,.ref m,.d (wD p)]) M Q
 | 0,_,_,_,_,_,_,_,_,_,_,_,_,_,h,_=>absurd h (Ov _)
 | fu+1,M,Q,m,p,ks,hn,hm,hw,hl,hk,hkl,ok,hf,hs,q=>by
  have au:∀k∈ks,(ws.getD k []).length=p.length:=λk h=>by
   rw[ok.len,C_,i_ (hk k h)];exact hw _ (Nf _)
  have dN:p.length<=3:=by rw[ok.len];exact hf.2
  rw[rC]
  walk_at "d"
  refine o6 (m:=1) (xs:=ks) (g:=λk:Nat=>.d (.int k)) (own:=λk:Nat=>[some (.d (.int k))]) (λk=>!apB (ws.getD k []) p) (λk:Nat=>.d (.int k)) (oW ?_) ⋯ own1 (λ_ _=>rfl) (λk bX N l=>?_) (λk bX _ N l=>?_) λm2=>?_
  ·tm_at"c"
   exact⟨⟨_,oJ ‹m›⟩,rfl,pd ‹m›,.refl _⟩
  ·tm_at"c"
   exists oT (l.mem hn) (xh (hk k bX)) ?_
   exists EK (au k bX) ⋯ λx hx=>?_
   exists pF ?_
   exact⟨by rw[if_pos rfl,hx],.refl _⟩
  ·tm_at"c"
   exact⟨rfl,.refl _⟩
  obtain⟨ns,gp⟩:∃ns,ns=ks.filter λk=>!apB (ws.getD k []) p:=⟨_,rfl⟩
  have bu:∀k∈ns,k∈ks/\apB (ws.getD k []) p=false:=λk h=>by rw[gp,z_] at h;simpa using h
  have gm:ns.length<=1000:=by rw[gp];exact A_ (MB _ _) hkl
  have same:∀p',(∀l,Lt p' l->Lt p l)->(AllIn (pickW ws ns) p'↔AllIn (pickW ws ks) p'):=λp' hp=>by
   refine⟨λh l hl=>?_,λh l hl=>?_⟩<;>obtain⟨w,h1,h2⟩:=h l hl<;>obtain⟨k,h3,rfl⟩:=F_.mp h1
   ·exact⟨_,F_.mpr ⟨k,(bu k h3).1,rfl⟩,h2⟩
   ·refine⟨_,F_.mpr ⟨k,?_,rfl⟩,h2⟩;rw[gp,z_];refine⟨h3,?_⟩;cases e:apB (ws.getD k []) p with
    | false=>rfl
    | true=>rw[xG (au k h3) e (hp l hl)] at h2;cases h2
  rw[←gp,show(ns.map λk:Nat=>E.d (.int k))=(ns.map λk:Nat=>D.int k).map .d by rw[w_];rfl]
  tm_at"c"
  refine oZ (λh=>?_) (λh=>?_)
  ·obtain rfl:ns=[]:=by simpa using h
   tm_at"c"
   refine o6 (m:=1) (xs:=p) (g:=λq=>.d (prD q)) (own:=λq=>[some (.d (prD q))]) (λ_=>true) (λq=>.d (.int q.1)) (oW ?_) ⋯ own1 (λ_ _=>rfl) (λ_ _ N l=>oU ⟨rfl,.refl _⟩) (λk bX _ N l=>?_) λm3=>?_
   ·tm_at"c"
    exact⟨⟨_,o5 rfl⟩,rfl,(by have e:=o5 (M:=(m2,nsO [])::M) (e:=.d (wD p)) rfl;rw[w_] at e;exact e),.refl _⟩
   ·tm_at"c"
    exact⟨rfl,.refl _⟩
   ·tm_at"c"
    rw[show((p.filter λ_=>true).map λq=>E.d (.int q.1))=(p.map λq=>D.int q.1).map .d by rw[w_,No.mpr λ_ _=>rfl];rfl]
    exists ⟨_,_,rfl,by rw[qA],?_⟩
    refine⟨_,Le.tl (Le.tl (.refl _)),q _ false ⟨(by intro z;cases z),λz=>?_⟩⟩;obtain⟨l,hl⟩:=yf λr hr=>(ok.all r hr).le
    obtain⟨w,h1,_⟩:=(same p λ_ h=>h).mpr z l hl;cases h1
  tm_at"c"
  have cn:ns≠[]:=λz=>by rw[z] at h;cases h
  refine pf (lk:=none) (xs:=ns) (g:=λk:Nat=>.d (.int k)) (λdone ν N=>(∃x,ν=[some (.ref n),some (.ref m),some (.d (wD p)),x,some (.ref m2),none,none,none,none])/\N=(m2,nsO ns)::M/\∀k∈done,covB (ws.getD k []) p=false) (oW ?_) ⋯ ?_ ?_
  ·tm_at"c"
   exact⟨⟨_,oJ ‹m›⟩,rfl,λ_ _ _ ⟨_,h,_⟩=>by rw[h];exact pd ‹m›,⟨_,rfl⟩,rfl,by simp⟩
  ·rintro done k ad _ _ e ⟨⟨x,rfl⟩,rfl,hd⟩;have mH:k∈ns:=by rw[e];simp
   have gq:=(bu k mH).1
   exists ⟨_,pi ‹p›,?_⟩
   exists oT (oC hn) (xh (hk k gq)) ?_
   exists y3 (au k gq) ⋯ ?_
   refine oZ (λh=>?_) (λh=>?_)
   ·tm_at"c"
    refine⟨_,Le.tl (.refl _),q _ true ⟨λ_ l hl=>⟨_,F_.mpr ⟨k,gq,rfl⟩,yn (au k gq) h hl⟩,λ_=>rfl⟩⟩
   ·tm_at"c"
    refine⟨⟨_,rfl⟩,rfl,λx hx=>?_⟩
    rcases L_.mp hx with hx | hx
    ·exact hd x hx
    ·rw[m_.mp hx];exact h
  rintro _ _ ⟨⟨x,rfl⟩,rfl,ck⟩
  exists pc ?_
  refine o6 (m:=1) (xs:=ns) (g:=λk:Nat=>.d (.int k)) (own:=λk:Nat=>[some (.d (.int k))]) (λ_=>true) (λk:Nat=>.d (wD (ws.getD k []))) (oW ?_) ⋯ own1 (λ_ _=>rfl) (λk bX N l=>oU ⟨rfl,.refl _⟩) (λk bX _ N l=>?_) λm3=>?_
  ·tm_at"c"
   exact⟨⟨_,oJ ‹m›⟩,rfl,pd ‹m›,.refl _⟩
  ·tm_at"c"
   exact oT (l.mem (oC hn)) (xh (hk k (bu k bX).1)) ⟨rfl,.refl _⟩
  rw[show((ns.filter λ_=>true).map λk=>E.d (wD (ws.getD k [])))=((pickW ws ns).map wD).map .d by rw[w_,pickW,w_,No.mpr λ_ _=>rfl];rfl]
  have fz:∀w∈pickW ws ns,w.length=p.length/\apB w p=false/\covB w p=false:=λw hw=>by
   obtain⟨k,h1,rfl⟩:=F_.mp hw;exact⟨au k (bu k h1).1,(bu k h1).2,ck k h1⟩
  tm_at"c"
  refine Hn (λw hw=>(fz w hw).1) dN (by unfold pickW;rw[c_];exact gm) oF (G5 (λw hw=>(fz w hw).1) (by unfold pickW;exact λz=>cn (R5.mp z)) λw hw=>(fz w hw).2.2) λx hx=>?_
  obtain⟨g,r,hg,mI,ha,hb⟩:=Gn (λw hw=>⟨(fz w hw).1,(fz w hw).2.1⟩) hx;obtain⟨mJ,mK⟩:=GG ok hg ha hb;obtain⟨oe,og⟩:=JG hg ha hb;have fU:=λws=>FX (ws:=ws) hg ha hb
  have dO:=(same p λ_ h=>h).symm.trans (fU _)
  tm_at"c"
  rw[mI]
  exists Ju hg dN ?_
  have cL:∀k∈ns,k < ws.length:=λk h=>hk k (bu k h).1
  exists vM fu ‹m› ‹m› hw hl cL gm mJ hf ⋯ λy s hs=>?_
  cases s with
  | false =>
   exists pe rfl ?_
   exact⟨_,Le.tl (Le.tl (.refl _)),q y false (hs.trans ⟨λz=>absurd (hs.mpr z) q_,λz=>(dO.mp z).1⟩)⟩
  | true =>
   exists oH rfl ?_
   exists vM fu ‹m› ‹m› hw hl cL gm mK hf ⋯ λy2 s aH=>?_
   cases s with
   | false =>
    exists pe rfl ?_
    exact⟨_,Le.tl (Le.tl (.refl _)),q y2 false (aH.trans ⟨λz=>absurd (aH.mpr z) q_,λz=>(dO.mp z).2⟩)⟩
   | true =>
    exists oH rfl ?_
    exact⟨_,Le.tl (Le.tl (.refl _)),q _ true ⟨λ_=>dO.mpr ⟨hs.mp rfl,aH.mp rfl⟩,λ_=>rfl⟩⟩
def Ik{p:Wi}(ok:WiOk f p):sizeP p<=9*f:=by
 rw[←ok.len];have h:=ok.all;clear ok
 induction p with
 | nil=>simp[sizeP]
 | cons r p ih =>
  have:=ih λx hx=>h x (n_ _ hx)
  have hr:=h r p_;have:=hr.lo;have:=hr.hi;unfold sizeP at *;rw[I_,List.sum_cons,G_];omega
def Iy(hn:(n,wsO ws)∈M)(hw:∀w∈ws,w.length=f)(hl:ws.length<=900)(ok:WiOk f p)(hf:0 < f/\f<=3)(q:∀x s,(s=true↔AllIn ws p)->Q (.d (.tup [.str (if s then "in" else "out"),x])) M):wF (vW [.ref n,.d (wD p)]) M Q:=by
 walk_at "d"
 exists sn ‹m› ‹m› (by rw[c_,c_];show _<=1000000;simp;omega) λm=>?_
 exists wF.le (tu (ds:=(p::ws).map wD) (f:=f) (oJ ‹m›) (uG (ws:=p::ws) (by simpa[ok.len] using hw)) (by rw[c_,G_];omega) ⟨M,Le.tl (Le.tl (.refl _)),?_⟩)
 exists K9 ?_
 refine⟨by rw[c_,c_];omega,λm=>?_⟩;rw[c_,c_,MC]
 have er:rngL 0 ws.length=((MO ws.length).map λk:Nat=>D.int k).map .d:=by
  rw[w_];exact ME λk _=>by rw[Int.zero_add];rfl
 rw[er]
 tm_at"c"
 refine vM 40 ‹m› ‹m› hw ⋯ (λk h=>MG.mp h) (by rw[MD];omega) ok hf (by have:=Ik ok;omega) λx s hs=>?_
 have:pickW ws (MO ws.length)=ws:=by
  refine Pz (by simp[pickW]) λi h1 h2=>?_
  simp[pickW,h2]
 rw[this] at hs;exact⟨_,Le.tl (.refl _),q x s hs⟩
end
open Classical in
noncomputable def spStep(stay:List Wi)(w:Wi):List Wi:=if AllIn (stay.filter (· != w)) w then stay.filter (· != w) else stay
def spareL(R:List Wi):List Wi:=R.foldl spStep R
def L7(stay:List Wi)(w:Wi):(spStep stay w).Sublist stay:=by
 unfold spStep;split
 ·exact Oy
 ·exact refl _
theorem u9:∀(ps stay:List Wi),(ps.foldl spStep stay).Sublist stay
 | [],stay=>refl _
 | p::ps,stay=>(u9 ps _).trans (L7 stay p)
def IsShort(how:Str)(ws R:List Wi):Prop:=∃R0,IsRoof ws R0/\R=if how = "spare" then spareL R0 else R0
section
variable{Q:E->Mp->Prop}{f:Nat}{ws P:List Wi}{w:Wi}{how:Str}
def KA{M:Mp}{Q:E->Mp->Prop}{a b:Wi}(q:Q (.d (.bl (a != b))) M):wF (eqE true (.d (wD a)) (.d (wD b))) M Q:=pk rd_d rd_d (.inl (A_ (qM _) (by decide))) (by rw[if_pos rfl,tM];exact q)
def vI{ws R:List Wi}(r:IsRoof ws R)(hw:∀w∈ws,w∈P):∀w∈R,w∈P:=λw h=>hw w ((r.mem w).mp h).1
def Ao{ws R:List Wi}(p:Po P f)(r:IsRoof ws R)(hw:∀w∈ws,w∈P):R.length<=18:=A_ (o8 R P r.nd (vI r hw)) p.len
inductive K6(n m:Nat)(R:List Wi)(M:Mp)(done:List Wi)(ν:Nms)(N:Mp):Prop | mk (k:Nat) (x y:Option E):ν=[some (.ref n),some (.ref m),some (.ref k),x,y]->Le ((k,wsO (done.foldl spStep R))::M) N->(m,wsO R)∈N->K6 n m R M done ν N
def ID(p:Po P f)(hw:∀w∈ws,w∈P)(hl:ws.length<=1000)(hm:(n,wsO ws)∈M)(q:∀R m,IsRoof ws R->Q (.ref m) ((m,wsO (spareL R))::M)):wF (wm [.ref n]) M Q:=by
 walk_at "d"
 refine B0 p hw hl hm λR m r=>?_
 have mL:=Ao p r hw;have hR:=vI r hw
 tm_at"c"
 refine pf (lk:=none) (xs:=R) (g:=λw=>.d (wD w)) (K6 n m R M) (oW ?_) ⋯ ?_ ?_
 ·tm_at"c"
  exact⟨⟨_,oJ ‹m›⟩,rfl,λ_ _ _ ⟨_,_,_,_,_,h⟩=>pd h,m,_,_,rfl,.refl _,oF⟩
 ·rintro done w ad _ N e ⟨k,x,y,rfl,l,jX⟩;obtain⟨st,jY⟩:∃st,st=done.foldl spStep R:=⟨_,rfl⟩;have cB:=u9 done R;rw[←jY] at l cB;have sl:=cB.length_le;have mM:w∈R:=by rw[e];simp
  exists ⟨_,pi ‹p›,?_⟩
  refine o6 (m:=1) (xs:=st) (g:=λw=>.d (wD w)) (own:=λw=>[some (.d (wD w))]) (λu=>u != w) (λu=>.d (wD u)) (oW ?_) ⋯ own1 (λ_ _=>rfl) (λu hu N l=>?_) (λu hu _ N l=>?_) λj=>?_
  ·tm_at"c"
   exact⟨⟨_,oJ (l.mem oF)⟩,rfl,pd (l.mem oF),.refl _⟩
  ·tm_at"c"
   exists KA ?_
   exact⟨rfl,.refl _⟩
  ·tm_at"c"
   exact⟨rfl,.refl _⟩
  rw[show((st.filter λu=>u != w).map λu=>E.d (wD u))=((st.filter λu=>u != w).map wD).map .d by rw[w_];rfl]
  tm_at"c"
  exists Iy (f:=f) oF (λu hu=>(p.all u (hR u (cB.subset (z_.mp hu).1))).len) (by have:=MB (λu=>u != w) st;omega) (p.all w (hR w mM)) p.f1 λz s hs=>?_
  have ef:∀v,v=spStep st w->v=(done++[w]).foldl spStep R:=λv h=>by rw[QE,←jY,h];rfl
  have lt:=(Le.tl (.refl M)).trans l;cases s with
  | true =>
   exists pe rfl ?_
   refine⟨_,_,_,rfl,?_,oC jX⟩;rw[←ef (st.filter (· != w)) (by rw[spStep,if_pos (hs.mp rfl)])];exact lt.hd
  | false =>
   exists oH rfl ?_
   refine⟨_,_,_,rfl,?_,oC jX⟩;rw[←ef st (by rw[spStep,if_neg λz=>absurd (hs.mpr z) q_])];exact l.tl
 ·rintro _ _ ⟨k,x,y,rfl,l,_⟩
  exists pc ?_
  exact⟨_,l,q R k r⟩
def Ho(p:Po P f)(hw:∀w∈ws,w∈P)(hl:ws.length<=1000)(hm:(n,wsO ws)∈M)(q:∀R m,IsShort how ws R->Q (.ref m) ((m,wsO R)::M)):wF (vV [.d (.str how),.ref n]) M Q:=by
 walk_at "d"
 refine oZ (λh=>?_) (λh=>?_)
 ·tm_at"c"
  exists ID p hw hl hm λR m r=>?_
  exact⟨_,.refl _,q _ m ⟨R,r,by rw[if_pos (beq_iff_eq.mp h)]⟩⟩
 ·tm_at"c"
  exists B0 p hw hl hm λR m r=>?_
  exact⟨_,.refl _,q _ m ⟨R,r,by rw[if_neg (beq_eq_false_iff_ne.mp h)]⟩⟩
end
noncomputable abbrev lD(l:List Int):D:=.tup (l.map .int)
abbrev lsO(ls:List (List Int)):Ob:=.lst ((ls.map lD).map .d)
section
variable{Q:E->Mp->Prop}{f:Nat}{ws P:List Wi}{w:Wi}{how:Str}
inductive A7(w:Wi)(M:Mp)(done:Wi)(ν:Nms)(N:Mp):Prop | mk (k:Nat) (a b c d:Option E) (ls:List (List Int)):ν=[some (.d (wD w)),some (.ref k),a,b,c,d]->Le ((k,lsO ls)::M) N->(∀l,l∈ls↔Lt done l)->ls.length<=10 ^ done.length->A7 w M done ν N
inductive C7(w:Wi)(k j:Nat)(r:Int×Int)(N:Mp)(dn:List (List Int))(ν:Nms)(N2:Mp):Prop | mk (d:Option E) (ac:List (List Int)):ν=[some (.d (wD w)),some (.ref k),some (.d (.int r.1)),some (.d (.int r.2)),some (.ref j),d]->N2=(j,lsO ac)::N->(∀x,x∈ac↔∃l∈dn,∃n,(r.1<=n/\n<=r.2)/\x=l++[n])->ac.length<=10*dn.length->C7 w k j r N dn ν N2
def GH(ok:WiOk f w)(hf:f<=3)(q:∀ls m,(∀l,l∈ls↔Lt w l)->ls.length<=1000->Q (.ref m) ((m,lsO ls)::M)):wF (vq [.d (wD w)]) M Q:=by
 have hw:=ok.len
 walk_at "d"
 refine pf (lk:=none) (xs:=w) (g:=λr=>.d (.tup [.int r.1,.int r.2])) (A7 w M) (oW ?_) ⋯ ?_ ?_
 ·tm_at"c"
  refine⟨⟨_,o5 rfl⟩,rfl,λ_ _ N _=>(by have e:=o5 (M:=N) (e:=.d (wD w)) rfl;rw[w_] at e;exact e),_,_,_,_,_,[[]],rfl,.refl _,λl=>?_,s_ _⟩;unfold Lt;cases l<;>simp[hasB]
 ·rintro done r ad _ N e ⟨k,a,b,c,d,ls,rfl,l,c9,hn⟩;have hr:=ok.all r (by rw[e];simp);have:=hr.lo;have:=hr.hi;have:=hr.le;have oh:done.length < 3:=by have:=congrArg length e;rw[g_,G_] at this;omega
  have mN:ls.length<=100:=A_ hn (RQ (by decide) (by omega:done.length<=2))
  exists ⟨_,rb (x:=.d (.int r.1)) (y:=.d (.int r.2)) rfl ‹p› ‹p›,?_⟩
  rename_i j;refine pf (lk:=none) (xs:=ls) (g:=λl=>.d (lD l)) (C7 w k j r N) (oW ?_) ⋯ ?_ ?_
  ·tm_at"c"
   exact⟨⟨_,oJ (oC (l.mem oF))⟩,rfl,λ_ _ _ ⟨_,_,_,h,_,_⟩=>by rw[h];exact pd (oC (l.mem oF)),_,[],rfl,rfl,by simp,Mu _⟩
  ·rintro dn x rs _ _ e2 ⟨d,ac,rfl,rfl,bh,mO⟩;have oj:dn.length < ls.length:=by rw[e2,g_,G_];omega
   exists ⟨_,pi ‹p›,wS.le ?_⟩
   refine o6 (m:=1) (xs:=MO (r.2+1 - r.1).toNat) (g:=λi:Nat=>.d (.int (r.1+i))) (own:=λi:Nat=>[some (.d (.int (r.1+i)))]) (λ_=>true) (λi:Nat=>.d (lD (x++[r.1+i]))) (Hk ?_) (by rw[MD];omega) own1 (λ_ _=>rfl) (λ_ _ N l=>oU ⟨rfl,.refl _⟩) (λi hi _ N l=>?_) λm3=>?_
   ·tm_at"c"
    exact⟨_,_,rfl,⟨⋯,⋯⟩,rfl,qv,.refl _⟩
   ·tm_at"c"
    have hx:=((c9 x).mp (by rw[e2];simp)).1;refine qw (by rw[c_];show _<=1000000;simp;omega) ⟨by rw[lD,o_];rfl,.refl _⟩
   ·tm_at"c"
    have fY:∀z,z∈((MO (r.2+1 - r.1).toNat).map λi:Nat=>x++[r.1+i])↔∃n,(r.1<=n/\n<=r.2)/\z=x++[n]:=λz=>by
     rw[F_];constructor
     ·rintro⟨i,hi,rfl⟩;have:=MG.mp hi;exact⟨_,⟨⋯,⋯⟩,rfl⟩
     ·rintro⟨n,hn,rfl⟩;exact⟨(n - r.1).toNat,MG.mpr ⋯,by rw[show r.1+((n - r.1).toNat:Int)=n by omega]⟩
    have mP:((MO (r.2+1 - r.1).toNat).map λi:Nat=>x++[r.1+i]).length<=10:=by rw[c_,MD];omega
    rw[show(((MO (r.2+1 - r.1).toNat).filter λ_=>true).map λi:Nat=>E.d (lD (x++[r.1+i])))=(((MO (r.2+1 - r.1).toNat).map λi:Nat=>x++[r.1+i]).map lD).map .d by rw[w_,w_,No.mpr λ_ _=>rfl];rfl];generalize ((MO (r.2+1 - r.1).toNat).map λi:Nat=>x++[r.1+i])=ys at fY mP ⊢;refine sA (oC oF) oF (by rw[c_,c_,c_,c_];show _<=1000000;omega) (.tl .hd) ⟨_,Le.tl (.refl _),qy ⟨_,ac++ys,rfl,by rw[lsO,o_,o_],λz=>?_,by rw[g_,g_,Ms];omega⟩⟩;rw[L_,bh,fY];constructor
    ·rintro(⟨l,h1,h2⟩ | h)
     ·exact⟨l,Np _ h1,h2⟩
     ·exact⟨x,by simp,h⟩
    ·rintro⟨l,h1,h2⟩
     rcases L_.mp h1 with h1 | h1
     ·exact .inl ⟨l,h1,h2⟩
     ·rw[m_.mp h1] at h2;exact .inr h2
  ·rintro _ _ ⟨d,ac,rfl,rfl,bh,mO⟩
   exists pc ?_
   refine⟨_,_,_,_,_,ac,rfl,((Le.tl (.refl M)).trans l).hd,λz=>?_,?_⟩
   ·rw[bh,yW];constructor
    ·rintro⟨l,h1,n,h2,rfl⟩;exact⟨l,[n],rfl,(c9 l).mp h1,rm.mpr ⟨n,[],rfl,h2,rfl,rfl⟩⟩
    ·rintro⟨l,y,rfl,h1,h2⟩;obtain⟨n,y',rfl,h3,h4⟩:=rm.mp h2;obtain rfl:y'=[]:=Nu.mp h4.1;exact⟨l,(c9 l).mpr h1,n,h3,rfl⟩
   ·rw[g_,Ms,Nat.pow_succ];omega
 ·rintro _ _ ⟨k,a,b,c,d,ls,rfl,l,c9,hn⟩
  exists pc ?_
  exact⟨_,l,q ls k c9 (A_ hn (RQ (by decide) (by omega:w.length<=3)))⟩
def HI(hm:(n,wsO ws)∈M)(hl:ws.length<=1000)(ok:WiOk f w)(hf:f<=3)(q:∀b:Bool,(b=true↔AllIn ws w)->Q (.d (.bl b)) M):wF (wN [.ref n,.d (wD w)]) M Q:=by
 refine ue ?_
 exists s_sq (qR (oW ?_))
 exists GH ok hf λls m c9 hn=>?_
 refine⟨⟨_,oJ ‹m›⟩,?_⟩;refine pf (lk:=none) (xs:=ls) (g:=λl=>.d (lD l)) (λdone ν N=>(∃x,ν=[some (.ref n),some (.d (wD w)),x])/\N=(m,lsO ls)::M/\∀l∈done,∃u∈ws,hasB u l=true) (oU ⟨rfl,λ_ _ _ ⟨_,h,_⟩=>by rw[h];exact pd oF,⟨_,rfl⟩,rfl,by simp⟩) ⋯ ?_ ?_
 ·rintro done l ad _ _ e ⟨⟨x,rfl⟩,rfl,hd⟩;have gg:l∈ls:=by rw[e];simp
  have dM:=(c9 l).mp gg
  exists ⟨_,pi ‹p›,wS.le ?_⟩
  refine o6 (m:=1) (xs:=ws) (g:=λu=>.d (wD u)) (own:=λu=>[some (.d (wD u))]) (λu=>hasB u l) (λ_=>.d (.int 1)) (oW ?_) ⋯ own1 (λ_ _=>rfl) (λu hu N ln=>?_) (λ_ _ _ N ln=>rG ⟨rfl,.refl _⟩) λj=>?_
  ·tm_at"c"
   exact⟨⟨_,oJ (oC hm)⟩,rfl,pd (oC hm),.refl _⟩
  ·tm_at"c"
   exists yT (l:=l) (by have e:=o5 (M:=N) (e:=.d (lD l)) rfl;rw[w_] at e;exact e) (by rw[dM.1,ok.len];omega) ?_
   exact⟨rfl,.refl _⟩
  ·tm_at"c"
   exists pk (ph (ds:=(ws.filter λu=>hasB u l).map λ_=>D.int 1) (by rw[w_];walk_at "m")) (ph (ds:=[]) ‹m›) (.inr (by decide)) ?_
   rw[if_neg q_,ub,vt];refine oZ (λh=>?_) (λh=>?_)
   ·tm_at"c"
    refine⟨_,.refl _,xD ⟨_,Le.tl (Le.tl (Le.tl (.refl _))),q false ⟨(by intro z;cases z),λz=>?_⟩⟩⟩;obtain⟨u,h1,h2⟩:=z l dM;have:=H_.mp h u h1;rw[h2] at this;cases this
   ·tm_at"c"
    refine⟨_,Le.tl (Le.tl (.refl _)),qy ⟨⟨_,rfl⟩,rfl,λx hx=>?_⟩⟩
    rcases L_.mp hx with hx | hx
    ·exact hd x hx
    ·rw[m_.mp hx];obtain⟨u,h1,h2⟩:=SU.mp h;exact⟨u,h1,by simpa using h2⟩
 ·rintro _ _ ⟨⟨x,rfl⟩,rfl,hd⟩
  exists pc ?_
  exact⟨_,Le.tl (.refl _),q true ⟨λ_ l hl=>hd l ((c9 l).mpr hl),λ_=>rfl⟩⟩
def Gk(p:Po P f)(hw:∀w∈ws,w∈P)(hl:ws.length<=1000)(hm:(n,wsO ws)∈M)(q:∀R m,IsShort how ws R->Q (.ref m) ((m,wsO R)::M)):wF (wg [.d (.str how),.ref n]) M Q:=by
 walk_at "d"
 refine Kv p hw hl hm λR m r=>?_
 have mL:=Ao p r hw;have hR:=vI r hw
 tm_at"c"
 refine vN (λj ν N=>∃k x pre ad,ν=[some (.d (.str how)),some (.ref n),some (.ref k),some (.d (.int (pre:List Wi).length)),x]/\Le ((k,wsO (pre++ad))::M) N/\j=ad.length/\(pre++ad).Nodup/\(pre++ad).Sublist R/\ad.foldl spStep (pre++ad)=spareL R/\(how ≠ "spare"->pre++ad=R)) ?_ whN R.length ?_ _ _ ?_
 ·rintro j _ N ⟨k,x,pre,ad,rfl,l,rfl,nd,sub,hf,cn⟩;have hk:=l.mem oF;have sl:=sub.length_le
  tm_at"c"
  refine oZ (λh=>?_) (λh=>?_)
  ·tm_at"c"
   refine oZ (λh2=>?_) (λh2=>?_)
   ·have h2:=of_decide_eq_true h2
    rcases ad with _ | ⟨w,rs⟩
    ·simp at h2
    tm_at"c"
    refine w_sl (oJ hk) ⟨_,rfl⟩ λp1=>?_
    rw[yI,←PK,←PK,List.take_left];refine w_sl (oJ (oC hk)) ⟨_,rfl⟩ λp2=>?_
    rw[show((pre.length:Int)+1)=((pre.length+1:Nat):Int) by omega,zI,←PJ,←PJ,show(pre++w::rs).drop (pre.length+1)=rs by rw[QJ,List.drop_left' (by simp)]];rw[g_,G_] at sl;refine sn ‹m› ‹m› (by rw[c_,c_,c_,c_];show _<=1000000;omega) λp3=>?_
    rw[←o_,←o_]
    tm_at"c"
    exists oT (oC (oC (oC hk))) (qJ (p:=w) ⋯ (by rw[MC];simp)) ?_
    have hin:∀u∈pre++w::rs,u∈P:=λu hu=>hR u (sub.subset hu)
    have eo:(pre++w::rs).filter (· != w)=pre++rs:=by
     obtain⟨_,n2,n3⟩:=OH.mp nd;rw[MH] at n2;rw[Nn,QI,if_neg (by simp),No.mpr λu hu=>by simpa using n3 u hu w p_,No.mpr λu hu=>by simpa using λz:u=w=>n2.1 (z▸hu)]
    rw[So,spStep,eo] at hf;refine HI (f:=f) oF (by rw[g_];omega) (p.all w (hin w (by simp))) p.f1.2 λb hb=>?_
    have lt:=(Le.tl (.refl M)).trans l
    tm_at"c"
    refine oZ (λh3=>?_) (λh3=>?_)
    ·tm_at"c"
     refine⟨rs.length,Nb _,_,_,pre,rs,rfl,(lt.tl.tl).hd,rfl,?_,?_,?_,λz=>absurd (beq_iff_eq.mp h) z⟩
     ·rw[←eo];exact nd.filter _
     ·rw[←eo];exact Oy.trans sub
     ·rw[if_pos (hb.mp h3)] at hf;exact hf
    ·tm_at"c"
     refine⟨rs.length,Nb _,_,_,pre++[w],rs,by rw[g_];rfl,?_,rfl,?_,?_,?_,λz=>absurd (beq_iff_eq.mp h) z⟩
     ·rw[←QJ];exact l.tl.tl.tl
     ·rw[←QJ];exact nd
     ·rw[←QJ];exact sub
     ·rw[if_neg λz=>by rw[hb.mpr z] at h3;cases h3] at hf;rw[←QJ];exact hf
   ·tm_at"c"
    have h2:=of_decide_eq_false h2;rw[c_,c_,g_] at h2;obtain rfl:ad=[]:=Nu.mp ⋯;exact⟨_,l,q _ k ⟨R,r,by rw[if_pos (beq_iff_eq.mp h)];exact hf⟩⟩
  ·exists oH rfl ?_
   have h:=beq_eq_false_iff_ne.mp h;exact⟨_,l,q _ k ⟨R,r,by rw[if_neg h];exact cn h⟩⟩
 ·show R.length < 1000000;omega
 ·exact⟨m,_,[],R,rfl,.refl _,rfl,r.nd,refl _,rfl,λ_=>rfl⟩
end
def Ab(how:Str)(ws:List Wi):∃R,IsShort how ws R:=by
 obtain⟨us,e,mem,nd,hu⟩:=u7 ws;have up:=rn (dd (ws.map wD));rw[e] at up;exact⟨_,_,⟨up.sublist ((Oy (p:=λo=>!underB us o)).map _),nd.filter _,λw=>by rw[z_,mem,uO mem];simp⟩,rfl⟩
theorem IsShort.alone{how:Str}{ws vs R S:List Wi}(a:IsShort how ws R)(b:IsShort how vs S)(m:∀u,u∈vs↔u∈ws):R=S:=by
 obtain⟨R0,r,rfl⟩:=a;obtain⟨S0,s,rfl⟩:=b;rw[(r.congr m).alone s]
noncomputable def shortL(how:Str)(ws:List Wi):List Wi:=(Ab how ws).choose
def vS(how:Str)(ws:List Wi):IsShort how ws (shortL how ws):=(Ab how ws).choose_spec
def sx{how:Str}{ws:List Wi}:(∀w∈shortL how ws,w∈ws)/\(shortL how ws).Nodup/\((shortL how ws).map wD).Pairwise λa b=>leD a b=true:=by
 obtain⟨R0,r,e⟩:=vS how ws;rw[e];split
 ·have s:=u9 R0 R0;exact⟨λw h=>((r.mem w).mp (s.subset h)).1,r.nd.sublist s,r.up.sublist (s.map _)⟩
 ·exact⟨λw h=>((r.mem w).mp h).1,r.nd,r.up⟩
section
variable{β:Type}{L:List β}{key:β->D}{val:β->E}{l:β}
def rW(h:l∈L)(hk:kD tk (key l)=some q)(inj:∀x∈L,kD tk (key x)=some q->x=l):dget tk (L.map λx=>(key x,val x)) q=some (val l):=by
 induction L with
 | nil=>cases h
 | cons y L ih =>
  unfold dget at ih ⊢;rw[I_,OU];by_cases c:kD tk (key y)=some q
  ·rw[inj y p_ c,decide_eq_true hk];rfl
  ·rw[decide_eq_false c];refine ih ?_ λx hx=>inj x (n_ _ hx)
   rcases x_.mp h with rfl | h
   ·exact absurd hk c
   ·exact h
def G6{k:D}{e:E}(h:l∈L)(hk:kD tk (key l)=some q):dput tk (L.map λx=>(key x,val x)) k q e=L.map λx=>(key x,if kD tk (key x)=some q then e else val x):=by
 have z:((L.map λx=>(key x,val x)).any λp=>decide (kD tk p.1=some q))=true:=Oc.mpr ⟨_,F_.mpr ⟨l,h,rfl⟩,decide_eq_true hk⟩;unfold dput;rw[if_pos z,w_];refine ME λx _=>?_
 show(if kD tk (key x)=some q then(key x,e) else(key x,val x))=_;split<;>rfl
def tH{k:D}{e:E}(no:∀x∈L,kD tk (key x)≠some q):dput tk (L.map λx=>(key x,val x)) k q e=(L.map λx=>(key x,val x))++[(k,e)]:=by
 unfold dput;rw[if_neg];rw[SE,Bool.not_eq_true,Rh];intro x hx;simpa using no x hx
end
section
variable{β:Type}{xs:List β}{c c':β->Nat×Ob}{M':Mp}{o:Ob}
def pN{x:β}(h:x∈xs):c x∈xs.map c++M:=Np _ (Pf h)
def oN(h:(n,o)∈M):(n,o)∈xs.map c++M:=Mv _ h
def oR(h:Put n o M M'):Put n o (xs.map c++M) (xs.map c++M'):=by
 induction xs with
 | nil=>exact h
 | cons x xs ih=>exact .tl ih
def qm{x:β}(nd:xs.Nodup)(hx:x∈xs)(h0:(c x).1=n)(h1:c' x=(n,o))(h2:∀y∈xs,y≠x->c' y=c y):Put n o (xs.map c++M) (xs.map c'++M):=by
 induction xs with
 | nil=>cases hx
 | cons y xs ih =>
  rw[MH] at nd;rw[I_,I_];by_cases e:y=x
  ·subst e;have:xs.map c'=xs.map c:=ME λz hz=>h2 z (n_ _ hz) λe=>nd.1 (e▸hz)
   rw[this,h1,show c y=(n,(c y).2) by rw[←h0]];exact .hd
  ·rw[h2 y p_ e];exact .tl (ih nd.2 ((x_.mp hx).resolve_left λz=>e z.symm) λz hz=>h2 z (n_ _ hz))
end
def BZ{o:Ob}(nd:(M.map (·.1)).Nodup)(h:(n,o0)∈M):∃M',Put n o M M'/\Put n o0 M' M/\(n,o)∈M'/\∀c∈M,c.1≠n->c∈M':=by
 induction M with
 | nil=>cases h
 | cons d M ih =>
  rw[I_,MH] at nd;by_cases e:d.1=n
  ·obtain rfl:d=(n,o0):=(x_.mp h).elim (·.symm) λh=>absurd (Pf (f:=(·.1)) h) (e▸nd.1)
   exact⟨(n,o)::M,.hd,.hd,oF,λc hc ne=>(x_.mp hc).elim (λz=>absurd (by rw[z]) ne) oC⟩
  ·obtain⟨M',p,p',h1,h2⟩:=ih nd.2 ((x_.mp h).resolve_left λz=>e (by rw[←z]));exact⟨d::M',.tl p,.tl p',oC h1,λc hc ne=>(x_.mp hc).elim (λz=>z▸oF) λz=>oC (h2 c z ne)⟩
def w_nd{α:Type}{F:Sto->Option (α×Sto)}{Q:α->Mp->Prop}(h:(M.map (·.1)).Nodup->wF F M Q):wF F M Q:=λS s=>h s.1 S s
def yo{Q:Itn->Mp->Prop}{a:MM E}(h:wM a ν M λe M1=>∃n kvs,e=.ref n/\(n,.dct true false kvs)∈M1/\∀M2,(∀m o,(m,o)∈M1->m≠n->(m,o)∈M2)->(∀m xs,(m,.lst xs)∈M1->(m,.lst xs)∈M2)->(n,.dct true true kvs)∈M2->Put n (.dct true false kvs) M2 M1->Q ⟨keySrc n,some n⟩ M2):wM (itA a) ν M Q:=
 DX λS s=>by
  obtain⟨e,S1,M1,e1,s1,n,kvs,rfl,hm,q⟩:=h S s;obtain⟨M2,p,p',h1,h2⟩:=BZ (o:=.dct true true kvs) s1.1 hm;exact⟨_,S1,M1,e1,s1,n,kvs,M2,rfl,hm,p,q M2 (λm o hx ne=>h2 _ hx ne) (λm xs hx=>h2 _ hx λz=>by subst z;cases rV s1.1 hm hx) h1 p'⟩
def Dq{α:Type}{M0:Mp}{Q:E->Mp->Prop}{f:GM}{ts:MM Bool}{xs:List α}{g:α->E}{own:α->Nms}{m:Nat}{kvs:Kvs}(bc:α->Bool)(cb:α->E)(h:wM it ν M0 λi N=>i.lk=some n/\SrcAt i.src (xs.map g) M1/\N=M1)(hk:(n,.dct tk true kvs)∈M1)(hb:Put n (.dct tk false kvs) M1 M)(hl:xs.length < 1000000)(hf:∀a∈xs,∀pre:Nms,pre.length=m->f (g a) (pre++ν)=some (own a++ν))(hm:∀a∈xs,(own a).length=m)(ht:∀a∈xs,∀N,Le M1 N->wM ts (own a++ν) N λb N1=>b=bc a/\Le N N1)(he:∀a∈xs,bc a=true->∀N,Le M1 N->wM el (own a++ν) N λx N1=>x=cb a/\Le N N1)(fin:∀p,Q (.ref p) ((p,.lst ((xs.filter bc).map cb))::M)):wM (comp m it f ts el) ν M0 Q:=by
 refine vJ (lk:=some n) (xs:=xs) (g:=g) (own:=own) (λdone ac N=>N=M1/\ac=(done.filter bc).map cb) (h.mono λi N ⟨e1,e2,e3⟩=>by subst e3;exact⟨e1,λ_ _ _ ⟨e,_⟩=>by rw[e];exact e2,rfl,rfl⟩) hl hf hm ?_ ?_
 ·rintro done a ad ac N p e ⟨rfl,rfl⟩;have ha:a∈xs:=by rw[e];simp
  refine wF.mono (ht a ha _ (Le.tl (Le.refl _))) λb N1 ⟨eb,l⟩=>?_
  cases q:bc a with
  | false =>
   rw[q] at eb;subst eb;exact⟨N,l,rfl,by rw[Nn,o_];simp[q]⟩
  | true =>
   rw[q] at eb;subst eb;refine wF.mono (he a ha q N1 ((Le.tl (Le.refl _)).trans l)) λx N2 ⟨ex,l2⟩=>⟨?_,N,l.trans l2,rfl,by rw[Nn,o_,ex];simp[q]⟩
   rw[c_];have h1:=MB bc done;have h2:done.length<=xs.length:=by rw[e,g_];omega
   show _<=1000000;omega
 ·rintro ac p N ⟨rfl,rfl⟩;exact xW (oC hk) (.tl hb) (fin p)
def Aj{α:Type}{Q:E->Mp->Prop}{f:GM}{ts:MM Bool}{xs:List α}{g:α->E}{own:α->Nms}{m:Nat}{kvs:Kvs}(bc:α->Bool)(cb:α->E)(hk:(n,.dct true true kvs)∈M1)(hb:Put n (.dct true false kvs) M1 M)(hx:(kvs.map λp=>E.d p.1)=xs.map g)(hl:xs.length < 1000000)(hf:∀a∈xs,∀pre:Nms,pre.length=m->f (g a) (pre++ν)=some (own a++ν))(hm:∀a∈xs,(own a).length=m)(ht:∀a∈xs,∀N,Le M1 N->wM ts (own a++ν) N λb N1=>b=bc a/\Le N N1)(he:∀a∈xs,bc a=true->∀N,Le M1 N->wM el (own a++ν) N λx N1=>x=cb a/\Le N N1)(fin:∀p,Q (.ref p) ((p,.lst ((xs.filter bc).map cb))::M)):wM (comp m (pur ⟨keySrc n,some n⟩) f ts el) ν M1 Q:=
 Dq bc cb (oU ⟨rfl,by rw[←hx];exact Fn hk,rfl⟩) hk hb hl hf hm ht he fin
def BC{β:Type}{f:β->D}(g:D->β)(gf:∀x,g (f x)=x)(l:List β):∃us:List β,sortD (l.map f)=us.map f/\us.Perm l:=by
 have p:=pQ (l.map f);refine⟨(sortD (l.map f)).map g,?_,?_⟩
 ·rw[w_]
  have:∀d∈sortD (l.map f),d=(f∘g) d:=λd hd=>by
   obtain⟨x,_,rfl⟩:=F_.mp (p.mem_iff.mp hd);show f x=f (g (f x));rw[gf]
  exact(map_id _).symm.trans (ME this)
 ·have:=p.map g;rw[w_,show(g∘f)=id from funext gf,map_id] at this;exact this
def Jr(l:List Nat):cmAll (l.map λk:Nat=>D.int k)=true:=by
 unfold cmAll;simp[RW,cmB]
theorem zc:∀l:List Nat,depA (l.map λk:Nat=>D.int k)=0
 | []=>rfl
 | k::l=>by rw[I_,depA,zc l];simp[dep]
def xV{l:List Nat}(hl:l.length < 64):SortOk (l.map λk:Nat=>D.int k)/\∃us:List Nat,sortD (l.map λk:Nat=>D.int k)=(us.map λk:Nat=>D.int k)/\us.Perm l:=
 ⟨⟨by rw[c_];exact hl,Jr l,by rw[zc];exact Mu _,.inl (by rw[RW,H_];exact λ_ _=>rfl)⟩,BC (λd=>match d with | .int i=>i.toNat | _=>0) (λx=>MC x) l⟩
noncomputable abbrev lnD(p:Nat×Nat):D:=.tup [.int p.1,.int p.2]
def uU{l:List (Nat×Nat)}(hl:l.length < 64):SortOk (l.map lnD)/\∃us:List (Nat×Nat),sortD (l.map lnD)=us.map lnD/\us.Perm l:=by
 refine⟨⟨by rw[c_];exact hl,?_,?_,.inr (.inl ?_)⟩,BC (λd=>match d with | .tup [.int i,.int j]=>(i.toNat,j.toNat) | _=>(0,0)) (λx=>?_) l⟩
 ·unfold cmAll;simp[RW,cmB,cmA]
 ·have:depA (l.map lnD)<=1:=by
   induction l with
   | nil=>simp[depA]
   | cons p l ih =>
    have:=ih (by rw[G_] at hl;omega);rw[I_,depA];simp[dep,depA] at this ⊢;omega
  omega
 ·rw[RW,H_];exact λ_ _=>rfl
 ·exact Prod.ext (MC x.1) (MC x.2)
abbrev wbD(many:Nat)(rs:List (Nat×Nat)):D:=.tup [.int many,.tup (rs.map lnD)]
def AX{l:List Nat}{x:Nat}:((l.map λk:Nat=>D.int k).any λd=>deq d (.int x))=decide (x∈l):=by
 rw[SE,Nq,Oc,decide_eq_true_eq];constructor
 ·rintro⟨k,h,e⟩;have:((k:Int) == x)=true:=e;have:=beq_iff_eq.mp this;obtain rfl:k=x:=by omega
  exact h
 ·exact λh=>⟨x,h,by show((x:Int) == x)=true;simp⟩
section
variable{Q:E->Mp->Prop}{many h one ai:Nat}{rs:List (Nat×Nat)}
def rQ(hh:h < many)(q:Q (.d .non) M):wF (qK [.d (wbD many rs),.d (.int h)]) M Q:=by
 walk_at "d"
 exists pe (decide_eq_true ⋯) ?_
 exists oH (by rw[decide_eq_true ⋯];rfl) ?_
 exact⟨_,.refl _,q⟩
def adj(rs:List (Nat×Nat))(h x:Nat):Prop:=(h,x)∈rs\/(x,h)∈rs
def Bq(hh:h < many)(hl:rs.length < 64)(q:∀ns m,(∀x,x∈ns↔adj rs h x)->ns.length < 64->Q (.ref m) ((m,nsO ns)::M)):wF (ux [.d (wbD many rs),.d (.int h)]) M Q:=by
 walk_at "d"
 exists rQ hh ?_
 refine o6 (m:=1) (xs:=rs) (g:=λp=>.d (lnD p)) (own:=λp=>[some (.d (lnD p))]) (λp=>decide (h∈[p.1,p.2])) (λp=>.d (.int (if p.1=h then p.2 else p.1:Nat))) (oW ?_) ⋯ own1 (λ_ _=>rfl) (λp hp N l=>?_) (λp hp _ N l=>?_) λm=>?_
 ·tm_at"c"
  exact⟨⟨_,o5 rfl⟩,rfl,(by have e:=o5 (M:=M) (e:=.d (.tup (rs.map lnD))) rfl;rw[w_] at e;exact e),.refl _⟩
 ·tm_at"c"
  refine LF (zs:=[p.1,p.2].map λk:Nat=>D.int k) rd_d rd_d (Mu _) ?_;rw[AX]
  tm_at"c"
  exact⟨rfl,.refl _⟩
 ·tm_at"c"
  refine oZ (λc=>?_) (λc=>?_)
  ·tm_at"c"
   have c:=of_decide_eq_true c;exact⟨by rw[if_pos ⋯],.refl _⟩
  ·tm_at"c"
   have c:=of_decide_eq_false c;exact⟨by rw[if_neg ⋯],.refl _⟩
 ·tm_at"c"
  obtain⟨ok,us,e,pm⟩:=xV (l:=(rs.filter λp=>decide (h∈[p.1,p.2])).map λp=>if p.1=h then p.2 else p.1) (by rw[c_];exact OY (MB _ _) hl);refine rh (ds:=((rs.filter λp=>decide (h∈[p.1,p.2])).map λp=>if p.1=h then p.2 else p.1).map λk:Nat=>D.int k) (by rw[w_,w_];exact oJ oF) ok λk=>?_
  rw[e];refine⟨_,Le.hd (Le.tl (.refl _)),q us k (λx=>?_) (by rw[pm.length_eq,c_];exact OY (MB _ _) hl)⟩;rw[pm.mem_iff,F_];constructor
  ·rintro⟨⟨a,b⟩,hp,rfl⟩;obtain⟨h1,h2⟩:=z_.mp hp;have h2:=of_decide_eq_true h2;simp only[x_,Px,or_false] at h2;by_cases c:a=h
   ·rw[if_pos c,←c];exact .inl h1
   ·rw[if_neg c]
    rcases h2 with h2 | h2
    ·exact absurd h2.symm c
    ·rw[h2];exact .inr h1
  ·rintro(hx | hx)
   ·exact⟨_,z_.mpr ⟨hx,by simp⟩,by simp⟩
   ·refine⟨_,z_.mpr ⟨hx,by simp⟩,?_⟩;by_cases c:x=h
    ·rw[if_pos c,c]
    ·rw[if_neg c]
def xg(h1:one < many)(h2:ai < many)(hl:rs.length < 64)(ha:adj rs one ai)(q:Q (.d .non) M):wF (rU [.d (wbD many rs),.d (.int one),.d (.int ai)]) M Q:=by
 walk_at "d"
 exists rQ h1 ?_
 exists rQ h2 ?_
 refine Bq h1 hl λns m bu hn=>?_
 refine ur rd_d (ph oF) (Mu _) ?_;rw[AX,if_pos rfl]
 tm_at"c"
 exists oH (by rw[decide_eq_true ((bu _).mpr ha)];rfl) ?_
 exact⟨_,Le.tl (.refl _),q⟩
end
def Pth(E:Nat->Nat->Prop):List Nat->Prop
 | x::y::p=>E x y/\(∀z,p.head?=some z->x≠z)/\Pth E (y::p)
 | _=>True
def Forest(E:Nat->Nat->Prop):Prop:=∀p,Pth E p->p.Nodup
noncomputable abbrev camD:List Nat->E
 | []=>.d .non
 | c::_=>.d (.int c)
def K0{Q:E->Mp->Prop}{x:Nat}{p:List Nat}(q:Q (.d (.bl (decide (∀c,p.head?=some c->x≠c)))) M):wF (eqE true (.d (.int x)) (camD p)) M Q:=by
 cases p with
 | nil=>exact pk rd_d rd_d (.inl (Mu _)) (by rw[decide_eq_true (by simp)] at q;exact q)
 | cons c p =>
  refine yt ?_
  have:decide (∀c',(c::p).head?=some c'->x≠c')=!decide ((x:Int)=(c:Int)):=by
   simp;omega
  rw[this] at q;exact q
section
variable {many ai:Nat}{rs:List (Nat×Nat)}{R:Nat->Prop}
theorem yQ(hF:Forest (adj rs))(hm:many<=8)(hl:rs.length < 64)(hR:∀u v,R u->adj rs u v->R v/\v < many)(ck:¬R ai):∀(fu:Nat){M:Mp}{Q:E->Mp->Prop}{aM:Nat}{p:List Nat},Pth (adj rs) (aM::p)->(∀v∈aM::p,v < many)->9<=p.length+fu->R aM->Q (.d .non) M →
  wF (rH fu [.d (wbD many rs),camD p,.d (.int aM),.d (.int ai)]) M Q
 | fu,M,Q,aM,p,hp,hv,hf,hr,q=>by
  have h8:(aM::p).length<=8:=A_ (o8 (aM::p) (MO 8) (hF _ hp) λv h=>MG.mpr (by have:=hv v h;omega)) (by rw[MD];exact s_ _);rw[G_] at h8
  match fu,hf with
  | 0,hf=>omega
  | fu+1,hf =>
   rw[rH]
   walk_at "d"
   exists oH (decide_eq_false λz=>ck ((show aM=ai by omega)▸hr)) ?_
   exists qR (oW ?_)
   refine Bq (hv aM p_) hl λns m bu hn=>⟨⟨_,oJ oF⟩,?_⟩
   refine pf (lk:=none) (xs:=ns) (g:=λk:Nat=>.d (.int k)) (λdone ν N=>(∃x y,ν=[some (.d (wbD many rs)),some (camD p),some (.d (.int aM)),some (.d (.int ai)),x,y])/\N=(m,nsO ns)::M) (oU ⟨rfl,λ_ _ _ ⟨_,h⟩=>by rw[h];exact pd oF,⟨_,_,rfl⟩,rfl⟩) ⋯ ?_ ?_
   ·rintro done x ad _ _ e ⟨⟨y,z,rfl⟩,rfl⟩;have ha:=(bu x).mp (by rw[e];simp);obtain⟨rx,lx⟩:=hR _ _ hr ha
    exists ⟨_,pi ‹p›,?_⟩
    have go:(∀c,p.head?=some c->x≠c)->wF (rH fu [.d (wbD many rs),.d (.int aM),.d (.int x),.d (.int ai)]) ((m,nsO ns)::M) λe N=>e=.d .non/\N=(m,nsO ns)::M:=λhc =>
     yQ hF hm hl hR ck fu (p:=aM::p) ⟨ha.symm,hc,hp⟩ (λv h=>(x_.mp h).elim (λz=>z▸lx) (hv v)) (by rw[G_];omega) rx ⟨rfl,rfl⟩
    exists K0 ?_
    refine oZ (λhc=>?_) (λhc=>?_)
    ·tm_at"c"
     refine wF.mono (go (of_decide_eq_true hc)) ?_;rintro _ _ ⟨rfl,rfl⟩
     tm_at"c"
     exists pF ?_
     exists oH rfl ?_
     exact⟨⟨_,_,rfl⟩,rfl⟩
    ·tm_at"c"
     exact⟨⟨_,_,rfl⟩,rfl⟩
   ·rintro _ _ ⟨⟨x,y,rfl⟩,rfl⟩
    exists pc ?_
    exact⟨_,Le.tl (.refl _),q⟩
def JV{one:Nat}{Q:E->Mp->Prop}(hF:Forest (adj rs))(hm:many<=8)(hl:rs.length < 64)(hR:∀u v,R u->adj rs u v->R v/\v < many)(ck:¬R ai)(h1:one < many)(h2:ai < many)(hr:R one)(q:Q (.d .non) M):wF (vL [.d (wbD many rs),.d (.int one),.d (.int ai)]) M Q:=by
 walk_at "d"
 exists rQ h1 ?_
 exists rQ h2 ?_
 exists yQ hF hm hl hR ck 21 (p:=[]) trivial (by simpa using h1) (by simp) hr ?_
 exact⟨_,.refl _,q⟩
end
structure Tb(α:Type) where
 a:Nat
 b:Nat
 n:Nat
 v:α
abbrev Th:=Bool×Wi
abbrev thD(t:Th):D:=.tup [.str (if t.1 then "more" else "less"),wD t.2]
abbrev thO(ts:List Th):Ob:=.lst ((ts.map thD).map .d)
structure HA where
 a:Nat
 o:Nat
 e:Nat
 s:Nat
 d:Nat
 l:Nat
structure Tn where
 t:Nat
 hs:Nat
 ln:Nat
 gf:Nat
 many:Nat
 fields:Nat
 how:Str
 A:Nat->HA
 own:Nat->List (Nat×Wi)
 log:Nat->List E
 Y:List (Tb (List Th))
 Z:List (Tb (List Wi))
 S:List (Tb (List Wi))
 wished:Nat
 told:Nat
abbrev tdct{α:Type}(L:List (Tb α)):Kvs:=L.map λl=>(lnD (l.a,l.b),.ref l.n)
noncomputable abbrev hdct(Z:List (Tb (List Wi)))(i:Nat):Kvs:=(Z.filter λl=>l.b == i).map λl=>(.int l.a,.ref l.n)
noncomputable abbrev sdct(S:List (Tb (List Wi)))(i:Nat):Kvs:=(S.filter λl=>l.a == i).map λl=>(.int l.b,.ref l.n)
abbrev odct(own:List (Nat×Wi)):Kvs:=own.map λp=>(.int p.1,.d (wD p.2))
abbrev Tn.ins(T:Tn):Ob:=.ins "Town" [("fields", .d (.int T.fields)),("how", .d (.str T.how)),("houses", .ref T.hs),("lanes", .ref T.ln),("wished", .d (.int T.wished)),("gifts", .ref T.gf),("wishes_told", .d (.int T.told)),("letters_told", .d (.int 0))]
abbrev Tn.hin(T:Tn)(h:HA):Ob:=.ins "House" [("how", .d (.str T.how)),("own", .ref h.o),("hears", .ref h.e),("said", .ref h.s),("had", .ref h.d),("rows", .ref h.l)]
def Tn.m3(T:Tn)(Y:List (Tb (List Th)))(Z S:List (Tb (List Wi)))(R:Mp):Mp:=
 (T.t,T.ins)::(T.hs,.lst ((MO T.many).map λi=>.ref (T.A i).a))::(T.ln,.dct true false (tdct Y))::(T.gf,.lst []) ::
 ((MO T.many).map (λi=>((T.A i).a,T.hin (T.A i)))++((MO T.many).map (λi=>((T.A i).o,Ob.dct false false (odct (T.own i))))++((MO T.many).map (λi=>((T.A i).e,Ob.dct false false (hdct Z i))) ++
 ((MO T.many).map (λi=>((T.A i).s,Ob.dct false false (sdct S i)))++((MO T.many).map (λi=>((T.A i).d,Ob.dct false false []))++((MO T.many).map (λi=>((T.A i).l,Ob.lst (T.log i))) ++
 (T.Y.map (λl=>(l.n,thO l.v))++(T.Z.map (λl=>(l.n,wsO l.v))++(T.S.map (λl=>(l.n,wsO l.v))++R)))))))))
abbrev Tn.m(T:Tn)(R:Mp):Mp:=T.m3 T.Y T.Z T.S R
noncomputable abbrev nW:List Wi:=[]
noncomputable abbrev nT:List Th:=[]
section
variable{T:Tn}{Y:List (Tb (List Th))}{Z S:List (Tb (List Wi))}{i h:Nat}
def t_t:(T.t,T.ins)∈T.m3 Y Z S R:=oF
def t_hs:(T.hs,.lst ((MO T.many).map λi=>.ref (T.A i).a))∈T.m3 Y Z S R:=oC oF
def t_ln:(T.ln,.dct true false (tdct Y))∈T.m3 Y Z S R:=oC (oC oF)
def t_a(hi:i < T.many):((T.A i).a,T.hin (T.A i))∈T.m3 Y Z S R:=oC (oC (oC (oC (pN (c:=λi=>((T.A i).a,T.hin (T.A i))) (MG.mpr hi)))))
def t_o(hi:i < T.many):((T.A i).o,.dct false false (odct (T.own i)))∈T.m3 Y Z S R:=oC (oC (oC (oC (oN (pN (c:=λi=>((T.A i).o,Ob.dct false false (odct (T.own i)))) (MG.mpr hi))))))
def t_e(hi:i < T.many):((T.A i).e,.dct false false (hdct Z i))∈T.m3 Y Z S R:=oC (oC (oC (oC (oN (oN (pN (c:=λi=>((T.A i).e,Ob.dct false false (hdct Z i))) (MG.mpr hi)))))))
def t_s(hi:i < T.many):((T.A i).s,.dct false false (sdct S i))∈T.m3 Y Z S R:=oC (oC (oC (oC (oN (oN (oN (pN (c:=λi=>((T.A i).s,Ob.dct false false (sdct S i))) (MG.mpr hi))))))))
def t_l(hi:i < T.many):((T.A i).l,.lst (T.log i))∈T.m3 Y Z S R:=oC (oC (oC (oC (oN (oN (oN (oN (oN (pN (c:=λi=>((T.A i).l,Ob.lst (T.log i))) (MG.mpr hi))))))))))
def t_Y{l:Tb (List Th)}(hl:l∈T.Y):(l.n,thO l.v)∈T.m3 Y Z S R:=oC (oC (oC (oC (oN (oN (oN (oN (oN (oN (pN (c:=λl:Tb (List Th)=>(l.n,thO l.v)) hl))))))))))
def t_Z{l:Tb (List Wi)}(hl:l∈T.Z):(l.n,wsO l.v)∈T.m3 Y Z S R:=oC (oC (oC (oC (oN (oN (oN (oN (oN (oN (oN (pN (c:=λl:Tb (List Wi)=>(l.n,wsO l.v)) hl)))))))))))
def t_S{l:Tb (List Wi)}(hl:l∈T.S):(l.n,wsO l.v)∈T.m3 Y Z S R:=oC (oC (oC (oC (oN (oN (oN (oN (oN (oN (oN (oN (pN (c:=λl:Tb (List Wi)=>(l.n,wsO l.v)) hl))))))))))))
noncomputable def fset{α:Type}(f:Nat->α)(h:Nat)(x:α)(i:Nat):α:=if i=h then x else f i
def oY{α:Type}{f:Nat->α}{x:α}:fset f h x h=x:=if_pos rfl
def o4{α:Type}{f:Nat->α}{x:α}(ne:i≠h):fset f h x i=f i:=if_neg ne
def HE{x:List (Nat×Wi)}(hh:h < T.many):Put (T.A h).o (.dct false false (odct x)) (T.m3 Y Z S R) (({ T with own:=fset T.own h x }).m3 Y Z S R):=
 .tl (.tl (.tl (.tl (oR (qm (x:=h) QC (MG.mpr hh) rfl (by dsimp only;rw[oY]) λy _ ne=>by dsimp only;rw[o4 ne])))))
def Bw{x:List E}(hh:h < T.many):Put (T.A h).l (.lst x) (T.m3 Y Z S R) (({ T with log:=fset T.log h x }).m3 Y Z S R):=
 .tl (.tl (.tl (.tl (oR (oR (oR (oR (oR (qm (x:=h) QC (MG.mpr hh) rfl (by dsimp only;rw[oY]) λy _ ne=>by dsimp only;rw[o4 ne])))))))))
def p_e{Z':List (Tb (List Wi))}(hh:h < T.many)(hn:∀i,i≠h->hdct Z' i=hdct Z i):Put (T.A h).e (.dct false false (hdct Z' h)) (T.m3 Y Z S R) (T.m3 Y Z' S R):=
 .tl (.tl (.tl (.tl (oR (oR (qm (x:=h) QC (MG.mpr hh) rfl rfl λy _ ne=>by rw[hn y ne]))))))
def p_s{S':List (Tb (List Wi))}(hh:h < T.many)(hn:∀i,i≠h->sdct S' i=sdct S i):Put (T.A h).s (.dct false false (sdct S' h)) (T.m3 Y Z S R) (T.m3 Y Z S' R):=
 .tl (.tl (.tl (.tl (oR (oR (oR (qm (x:=h) QC (MG.mpr hh) rfl rfl λy _ ne=>by rw[hn y ne])))))))
def p_ln{Y':List (Tb (List Th))}:Put T.ln (.dct true false (tdct Y')) (T.m3 Y Z S R) (T.m3 Y' Z S R):=.tl (.tl .hd)
noncomputable def tset{α:Type}(L:List (Tb α))(a b n:Nat)(v:α):List (Tb α):=L.map λl=>if l.a=a/\l.b=b then⟨a,b,n,v⟩ else l
def KeyN{α:Type}(L:List (Tb α)):Prop:=(L.map λl=>(l.a,l.b)).Nodup
def KeyN.nd{α:Type}{L:List (Tb α)}(k:KeyN L):L.Nodup:=of_map _ (λa b ne e=>ne (by rw[e])) k
theorem KeyN.one{α:Type}:∀{L:List (Tb α)},KeyN L->∀{l m:Tb α},l∈L->m∈L->l.a=m.a->l.b=m.b->l=m
 | x::L,k,l,m,hl,hm,ea,eb=>by
  unfold KeyN at k;rw[I_,MH] at k;have no:∀y∈L,x.a=y.a->x.b=y.b->False:=λy hy e1 e2=>k.1 (F_.mpr ⟨y,hy,by rw[e1,e2]⟩)
  rcases x_.mp hl with e1 | h1<;>rcases x_.mp hm with e2 | h2
  ·rw[e1,e2]
  ·exact(no m h2 (e1▸ea) (e1▸eb)).elim
  ·exact(no l h1 (e2▸ea.symm) (e2▸eb.symm)).elim
  ·exact KeyN.one k.2 h1 h2 ea eb
def p_Y{l:Tb (List Th)}{v:List Th}(k:KeyN T.Y)(hl:l∈T.Y):Put l.n (thO v) (T.m3 Y Z S R) (({ T with Y:=tset T.Y l.a l.b l.n v }).m3 Y Z S R):=by
 refine .tl (.tl (.tl (.tl (oR (oR (oR (oR (oR (oR ?_)))))))));rw[tset,w_];refine qm (x:=l) k.nd hl rfl (by simp) λy hy ne=>?_
 show(λl:Tb (List Th)=>(l.n,thO l.v)) (if y.a=l.a/\y.b=l.b then⟨l.a,l.b,l.n,v⟩ else y)=_;rw[if_neg λz=>ne (k.one hy hl z.1 z.2)]
def p_Z{l:Tb (List Wi)}{v:List Wi}(k:KeyN T.Z)(hl:l∈T.Z):Put l.n (wsO v) (T.m3 Y Z S R) (({ T with Z:=tset T.Z l.a l.b l.n v }).m3 Y Z S R):=by
 refine .tl (.tl (.tl (.tl (oR (oR (oR (oR (oR (oR (oR ?_))))))))));rw[tset,w_];refine qm (x:=l) k.nd hl rfl (by simp) λy hy ne=>?_
 show(λl:Tb (List Wi)=>(l.n,wsO l.v)) (if y.a=l.a/\y.b=l.b then⟨l.a,l.b,l.n,v⟩ else y)=_;rw[if_neg λz=>ne (k.one hy hl z.1 z.2)]
def oO{A:Mp}{c:Nat×Ob}(l:Le B' (c::oA)):Le (A++B') (c::(A++oA)):=by
 obtain⟨R,p⟩:=l.left A;exact⟨R,PH.symm.trans p⟩
def oX{c d:Nat×Ob}(l:Le B' (c::oA)):Le (d::B') (c::d::oA):=by
 obtain⟨R,p⟩:=l.hd (c:=d);exact⟨R,(swap ..).trans p⟩
def JF{α:Type}{c:Tb α->Nat×Ob}{L:List (Tb α)}{l:Tb α}{v:α}{R:Mp}(k:KeyN L)(hl:l∈L):Le ((tset L l.a l.b n v).map c++R) (c ⟨l.a,l.b,n,v⟩::(L.map c++R)):=by
 induction L with
 | nil=>cases hl
 | cons x L ih =>
  have k2:KeyN L:=(MH.mp (show((x::L).map λl=>(l.a,l.b)).Nodup from k)).2;rw[tset,I_,I_,I_];by_cases e:x=l
  ·subst e;rw[if_pos ⟨rfl,rfl⟩]
   have:L.map (λl=>if l.a=x.a/\l.b=x.b then(⟨x.a,x.b,n,v⟩:Tb α) else l)=L:=by
    refine(ME λy hy=>if_neg λz=>?_).trans (map_id _);have:=k.one (n_ _ hy) p_ z.1 z.2;subst this;exact(MH.mp k.nd).1 hy
   rw[this];exact Le.hd (Le.tl (.refl _))
  ·have hl:=(x_.mp hl).resolve_left λz=>e z.symm
   rw[if_neg λz=>e (k.one p_ (n_ _ hl) z.1 z.2)];exact oX (ih k2 hl)
def le_S{l:Tb (List Wi)}{v:List Wi}(k:KeyN T.S)(hl:l∈T.S):Le (({ T with S:=tset T.S l.a l.b n v }).m3 Y Z (tset T.S l.a l.b n v) R) ((n,wsO v)::T.m3 Y Z (tset T.S l.a l.b n v) R):=
 oX (oX (oX (oX (oO (oO (oO (oO (oO (oO (oO (oO (JF (c:=λl:Tb (List Wi)=>(l.n,wsO l.v)) k hl))))))))))))
end
def Fs{Q:Itn->Mp->Prop}{a:MM E}(h:wM a ν M λe M1=>∃n kvs c M0,e=.ref n/\M1=c::M0/\(n,.dct false false kvs)∈M0/\∀M2,(∀m xs,(m,.lst xs)∈M0->(m,.lst xs)∈M2)->(n,.dct false true kvs)∈M2->Put n (.dct false false kvs) M2 M0->Q ⟨itemSrc n,some n⟩ (c::M2)):wM (itemA a) ν M Q:=
 Ku λS s=>by
  obtain⟨e,S1,M1,e1,s1,n,kvs,c,M0,rfl,rfl,hm,q⟩:=h S s;have nd:=(MH.mp s1.1).2;obtain⟨M2,p,p',h1,h2⟩:=BZ (o:=.dct false true kvs) nd hm;exact⟨_,S1,_,e1,s1,n,kvs,_,rfl,oC hm,.tl p,q M2 (λm xs hx=>h2 _ hx λz=>by subst z;cases rV nd hm hx) h1 p'⟩
structure TOk(T:Tn)(P:List Wi)(f:Nat):Prop where
 po:Po P f
 m8:T.many<=8
 kY:KeyN T.Y
 kZ:KeyN T.Z
 kS:KeyN T.S
 oP:∀h,∀p∈T.own h,p.2∈P
 oB:∀h,(T.own h).length<=63
 zP:∀l∈T.Z,l.v.Nodup/\∀w∈l.v,w∈P
 sP:∀l∈T.S,l.v.Nodup/\∀w∈l.v,w∈P
 zM:∀l∈T.Z,l.a < T.many/\l.b < T.many
 sM:∀l∈T.S,l.a < T.many/\l.b < T.many
 yM:∀l∈T.Y,l.a < T.many/\l.b < T.many
def Bs{α:Type}{L:List (Tb α)}(k:KeyN L)(h:Nat)(hb:∀l∈L,l.a < 8):(L.filter λl=>l.b == h).length<=8:=by
 have nd:((L.filter λl=>l.b == h).map (·.a)).Nodup:=by
  refine map _ (S:=(·≠·)) (R:=λx y:Tb α=>x≠y/\x.b=h/\y.b=h/\x∈L/\y∈L) (λx y ⟨ne,e1,e2,m1,m2⟩ e=>ne (k.one m1 m2 e (e1.trans e2.symm))) ?_;have:=(k.nd.filter λl=>l.b == h);refine Qm (R:=(·≠·)) (λ{x y} hx hy ne=>?_) this;obtain⟨m1,e1⟩:=z_.mp hx;obtain⟨m2,e2⟩:=z_.mp hy;exact⟨ne,by simpa using e1,by simpa using e2,m1,m2⟩
 have:=o8 _ (MO 8) nd λa ha=>by
  obtain⟨l,hl,rfl⟩:=F_.mp ha;exact MG.mpr (hb l (z_.mp hl).1)
 rw[c_,MD] at this;exact this
def dueL(T:Tn)(h nb:Nat):List Wi:=shortL T.how ((T.own h).map (·.2)++(T.Z.filter λl=>l.b == h&&l.a != nb).flatMap (·.v))
section
variable{T:Tn}{Y:List (Tb (List Th))}{S:List (Tb (List Wi))}{Q:E->Mp->Prop}{h f:Nat}{P:List Wi}
inductive I5(T:Tn)(h nb w:Nat)(M2:Mp)(done:List (Tb (List Wi)))(ν:Nms)(N:Mp):Prop | mk (x y:Option E) (ac:List Wi):ν=[some (.ref (T.A h).a),some (.d (.int nb)),some (.ref w),x,y]->N=(w,wsO ac)::M2->ac.length<=63+18*done.length->(∀v,v∈ac↔v∈(T.own h).map (·.2)\/∃l∈done,l.a≠nb/\v∈l.v)->I5 T h nb w M2 done ν N
def LQ(ok:TOk T P f)(hh:h < T.many)(q:∀m,Q (.ref m) ((m,wsO (dueL T h nb))::T.m3 Y T.Z S R)):wF (vB [.ref (T.A h).a,.d (.int nb)]) (T.m3 Y T.Z S R) Q:=by
 walk_at "d"
 exists Ko (sh ?_)
 exists ⟨_,_,rfl,t_o hh,by rw[c_];have:=ok.oB h;show _<=1000000;omega,λw=>?_⟩
 exists qR (Fs (sh ?_))
 refine⟨_,_,_,_,rfl,rfl,t_e hh,λM2 mQ he hb=>?_⟩;have om:=Bs ok.kZ h λl hl=>J_ (ok.zM l hl).1 ok.m8
 refine pf (lk:=some (T.A h).e) (xs:=T.Z.filter λl=>l.b == h) (g:=λl=>mkT [.d (.int l.a),.ref l.n]) (I5 T h nb w M2) (oU ⟨rfl,λ_ _ _ ⟨_,_,jZ,_,e0,_,_⟩=>?_,_,_,(T.own h).map (·.2),rfl,?_,?_,?_⟩) ⋯ ?_ ?_
 ·rw[e0];have:=GA (M:=(w,wsO jZ)::M2) (oC he);rw[w_] at this;exact this
 ·rw[wsO,w_,w_,w_];rfl
 ·rw[c_];exact ok.oB h
 ·simp
 ·rintro done l ad _ _ e ⟨x,y,ac,rfl,rfl,hn,bh⟩;have hl:l∈T.Z:=(z_.mp (by rw[e];simp)).1;have j0:l.v.length<=18:=A_ (o8 l.v P (ok.zP l hl).1 (ok.zP l hl).2) ok.po.len;have dI:done.length < 8:=by have:=congrArg length e;rw[g_,G_] at this;omega
  exists ⟨_,rb (x:=.d (.int l.a)) (y:=.ref l.n) rfl ‹p› ‹p›,?_⟩
  refine oZ (λc=>?_) (λc=>?_)
  ·tm_at"c"
   have mR:=oC (d:=(w,wsO ac)) (mQ _ _ (t_Z hl))
   exists sA oF mR (by rw[c_,c_,c_,c_];show _<=1000000;omega) .hd ?_
   refine⟨_,_,ac++l.v,rfl,by rw[wsO,o_,o_],by rw[g_,g_,Ms];omega,λv=>?_⟩;have ne:l.a≠nb:=λz=>by rw[z] at c;simp at c
   rw[L_,bh];constructor
   ·rintro((h | ⟨l',h1,h2⟩) | h)
    ·exact .inl h
    ·exact .inr ⟨l',Np _ h1,h2⟩
    ·exact .inr ⟨l,by simp,ne,h⟩
   ·rintro(h | ⟨l',h1,h2⟩)
    ·exact .inl (.inl h)
    ·rcases L_.mp h1 with h1 | h1
     ·exact .inl (.inr ⟨l',h1,h2⟩)
     ·rw[m_.mp h1] at h2;exact .inr h2.2
  ·tm_at"c"
   refine⟨_,_,ac,rfl,rfl,by rw[g_,Ms];omega,λv=>?_⟩
   have ne:l.a=nb:=by
    have:(l.a:Int)=nb:=by simpa using c
    omega
   rw[bh];constructor
   ·rintro(h | ⟨l',h1,h2⟩)
    ·exact .inl h
    ·exact .inr ⟨l',Np _ h1,h2⟩
   ·rintro(h | ⟨l',h1,h2⟩)
    ·exact .inl h
    ·rcases L_.mp h1 with h1 | h1
     ·exact .inr ⟨l',h1,h2⟩
     ·rw[m_.mp h1] at h2;exact absurd ne h2.1
 ·rintro _ _ ⟨x,y,ac,rfl,rfl,hn,bh⟩
  exists xW (oC he) (.tl hb) ?_
  refine Ho (P:=P) ok.po (λv hv=>?_) ⋯ oF λr m hr=>?_
  ·rcases(bh v).mp hv with hv | ⟨l,hl,_,hv⟩
   ·obtain⟨p,hp,rfl⟩:=F_.mp hv;exact ok.oP h p hp
   ·exact(ok.zP l (z_.mp hl).1).2 v hv
  ·tm_at"c"
   refine⟨_,Le.hd (Le.tl (.refl _)),?_⟩
   have:r=dueL T h nb:=hr.alone (vS _ _) λv=>by
    rw[bh,L_,Oz];refine or_congr SV ⟨?_,?_⟩
    ·rintro⟨l,h1,h2⟩;obtain⟨h3,h4⟩:=z_.mp h1;rw[k_] at h4;exact⟨l,z_.mpr ⟨h3,h4.1⟩,by simpa using h4.2,h2⟩
    ·rintro⟨l,h1,h2,h3⟩;obtain⟨h4,h5⟩:=z_.mp h1;exact⟨l,z_.mpr ⟨h4,by rw[h5];simpa using h2⟩,h3⟩
   rw[this];exact q m
end
def Df{ws:List Wi}{w:Wi}:((ws.map wD).any λd=>deq d (wD w))=decide (w∈ws):=by
 rw[SE,Nq,Oc,decide_eq_true_eq];constructor
 ·rintro⟨u,h,e⟩;have:deq (wD u) (wD w)=true:=e;rw[sH] at this;exact of_decide_eq_true this▸h
 ·exact λh=>⟨w,h,by show deq (wD w) (wD w)=true;rw[sH];simp⟩
def uh{Q:E->Mp->Prop}{ws:List Wi}{w:Wi}(h:(n,wsO ws)∈M)(q:Q (.d (.bl (!decide (w∈ws)))) M):wF (inE true (.d (wD w)) (.ref n)) M Q:=ur rd_d (ph h) (A_ (qM _) (by decide)) (by rw[if_pos rfl,Df];exact q)
noncomputable def diffT(fA az:List Wi):List Th:=((az.filter λw=>!decide (w∈fA)).map λw=>(true,w))++((fA.filter λw=>!decide (w∈az)).map λw=>(false,w))
abbrev rowD(nb:Nat)(t:Th):D:=.tup [.str "tell", .int nb,thD t]
def o9{x y:Nat}:kD false (.int (x:Int))=some [NV (y:Int)]↔x=y:=by
 simp[kD,keyD];omega
def Cu{S:List (Tb (List Wi))}{l:Tb (List Wi)}{v:List Wi}(hl:l∈S):dput false (sdct S l.a) (.int l.b) [NV (l.b:Int)] (.ref n)=sdct (tset S l.a l.b n v) l.a:=by
 unfold sdct tset;rw[G6 (l:=l) (z_.mpr ⟨hl,by simp⟩) (o9.mpr rfl),Rq,w_]
 have:S.filter ((λl':Tb (List Wi)=>l'.a == l.a)∘λl'=>if l'.a=l.a/\l'.b=l.b then⟨l.a,l.b,n,v⟩ else l')=S.filter λl'=>l'.a == l.a:=by
  refine SW λx _=>?_
  dsimp only[ON];split
  ·rename_i h;rw[h.1]
  ·rfl
 rw[this];refine ME λx hx=>?_
 have hx:=(z_.mp hx).2;have hx:x.a=l.a:=by simpa using hx
 dsimp only[ON];by_cases c:x.b=l.b
 ·rw[if_pos (o9.mpr c),if_pos ⟨hx,c⟩,c]
 ·rw[if_neg λz=>c (o9.mp z),if_neg λz=>c z.2]
def HC{S:List (Tb (List Wi))}{a b i:Nat}{v:List Wi}(ne:i≠a):sdct (tset S a b n v) i=sdct S i:=by
 unfold sdct tset;rw[Rq,w_]
 have:S.filter ((λl':Tb (List Wi)=>l'.a == i)∘λl'=>if l'.a=a/\l'.b=b then⟨a,b,n,v⟩ else l')=S.filter λl'=>l'.a == i:=by
  refine SW λx _=>?_
  dsimp only[ON];split
  ·rename_i h;rw[h.1]
  ·rfl
 rw[this];refine ME λx hx=>?_
 have hx:=(z_.mp hx).2;have hx:x.a=i:=by simpa using hx
 dsimp only[ON];rw[if_neg λz=>ne (by rw[←hx,z.1])]
def sD(a b:List Wi):(diffT a b).length<=a.length+b.length:=by
 unfold diffT;rw[g_,c_,c_];have h1:=MB (λw=>!decide (w∈a)) b;have h2:=MB (λw=>!decide (w∈b)) a;omega
def vZ{β:Type}{L:List β}(nd:L.Nodup)(g k:β->Nat)(one:∀x∈L,∀y∈L,g x=g y->k x=k y->x=y)(h:Nat)(hb:∀l∈L,g l < 8):(L.filter λl=>k l == h).length<=8:=by
 have nd:((L.filter λl=>k l == h).map g).Nodup:=by
  tm_at"n"
 have:=o8 _ (MO 8) nd λa ha=>by
  obtain⟨l,hl,rfl⟩:=F_.mp ha;exact MG.mpr (hb l (z_.mp hl).1)
 rw[c_,MD] at this;exact this
section
variable{T:Tn}{Y:List (Tb (List Th))}{Q:E->Mp->Prop}{f:Nat}{P:List Wi}
def sg(ok:TOk T P f){h:Nat}:(∀w∈dueL T h nb,w∈P)/\(dueL T h nb).length<=18:=by
 obtain⟨h1,h2,_⟩:=sx (how:=T.how) (ws:=(T.own h).map (·.2)++(T.Z.filter λl=>l.b == h&&l.a != nb).flatMap (·.v))
 have hp:∀w∈dueL T h nb,w∈P:=λw hw=>by
  rcases L_.mp (h1 w hw) with hv | hv
  ·obtain⟨p,hp,rfl⟩:=F_.mp hv;exact ok.oP h p hp
  ·obtain⟨l,hl,hv⟩:=Oz.mp hv;exact(ok.zP l (z_.mp hl).1).2 w hv
 exact⟨hp,A_ (o8 _ P h2 hp) ok.po.len⟩
def Lb(ok:TOk T P f){l:Tb (List Wi)}(hl:l∈T.S)(q:∀m n,Q (.ref m) ((m,.lst (((diffT l.v (dueL T l.a l.b)).map (rowD l.b)).map .d))::({ T with S:=tset T.S l.a l.b n (dueL T l.a l.b) }).m3 Y T.Z (tset T.S l.a l.b n (dueL T l.a l.b)) R)):wF (uv [.ref (T.A l.a).a,.d (.int l.b)]) (T.m3 Y T.Z T.S R) Q:=by
 have hh:=(ok.sM l hl).1;obtain⟨dP,mS⟩:=sg ok (h:=l.a) (nb:=l.b);have j0:l.v.length<=18:=A_ (o8 l.v P (ok.sP l hl).1 (ok.sP l hl).2) ok.po.len
 walk_at "d"
 exists LQ ok hh λp=>?_
 refine qr (e:=.ref l.n) (oC (t_s hh)) (o9.mpr rfl) (rW (l:=l) (z_.mpr ⟨hl,by simp⟩) (o9.mpr rfl) λx hx e=>?_) ?_
 ·obtain⟨h1,h2⟩:=z_.mp hx;exact ok.kS.one h1 hl (by simpa using h2) (o9.mp e)
 tm_at"c"
 refine rK (oC (t_s hh)) (o9.mpr rfl) ?_ (by rw[Cu (v:=dueL T l.a l.b) hl];exact .tl (p_s hh λi ne=>HC ne)) ?_
 ·have:=vZ ok.kS.nd (·.b) (·.a) (λx hx y hy e1 e2=>ok.kS.one hx hy e2 e1) l.a λl hl=>J_ (ok.sM l hl).2 ok.m8
  rw[c_];show _ < 1000000;omega
 tm_at"c"
 generalize dueL T l.a l.b=az at *;refine o6 (m:=1) (xs:=az) (g:=λw=>.d (wD w)) (own:=λw=>[some (.d (wD w))]) (λw=>!decide (w∈l.v)) (λw=>.d (thD (true,w))) (oW ?_) ⋯ own1 (λ_ _=>rfl) (λw _ N ln=>?_) (λw _ _ N ln=>?_) λj=>?_
 ·tm_at"c"
  exact⟨⟨_,oJ oF⟩,rfl,pd oF,.refl _⟩
 ·tm_at"c"
  exists uh (ln.mem (oC (t_S hl))) ?_
  exact⟨rfl,.refl _⟩
 ·tm_at"c"
  exact⟨rfl,.refl _⟩
 tm_at"c"
 refine o6 (m:=1) (xs:=l.v) (g:=λw=>.d (wD w)) (own:=λw=>[some (.d (wD w))]) (λw=>!decide (w∈az)) (λw=>.d (thD (false,w))) (oW ?_) ⋯ own1 (λ_ _=>rfl) (λw _ N ln=>?_) (λw _ _ N ln=>?_) λk=>?_
 ·tm_at"c"
  exact⟨⟨_,oJ (oC (oC (t_S hl)))⟩,rfl,pd (oC (oC (t_S hl))),.refl _⟩
 ·tm_at"c"
  exists uh (ln.mem (oC oF)) ?_
  exact⟨rfl,.refl _⟩
 ·tm_at"c"
  exact⟨rfl,.refl _⟩
 tm_at"c"
 have dl:=sD l.v az;refine sA (.tail _ (.head _)) oF (by rw[c_,c_];exact A_ (Nat.add_le_add (MB _ _) (MB _ _)) (by show _<=1000000;omega)) (.tl .hd) ?_;rw[show((az.filter λw=>!decide (w∈l.v)).map λw=>E.d (thD (true,w)))++((l.v.filter λw=>!decide (w∈az)).map λw=>E.d (thD (false,w)))=((diffT l.v az).map thD).map .d by unfold diffT;rw[o_,o_,w_,w_,w_,w_];rfl]
 tm_at"c"
 refine o6 (m:=1) (xs:=diffT l.v az) (g:=λt=>.d (thD t)) (own:=λt=>[some (.d (thD t))]) (λ_=>true) (λt=>.d (rowD l.b t)) (oW ?_) ⋯ own1 (λ_ _=>rfl) (λw _ N ln=>oU ⟨rfl,.refl _⟩) (λw _ _ N ln=>?_) λr=>?_
 ·tm_at"c"
  exact⟨⟨_,oJ (oC oF)⟩,rfl,pd (oC oF),.refl _⟩
 ·tm_at"c"
  exact⟨rfl,.refl _⟩
 tm_at"c"
 rw[show(((diffT l.v az).filter λ_=>true).map λt=>E.d (rowD l.b t))=((diffT l.v az).map (rowD l.b)).map .d by rw[w_,No.mpr λ_ _=>rfl];rfl];exact⟨_,(((le_S ok.kS hl).trans (Le.app [_,_] (.refl _)))).hd,q r p⟩
end
noncomputable abbrev ct{α:Type}(L:List (Tb α)):List (Nat×Nat×α):=L.map λl=>(l.a,l.b,l.v)
noncomputable def atT{α:Type}(L:List (Tb α))(d:α)(a b:Nat):α:=((L.find? λl=>l.a == a&&l.b == b).map (·.v)).getD d
def Gv{α:Type}{L:List (Tb α)}{d:α}{l:Tb α}(k:KeyN L)(hl:l∈L):atT L d l.a l.b=l.v:=by
 unfold atT;cases e:L.find? λx=>x.a == l.a&&x.b == l.b with
 | none=>have:=Sv.mp e l hl;simp at this
 | some x =>
  have h1:=List.find?_some e;have h2:=OJ e;simp only[k_,beq_iff_eq] at h1;rw[k.one h2 hl h1.1 h1.2];rfl
def wu{α β:Type}{L:List (Tb α)}{L':List (Tb β)}{g:Tb α->β}(h:ct L'=L.map λl=>(l.a,l.b,g l)):(L'.map λl=>(l.a,l.b))=L.map λl=>(l.a,l.b):=by
 have:=congrArg (PN λx:Nat×Nat×β=>(x.1,x.2.1)) h;rw[w_,w_] at this;exact this
def uH{α β:Type}{L:List (Tb α)}{L':List (Tb β)}{g:Tb α->β}(h:ct L'=L.map λl=>(l.a,l.b,g l)):(∀l∈L,∃l'∈L',l'.a=l.a/\l'.b=l.b/\l'.v=g l)/\∀l'∈L',∃l∈L,l'.a=l.a/\l'.b=l.b/\l'.v=g l:=by
 constructor
 ·intro l hl;have:(l.a,l.b,g l)∈ct L':=by rw[h];exact F_.mpr ⟨l,hl,rfl⟩
  obtain⟨l',h1,h2⟩:=F_.mp this;simp only[Nm] at h2;exact⟨l',h1,h2⟩
 ·intro l' hl;have:(l'.a,l'.b,l'.v)∈L.map λl=>(l.a,l.b,g l):=by rw[←h];exact F_.mpr ⟨l',hl,rfl⟩
  obtain⟨l,h1,h2⟩:=F_.mp this;simp only[Nm] at h2;exact⟨l,h1,h2.1.symm,h2.2.1.symm,h2.2.2.symm⟩
def Be{α:Type}{L:List (Tb α)}{a b:Nat}{v:α}:ct (tset L a b n v)=L.map λl=>(l.a,l.b,if l.a=a/\l.b=b then v else l.v):=by
 unfold tset;rw[ct,w_];refine ME λx _=>?_
 dsimp only[ON];split
 ·rename_i h;rw[h.1,h.2]
 ·rfl
def AK{α β:Type}{L:List (Tb β)}{S':List (Tb α)}{g:Tb β->α}{a b:Nat}{v:α}(hc:ct S'=L.map λl=>(l.a,l.b,g l)):ct (tset S' a b n v)=L.map λl=>(l.a,l.b,if l.a=a/\l.b=b then v else g l):=by
 rw[Be];have:=congrArg (PN λx:Nat×Nat×α=>(x.1,x.2.1,if x.1=a/\x.2.1=b then v else x.2.2)) hc;rw[w_,w_] at this;exact this
section
variable{T:Tn}{Y:List (Tb (List Th))}{Z S:List (Tb (List Wi))}{o:Ob}
def pC:T.m3 Y Z S R=T.m3 Y Z S []++R:=by unfold Tn.m3;simp only[Q8,MF,TX,MY]
def t_in:Le (T.m3 Y Z S (R'++R)) (R'++T.m3 Y Z S R):=by
 rw[pC,pC (R:=R),←MF,←MF];exact Le.perm (Ny.append_right R)
def wT:Le (R'++T.m3 Y Z S R) (T.m3 Y Z S (R'++R)):=by
 rw[pC (R:=R'++R),pC (R:=R),←MF,←MF];exact Le.perm (Ny.append_right R)
def uV{A:Mp}(h:Put n o R R'):Put n o (A++R) (A++R'):=by
 induction A with
 | nil=>exact h
 | cons c A ih=>exact .tl ih
def p_R(h:Put n o R R'):Put n o (T.m3 Y Z S R) (T.m3 Y Z S R'):=by
 rw[pC,pC (R:=R')];exact uV h
def t_R{c:Nat×Ob}(h:c∈R):c∈T.m3 Y Z S R:=by
 rw[pC];exact Mv _ h
end
section
variable{T:Tn}{Y:List (Tb (List Th))}{Q:E->Mp->Prop}{f h:Nat}{P:List Wi}
def JJ(ok:TOk T P f){l:Tb (List Wi)}(hl:l∈T.S)(ea:l.a=h)(eb:l.b=nb)(q:∀m n,Q (.ref m) ((m,.lst (((diffT l.v (dueL T h nb)).map (rowD nb)).map .d))::({ T with S:=tset T.S h nb n (dueL T h nb) }).m3 Y T.Z (tset T.S h nb n (dueL T h nb)) R)):wF (uv [.ref (T.A h).a,.d (.int nb)]) (T.m3 Y T.Z T.S R) Q:=by
 subst ea;subst eb;exact Lb ok hl q
def LK:(dueL T h nb).Nodup:=sx.2.1
def TOk.setS(ok:TOk T P f){S':List (Tb (List Wi))}{c:Tb (List Wi)->Bool}(hc:ct S'=T.S.map λl=>(l.a,l.b,if c l then dueL T h l.b else l.v)):TOk { T with S:=S' } P f:=by
 obtain⟨m1,m2⟩:=uH hc;refine { ok with kS:=?_,sP:=λl hl=>?_,sM:=λl hl=>?_ }
 ·unfold KeyN;rw[wu hc];exact ok.kS
 ·obtain⟨l0,h1,h2,h3,h4⟩:=m2 l hl;rw[h4];split
  ·exact⟨LK,(sg ok).1⟩
  ·exact ok.sP l0 h1
 ·obtain⟨l0,h1,h2,h3,h4⟩:=m2 l hl;rw[h2,h3];exact ok.sM l0 h1
def rowsT(T:Tn)(h:Nat)(us:List Nat):List D:=us.flatMap λb=>(diffT (atT T.S [] h b) (dueL T h b)).map (rowD b)
def vH(ok:TOk T P f)(h b:Nat):(atT T.S [] h b).length<=18:=by
 unfold atT;cases e:T.S.find? λx=>x.a == h&&x.b == b with
 | none=>exact Mu _
 | some l =>
  have hl:=OJ e;exact A_ (o8 l.v P (ok.sP l hl).1 (ok.sP l hl).2) ok.po.len
def vc(ok:TOk T P f)(h:Nat)(us:List Nat):(rowsT T h us).length<=36*us.length:=by
 induction us with
 | nil=>exact Mu _
 | cons b us ih =>
  have d2:=sD (atT T.S [] h b) (dueL T h b);have d3:=vH ok h b;have d4:=(sg ok (h:=h) (nb:=b)).2;unfold rowsT at *;rw[Rr,g_,c_,G_];omega
inductive I7(T:Tn)(h k r:Nat)(us:List Nat)(Y:List (Tb (List Th)))(R:Mp)(done:List Nat)(ν:Nms)(N:Mp):Prop | mk (x:Option E) (S':List (Tb (List Wi))):ν=[some (.ref (T.A h).a),some (.ref r),x]->N=(k,nsO us)::(r,.lst ((rowsT T h done).map .d))::({ T with S:=S' }).m3 Y T.Z S' R->ct S'=(T.S.map λl=>(l.a,l.b,if l.a == h&&done.contains l.b then dueL T h l.b else l.v))->I7 T h k r us Y R done ν N
def J7(ok:TOk T P f)(hh:h < T.many)(q:∀S' m us,us.Nodup->us.length<=8->(∀b,b∈us↔∃l∈T.S,l.a=h/\l.b=b)->ct S'=(T.S.map λl=>(l.a,l.b,if l.a == h then dueL T h l.b else l.v))->Q (.ref m) ((m,.lst ((rowsT T h us).map .d))::({ T with S:=S' }).m3 Y T.Z S' R)):wF (uf [.ref (T.A h).a]) (T.m3 Y T.Z T.S R) Q:=by
 have h8:=vZ ok.kS.nd (·.b) (·.a) (λx hx y hy e1 e2=>ok.kS.one hx hy e2 e1) h λl hl=>J_ (ok.sM l hl).2 ok.m8
 have ek:(sdct T.S h).map (·.1)=((T.S.filter λl=>l.a == h).map (·.b)).map λk:Nat=>D.int k:=by rw[w_,w_];rfl
 obtain⟨so,us,eu,pu⟩:=xV (l:=(T.S.filter λl=>l.a == h).map (·.b)) (by rw[c_];omega)
 have fB:us.Nodup:=by
  refine pu.nodup_iff.mpr ?_;refine map _ (S:=(·≠·)) (R:=λx y:Tb (List Wi)=>x≠y/\x.a=h/\y.a=h/\x∈T.S/\y∈T.S) (λx y ⟨ne,e1,e2,m1,m2⟩ e=>ne (ok.kS.one m1 m2 (e1.trans e2.symm) e)) ?_;refine Qm (R:=(·≠·)) (λ{x y} hx hy ne=>?_) (ok.kS.nd.filter λl=>l.a == h);obtain⟨m1,e1⟩:=z_.mp hx;obtain⟨m2,e2⟩:=z_.mp hy;exact⟨ne,by simpa using e1,by simpa using e2,m1,m2⟩
 have fC:∀b,b∈us↔∃l∈T.S,l.a=h/\l.b=b:=λb=>by
  rw[pu.mem_iff,F_];simp only[z_,beq_iff_eq,and_assoc]
 have j3:us.length<=8:=by rw[pu.length_eq,c_];exact h8
 walk_at "d"
 exists qR (oW ?_)
 refine Jc (oC (t_s hh)) (by rw[ek];exact so) λk=>?_
 rw[ek,eu];refine⟨⟨_,oJ oF⟩,?_⟩;rename_i r;refine pf (lk:=none) (xs:=us) (g:=λk:Nat=>.d (.int k)) (I7 T h k r us Y R) (oU ⟨rfl,λ_ _ _ ⟨_,_,_,h,_⟩=>by rw[h];exact pd oF,_,T.S,rfl,rfl,by simp⟩) ⋯ ?_ ?_
 ·rintro done nb ad _ _ e ⟨x,S',rfl,rfl,hc⟩;have aC:=ok.setS hc;obtain⟨l,hl,la,lb⟩:=(fC nb).mp (by rw[e];simp);obtain⟨l',c8,ea,eb,ev⟩:=(uH hc).1 l hl
  have mT:nb∉done:=by
   rw[e] at fB;exact λz=>(OH.mp fB).2.2 _ z _ p_ rfl
  have ev:l'.v=atT T.S [] h nb:=by
   rw[ev,if_neg (by simp[lb,mT]),←la,←lb,Gv ok.kS hl]
  exists ⟨_,pi ‹p›,wS.le ?_⟩
  refine wF.pre (t_in (R':=[_,_])) (JJ aC c8 (ea.trans la) (eb.trans lb) λm n=>?_);rw[ev,show dueL { T with S:=S' } h nb=dueL T h nb from rfl];have oq:done.length < 8:=by have:=congrArg length e;rw[g_,G_] at this;omega
  have d1:=vc ok h done;have d2:=sD (atT T.S [] h nb) (dueL T h nb);have d3:=vH ok h nb;have d4:=(sg ok (h:=h) (nb:=nb)).2
  tm_at"c"
  refine sA (oC (t_R (oC oF))) oF (by rw[c_,c_,c_];show _<=1000000;omega) (.tl (p_R (.tl .hd))) ?_;rw[←o_,show rowsT T h done++(diffT (atT T.S [] h nb) (dueL T h nb)).map (rowD nb)=rowsT T h (done++[nb]) by unfold rowsT;rw[R6,Rr,Q_,MY]];refine⟨_,(wT (R':=[_,_])).tl,qy ⟨_,_,rfl,rfl,?_⟩⟩;rw[AK hc];refine ME λx _=>?_
  by_cases c1:x.a=h
  ·by_cases c2:x.b=nb
   ·rw[if_pos ⟨c1,c2⟩,if_pos (by simp[c1,c2]),c2]
   ·rw[if_neg λz=>c2 z.2];simp[c1,c2]
  ·rw[if_neg λz=>c1 z.1,if_neg (by simp[c1]),if_neg (by simp[c1])]
 ·rintro _ _ ⟨x,S',rfl,rfl,hc⟩
  exists pc ?_
  refine⟨_,Le.tl (.refl _),q S' r us fB j3 fC ?_⟩;rw[hc];refine ME λl hl=>?_
  have:l.a=h->us.contains l.b=true:=λe=>NQ.mpr ((fC l.b).mpr ⟨l,hl,e,rfl⟩)
  by_cases c:l.a=h
  ·rw[this c,c];simp
  ·simp[c]
end
section
variable{T:Tn}{Y:List (Tb (List Th))}{Q:E->Mp->Prop}{f h:Nat}{P:List Wi}
def Plain(dd:D):Prop:=(∃(w:Str) (r:List D),dd=.tup (.str w::r)/\(w == "send")=false/\(w == "come")=false)\/∃(a:Nat) (t:Th),dd=.tup [.str "come", .int a,thD t]
structure Told(T1:Tn)(h:Nat)(S':List (Tb (List Wi)))(us:List Nat):Prop where
 nd:us.Nodup
 len:us.length<=8
 mem:∀b,b∈us↔∃l∈T1.S,l.a=h/\l.b=b
 ct:ct S'=(T1.S.map λl=>(l.a,l.b,if l.a == h then dueL T1 h l.b else l.v))
def CT{dd:D}(hd:Plain dd)(hh:h < T.many)(G:Tn->Prop)(hG:∀T1,G T1->TOk T1 P f/\T1.many=T.many/\T1.A=T.A)(ht:wF (qj [.ref (T.A h).a,.d dd]) (T.m3 Y T.Z T.S R) λ_ M'=>∃T1,Le (T1.m3 Y T1.Z T1.S R) M'/\G T1)(q:∀T1 S' m us,G T1->Told T1 h S' us->Q (.ref m) ((m,.lst ((rowsT T1 h us).map .d))::({ T1 with S:=S' }).m3 Y T1.Z S' R)):wF (vU [.ref (T.A h).a,.d dd]) (T.m3 Y T.Z T.S R) Q:=by
 have go:wS (sq (drp (meE (meL [("House", qj)]) (EV.nm 0) (csE (EV.nm 1) nilE))) (rtn (meE (meL [("House", uf)]) (EV.nm 0) nilE))) [some (.ref (T.A h).a),some (.d dd)] (T.m3 Y T.Z T.S R) (rets λx M'=>∃N,Le N M'/\Q x N):=by
  tm_at"c"
  refine wF.mono ht λ_ M' ⟨T1,l,g⟩=>?_
  obtain⟨ok,e1,e2⟩:=hG T1 g
  exists wS.pre l ?_
  rw[←e2]
  exists ⟨_,_,_,rfl,t_a (e1▸hh),?_⟩
  exists J7 ok (e1▸hh) λS' m us u1 u2 u3 u4=>?_
  exact⟨_,.refl _,q T1 S' m us g ⟨u1,u2,u3,u4⟩⟩
 refine ue ?_
 rcases hd with⟨w,r,rfl,h1,h2⟩ | ⟨a,t,rfl⟩
 ·tm_at"c"
  exists pB rfl (qE (PM 0) rfl) ?_
  exists oH h1 ?_
  exists pB rfl (qE (PM 0) rfl) ?_
  refine oH h2 ?_;exact oH rfl (ra (qc go))
 ·tm_at"c"
  exists oH rfl ?_
  exists pe rfl ?_
  exact oH (by cases t.1<;>rfl) (ra (qc go))
def FF{dd:D}(hd:Plain dd)(hh:h < T.many)(hl:∀i,(T.log i).length<=900000)(G:Tn->Prop)(hG:∀T1,G T1->TOk T1 P f/\T1.many=T.many/\T1.A=T.A/\T1.log=T.log)(ht:wF (qj [.ref (T.A h).a,.d dd]) (T.m3 Y T.Z T.S R) λ_ M'=>∃T1,Le (T1.m3 Y T1.Z T1.S R) M'/\G T1)(q:∀T1 S' lg m us,G T1->Told T1 h S' us->(∀i,(lg i).length<=(T.log i).length+300)->Q (.ref m) ((m,.lst ((rowsT T1 h us).map .d))::({ T1 with S:=S',log:=lg }).m3 Y T1.Z S' R)):wF (qT [.ref (T.A h).a,.d dd]) (T.m3 Y T.Z T.S R) Q:=by
 walk_at "d"
 refine CT hd hh G (λT1 g=>⟨(hG T1 g).1,(hG T1 g).2.1,(hG T1 g).2.2.1⟩) ht λT1 S' m us g td=>?_
 obtain⟨ok,e1,e2,e3⟩:=hG T1 g;have bI:h < T1.many:=e1▸hh;have rl:=vc ok h us;have u8:=td.len;have l0:=hl h;rw[←e3] at l0
 tm_at"c"
 rw[←e2]
 exists ⟨_,_,_,_,rfl,oC (t_a bI),rfl,_,_,rfl,oC (t_l bI),?_⟩
 have z:∀i,(({ T1 with S:=S' }:Tn).log i).length=(T1.log i).length:=λ_=>rfl
 exists pK (oC (t_l bI)) (by show(T1.log h).length < 1000000;omega) (.tl (Bw bI)) ?_
 exists ⟨_,_,rfl,oC (t_l bI),?_⟩
 exists sA (oC (t_l bI)) oF (by show(fset T1.log h _ h).length+_<=1000000;rw[oY,g_,c_,Ms,z];omega) (.tl (Bw bI)) ?_
 refine⟨_,.refl _,q T1 S' _ m us g td λi=>?_⟩;show(fset (fset T1.log h _) h _ i).length<=_;rw[←e3];by_cases c:i=h
 ·subst c;rw[oY];show(fset T1.log i _ i++_).length<=_;rw[oY,g_,g_,c_,Ms,z];omega
 ·rw[o4 c,o4 c];omega
end
def IK{Z:List (Tb (List Wi))}{a h:Nat}{v:List Wi}(no:∀l∈Z,¬(l.a=a/\l.b=h)):dput false (hdct Z h) (.int a) [NV (a:Int)] (.ref n)=hdct (Z++[⟨a,h,n,v⟩]) h:=by
 unfold hdct;rw[tH λx hx e=>?_,Nn,o_,O5 (by simp)]
 ·rfl
 ·obtain⟨h1,h2⟩:=z_.mp hx;exact no x h1 ⟨o9.mp e,by simpa using h2⟩
def GC{Z:List (Tb (List Wi))}{a h i:Nat}{v:List Wi}(ne:i≠h):hdct (Z++[⟨a,h,n,v⟩]) i=hdct Z i:=by
 unfold hdct;rw[Nn,O6 (by simpa using MQ ne),TY,MY]
def Kn{S:List (Tb (List Wi))}{b h:Nat}{v:List Wi}(no:∀l∈S,¬(l.a=h/\l.b=b)):dput false (sdct S h) (.int b) [NV (b:Int)] (.ref n)=sdct (S++[⟨h,b,n,v⟩]) h:=by
 unfold sdct;rw[tH λx hx e=>?_,Nn,o_,O5 (by simp)]
 ·rfl
 ·obtain⟨h1,h2⟩:=z_.mp hx;exact no x h1 ⟨by simpa using h2,o9.mp e⟩
def IQ{S:List (Tb (List Wi))}{b h i:Nat}{v:List Wi}(ne:i≠h):sdct (S++[⟨h,b,n,v⟩]) i=sdct S i:=by
 unfold sdct;rw[Nn,O6 (by simpa using MQ ne),TY,MY]
def w8{α:Type}{c:α->Nat×Ob}{L:List α}{x:α}:Le ((L++[x]).map c++R) (c x::(L.map c++R)):=by
 rw[o_,MF];exact Le.perm PH.symm
theorem rm_w{w:Wi}:∀{ws:List Wi},w∈ws->∃j,((ws.map wD).findIdx? λd=>deq d (wD w))=some j/\(ws.map wD).eraseIdx j=(ws.erase w).map wD
 | u::ws,h=>by
  rw[I_,Sr,tM,List.erase_cons];by_cases c:u=w
  ·exact⟨0,by rw[if_pos (by simpa using c)],by rw[if_pos (by simpa using c)];rfl⟩
  ·obtain⟨j,h1,h2⟩:=rm_w ((x_.mp h).resolve_left λz=>c z.symm);exact⟨j+1,by rw[if_neg (by simpa using c),h1];rfl,by rw[if_neg (by simpa using c),List.eraseIdx_cons_succ,h2];rfl⟩
section
variable{T:Tn}{Y:List (Tb (List Th))}{Z S:List (Tb (List Wi))}{Q:E->Mp->Prop}{f h:Nat}{P:List Wi}
def Ek{x:Tb (List Wi)}:Le (({ T with Z:=T.Z++[x] }).m3 Y Z S R) ((x.n,wsO x.v)::T.m3 Y Z S R):=
 oX (oX (oX (oX (oO (oO (oO (oO (oO (oO (oO (w8 (c:=λl:Tb (List Wi)=>(l.n,wsO l.v)))))))))))))
def G9{x:Tb (List Wi)}:Le (({ T with S:=T.S++[x] }).m3 Y Z S R) ((x.n,wsO x.v)::T.m3 Y Z S R):=
 oX (oX (oX (oX (oO (oO (oO (oO (oO (oO (oO (oO (w8 (c:=λl:Tb (List Wi)=>(l.n,wsO l.v))))))))))))))
def zC{x:Tb (List Th)}:Le (({ T with Y:=T.Y++[x] }).m3 Y Z S R) ((x.n,thO x.v)::T.m3 Y Z S R):=
 oX (oX (oX (oX (oO (oO (oO (oO (oO (oO (w8 (c:=λl:Tb (List Th)=>(l.n,thO l.v))))))))))))
def GU(ok:TOk T P f)(hh:h < T.many){k:Nat}{w:Wi}(no:∀p∈T.own h,p.1≠k)(q:Q (.d .non) (({ T with own:=fset T.own h (T.own h++[(k,w)]) }).m3 Y T.Z T.S R)):wF (qj [.ref (T.A h).a,.d (.tup [.str "wish", .int k,wD w])]) (T.m3 Y T.Z T.S R) Q:=by
 walk_at "d"
 exists pe rfl ?_
 refine rK (t_o hh) (o9.mpr rfl) (by rw[c_];have:=ok.oB h;show _ < 1000000;omega) (by
  rw[tH λx hx e=>no x hx (o9.mp e),show odct (T.own h)++[(D.int (k:Int),E.d (wD w))]=odct (T.own h++[(k,w)]) by unfold odct;rw[o_];rfl]
  exact HE hh) ?_
 exact⟨_,.refl _,q⟩
def EQ(ok:TOk T P f)(hh:h < T.many){b:Nat}(hz:∀l∈T.Z,¬(l.a=b/\l.b=h))(hs:∀l∈T.S,¬(l.a=h/\l.b=b))(q:∀n1 n2,Q (.d .non) (({ T with Z:=T.Z++[Tb.mk b h n1 nW],S:=T.S++[Tb.mk h b n2 nW] }).m3 Y (T.Z++[Tb.mk b h n1 nW]) (T.S++[Tb.mk h b n2 nW]) R)):wF (qj [.ref (T.A h).a,.d (.tup [.str "join", .int b])]) (T.m3 Y T.Z T.S R) Q:=by
 have z8:=Bs ok.kZ h λl hl=>J_ (ok.zM l hl).1 ok.m8
 have s8:=vZ ok.kS.nd (·.b) (·.a) (λx hx y hy e1 e2=>ok.kS.one hx hy e2 e1) h λl hl=>J_ (ok.sM l hl).2 ok.m8
 walk_at "d"
 exists oH rfl ?_
 exists oH rfl ?_
 exists pe rfl ?_
 rename_i n1
 exists rK (oC (t_e hh)) (o9.mpr rfl) (by rw[c_];show _ < 1000000;omega) (by rw[IK (v:=[]) hz];exact .tl (p_e hh λi ne=>GC ne)) ?_
 rename_i n2
 exists rK (oC (oC (t_s hh))) (o9.mpr rfl) (by rw[c_];show _ < 1000000;omega) (by rw[Kn (v:=[]) hs];exact .tl (.tl (p_s hh λi ne=>IQ ne))) ?_
 have:=q n1 n2;refine⟨_,?_,this⟩;refine Le.trans (N:=(n2,wsO [])::({ T with Z:=T.Z++[Tb.mk b h n1 nW] }).m3 Y (T.Z++[Tb.mk b h n1 nW]) (T.S++[Tb.mk h b n2 nW]) R) ?_ ?_
 ·exact G9 (T:={ T with Z:=T.Z++[Tb.mk b h n1 nW] }) (x:=Tb.mk h b n2 nW)
 ·exact(Ek (T:=T) (x:=Tb.mk b h n1 nW)).hd
def DT(ok:TOk T P f){l:Tb (List Wi)}(hl:l∈T.Z){w:Wi}(q:Q (.d .non) (({ T with Z:=tset T.Z l.a l.b l.n (l.v++[w]) }).m3 Y T.Z T.S R)):wF (qj [.ref (T.A l.b).a,.d (.tup [.str "come", .int l.a,thD (true,w)])]) (T.m3 Y T.Z T.S R) Q:=by
 have hh:=(ok.zM l hl).2;have j0:l.v.length<=18:=A_ (o8 l.v P (ok.zP l hl).1 (ok.zP l hl).2) ok.po.len
 walk_at "d"
 exists oH rfl ?_
 exists oH rfl ?_
 exists oH rfl ?_
 exists oH rfl ?_
 exists pe rfl ?_
 refine qr (e:=.ref l.n) (t_e hh) (o9.mpr rfl) (rW (l:=l) (z_.mpr ⟨hl,by simp⟩) (o9.mpr rfl) λx hx e=>?_) ?_
 ·obtain⟨h1,h2⟩:=z_.mp hx;exact ok.kZ.one h1 hl (o9.mp e) (by simpa using h2)
 exists ⟨_,_,rfl,t_Z hl,?_⟩
 exists pK (t_Z hl) (by rw[c_,c_];show _ < 1000000;omega) (by rw[show(l.v.map wD).map E.d++[E.d (wD w)]=((l.v++[w]).map wD).map E.d by rw[o_,o_];rfl];exact p_Z ok.kZ hl) ?_
 exact⟨_,.refl _,q⟩
def Fc(ok:TOk T P f){l:Tb (List Wi)}(hl:l∈T.Z){w:Wi}(hw:w∈l.v)(q:Q (.d .non) (({ T with Z:=tset T.Z l.a l.b l.n (l.v.erase w) }).m3 Y T.Z T.S R)):wF (qj [.ref (T.A l.b).a,.d (.tup [.str "come", .int l.a,thD (false,w)])]) (T.m3 Y T.Z T.S R) Q:=by
 have hh:=(ok.zM l hl).2;obtain⟨j,j1,j2⟩:=rm_w hw
 walk_at "d"
 exists oH rfl ?_
 exists oH rfl ?_
 exists oH rfl ?_
 exists oH rfl ?_
 exists oH rfl ?_
 refine qr (e:=.ref l.n) (t_e hh) (o9.mpr rfl) (rW (l:=l) (z_.mpr ⟨hl,by simp⟩) (o9.mpr rfl) λx hx e=>?_) ?_
 ·obtain⟨h1,h2⟩:=z_.mp hx;exact ok.kZ.one h1 hl (o9.mp e) (by simpa using h2)
 exists ⟨_,_,rfl,t_Z hl,?_⟩
 exists w_rm (t_Z hl) j1 (A_ (qM _) (by decide)) (by rw[j2];exact p_Z ok.kZ hl) ?_
 exact⟨_,.refl _,q⟩
end
def su{α:Type}{L:List (Tb α)}(k:KeyN L){l:Tb α}(hl:l∈L){v:α}:(tset L l.a l.b l.n v).map (λx=>(x.a,x.b,x.n))=L.map λx=>(x.a,x.b,x.n):=by
 unfold tset;rw[w_];refine ME λx hx=>?_
 dsimp only[ON];split
 ·rename_i h;rw[k.one hx hl h.1 h.2]
 ·rfl
def Kb{α:Type}{L L':List (Tb α)}(h:L'.map (λx=>(x.a,x.b,x.n))=L.map λx=>(x.a,x.b,x.n)):tdct L'=tdct L:=by
 have:=congrArg (PN λx:Nat×Nat×Nat=>(lnD (x.1,x.2.1),E.ref x.2.2)) h;rw[w_,w_] at this;exact this
def LV{L L':List (Tb (List Wi))}(h:L'.map (λx=>(x.a,x.b,x.n))=L.map λx=>(x.a,x.b,x.n))(i:Nat):hdct L' i=hdct L i:=by
 have:=congrArg (λl:List (Nat×Nat×Nat)=>(l.filter λx=>x.2.1 == i).map λx=>(D.int (x.1:Int),E.ref x.2.2)) h;simp only[Rq,w_] at this;exact this
def m3_Z{T:Tn}{Y:List (Tb (List Th))}{Z Z' S:List (Tb (List Wi))}(h:Z'.map (λx=>(x.a,x.b,x.n))=Z.map λx=>(x.a,x.b,x.n)):T.m3 Y Z' S R=T.m3 Y Z S R:=by
 unfold Tn.m3;rw[show hdct Z'=hdct Z from funext (LV h)]
def m3_Y{T:Tn}{Y Y':List (Tb (List Th))}{Z S:List (Tb (List Wi))}(h:Y'.map (λx=>(x.a,x.b,x.n))=Y.map λx=>(x.a,x.b,x.n)):T.m3 Y' Z S R=T.m3 Y Z S R:=by
 unfold Tn.m3;rw[Kb h]
def qq{p q:Nat×Nat}:kD true (lnD p)=some [NV (q.1:Int),NV (q.2:Int)]↔p=q:=by
 obtain⟨a,b⟩:=p;obtain⟨c,d⟩:=q;simp[kD,tkeyD,EV.keysD,keyD];omega
def tS{α:Type}{L:List (Tb α)}(k:KeyN L){l:Tb α}(hl:l∈L):dget true (tdct L) [NV (l.a:Int),NV (l.b:Int)]=some (.ref l.n):=
 rW (l:=l) hl (qq (q:=(l.a,l.b)).mpr rfl) λx hx e=>by
  have:=qq (q:=(l.a,l.b)).mp e;simp only[Nm] at this;exact k.one hx hl this.1 this.2
abbrev Tn.fs(T:Tn):List (Str×E):=[("fields", .d (.int T.fields)),("how", .d (.str T.how)),("houses", .ref T.hs),("lanes", .ref T.ln),("wished", .d (.int T.wished)),("gifts", .ref T.gf),("wishes_told", .d (.int T.told)),("letters_told", .d (.int 0))]
section
variable{T:Tn}{Z S:List (Tb (List Wi))}{Q:E->Mp->Prop}
def wL(kY:KeyN T.Y){l:Tb (List Th)}(hl:l∈T.Y)(hn:l.v.length<=900000){t:Th}(q:Q (.d .non) (({ T with Y:=tset T.Y l.a l.b l.n (l.v++[t]),told:=T.told+1 }).m3 (tset T.Y l.a l.b l.n (l.v++[t])) Z S R)):wF (tz [.ref T.t,.d (.int l.a),.d (.int l.b),.d (thD t)]) (T.m3 T.Y Z S R) Q:=by
 rw[m3_Y (su kY hl)] at q
 walk_at "d"
 refine qr (e:=.ref l.n) t_ln (qq (q:=(l.a,l.b)).mpr rfl) (tS kY hl) ?_
 exists ⟨_,_,rfl,t_Y hl,?_⟩
 exists pK (t_Y hl) (by rw[c_,c_];show _ < 1000000;omega) (by rw[show(l.v.map thD).map E.d++[E.d (thD t)]=((l.v++[t]).map thD).map E.d by rw[o_,o_];rfl];exact p_Y kY hl) ?_
 refine oH (by cases t.1<;>rfl) ?_
 exists pq ?_
 refine⟨_,_,_,({ T with Y:=tset T.Y l.a l.b l.n (l.v++[t]),told:=T.told+1 }).m3 T.Y Z S R,rfl,t_t,by show 8 < 1000;decide,?_,?_⟩
 ·show Put T.t (.ins "Town" (EV.putS "wishes_told" (.d (.int ((T.told:Int)+1))) T.fs)) _ _;exact .hd
 exact⟨_,.refl _,q⟩
end
def Gg{β:Type}{L:List β}(nd:L.Nodup)(g k:β->Nat)(one:∀x∈L,∀y∈L,g x=g y->k x=k y->x=y)(h:Nat):((L.filter λl=>k l == h).map g).Nodup:=by
 tm_at"n"
noncomputable abbrev ky{α:Type}(L:List (Tb α)):List (Nat×Nat×Nat):=L.map λx=>(x.a,x.b,x.n)
structure Dn(T1:Tn)(h:Nat)(T2:Tn):Prop where
 eq:T2={ T1 with S:=T2.S,log:=T2.log,Y:=T2.Y,told:=T2.told }
 S:ct T2.S=T1.S.map λl=>(l.a,l.b,if l.a == h then dueL T1 h l.b else l.v)
 Y:ct T2.Y=T1.Y.map λl=>(l.a,l.b,if l.a == h then l.v++diffT (atT T1.S [] h l.b) (dueL T1 h l.b) else l.v)
 told:T2.told=T1.told+((T1.Y.filter λl=>l.a == h).map λl=>(diffT (atT T1.S [] h l.b) (dueL T1 h l.b)).length).sum
 log:∀i,(T2.log i).length<=(T1.log i).length+300
def rowsP(T:Tn)(h:Nat)(us:List Nat):List (Nat×Th):=us.flatMap λb=>(diffT (atT T.S [] h b) (dueL T h b)).map λt=>(b,t)
def FU{T:Tn}{h:Nat}{us:List Nat}:rowsT T h us=(rowsP T h us).map λp=>rowD p.1 p.2:=by
 unfold rowsT rowsP;rw[List.map_flatMap];simp only[w_];rfl
theorem At{T:Tn}{h b:Nat}:∀{us:List Nat},us.Nodup->b∈us->((rowsP T h us).filter λp=>p.1 == b).map (·.2)=diffT (atT T.S [] h b) (dueL T h b)
 | u::us,nd,hb=>by
  rw[MH] at nd
  have e1:∀ts:List Th,((ts.map λt=>(u,t)).filter λp:Nat×Th=>p.1 == b)=if u=b then ts.map λt=>(u,t) else[]:=λts=>by
   by_cases c:u=b
   ·rw[if_pos c,No.mpr];intro p hp;obtain⟨t,_,rfl⟩:=F_.mp hp;simpa using c
   ·rw[if_neg c,Ol];intro p hp;obtain⟨t,_,rfl⟩:=F_.mp hp;simpa using c
  have e2:rowsP T h (u::us)=(diffT (atT T.S [] h u) (dueL T h u)).map (λt=>(u,t))++rowsP T h us:=by unfold rowsP;rw[Rr]
  rw[e2,Nn,e1,o_];by_cases c:u=b
  ·subst c
   have:((rowsP T h us).filter λp=>p.1 == u)=[]:=by
    rw[Ol];intro p hp;obtain⟨v,hv,hp⟩:=Oz.mp hp;obtain⟨t,_,rfl⟩:=F_.mp hp;simpa using λz:v=u=>nd.1 (z▸hv)
   rw[this,if_pos rfl,w_,RT,MY];exact map_id _
  ·rw[if_neg c,RT,TX];exact At nd.2 ((x_.mp hb).resolve_left λz=>c z.symm)
section
variable{T:Tn}{Q:E->Mp->Prop}{f h:Nat}{P:List Wi}
def FH{Z S:List (Tb (List Wi))}(kY:KeyN T.Y){a b:Nat}{l:Tb (List Th)}(hl:l∈T.Y)(ea:l.a=a)(eb:l.b=b)(hn:l.v.length<=900000){t:Th}(q:Q (.d .non) (({ T with Y:=tset T.Y a b l.n (l.v++[t]),told:=T.told+1 }).m3 (tset T.Y a b l.n (l.v++[t])) Z S R)):wF (tz [.ref T.t,.d (.int a),.d (.int b),.d (thD t)]) (T.m3 T.Y Z S R) Q:=by
 subst ea;subst eb;exact wL kY hl hn q
inductive I11(T1:Tn)(h m:Nat)(lg:Nat->List E)(dd:D)(us:List Nat)(S':List (Tb (List Wi)))(R:Mp)(done:List (Nat×Th))(ν:Nms)(N:Mp):Prop | mk (x:Option E) (Y':List (Tb (List Th))):ν=[some (.ref T1.t),some (.d (.int h)),some (.d dd),x]->(N=(m,.lst (((rowsP T1 h us).map λp=>rowD p.1 p.2).map .d))::({ T1 with S:=S',log:=lg,Y:=Y',told:=T1.told+done.length }).m3 Y' T1.Z S' R)->ky Y'=ky T1.Y->(ct Y'=T1.Y.map λl=>(l.a,l.b,if l.a == h then l.v++(done.filter λp=>p.1 == l.b).map (·.2) else l.v))->I11 T1 h m lg dd us S' R done ν N
def wz{dd:D}(hd:Plain dd)(hh:h < T.many)(hl:∀i,(T.log i).length<=900000)(hy:∀l∈T.Y,l.v.length<=800000)(G:Tn->Prop)(hG:∀T1,G T1->TOk T1 P f/\T1.many=T.many/\T1.A=T.A/\T1.log=T.log/\T1.Y=T.Y/\T1.t=T.t/\∀b,(∃l∈T1.S,l.a=h/\l.b=b)↔∃l∈T1.Y,l.a=h/\l.b=b)(ht:wF (qj [.ref (T.A h).a,.d dd]) (T.m R) λ_ M'=>∃T1,Le (T1.m3 T.Y T1.Z T1.S R) M'/\G T1)(q:∀T1 T2,G T1->Dn T1 h T2->ky T2.Y=ky T1.Y->Q (.d .non) (T2.m R)):wF (qZ [.ref T.t,.d (.int h),.d dd]) (T.m R) Q:=by
 refine vb ?_
 exists qR (oW ?_)
 refine oT (e:=.ref (T.A h).a) t_hs (qE ⋯ (by rw[MC,Mx,P4 hh];rfl)) ?_
 exists ⟨_,_,_,rfl,t_a hh,?_⟩
 refine FF hd hh hl G (λT1 g=>⟨(hG T1 g).1,(hG T1 g).2.1,(hG T1 g).2.2.1,(hG T1 g).2.2.2.1⟩) ht λT1 S' lg m us g td mU=>⟨⟨_,oJ oF⟩,?_⟩
 obtain⟨ok,e1,e2,e3,e4,e5,e6⟩:=hG T1 g;have rl:=vc ok h us;have u8:=td.len;rw[FU] at rl ⊢;rw[c_] at rl;rw[←e4,←e5];refine pf (lk:=none) (xs:=rowsP T1 h us) (g:=λp=>.d (rowD p.1 p.2)) (I11 T1 h m lg dd us S' R) (oU ⟨rfl,λ_ _ _ ⟨_,_,_,h,_,_⟩=>by rw[h];exact pd oF,_,T1.Y,rfl,rfl,rfl,by simp⟩) ⋯ ?_ ?_
 ·rintro done ⟨b,t⟩ ad _ _ e ⟨x,Y',rfl,rfl,hk,hc⟩
  have mV:b∈us:=by
   have:(b,t)∈rowsP T1 h us:=by rw[e];simp
   obtain⟨v,hv,hp⟩:=Oz.mp this;obtain⟨t',_,e⟩:=F_.mp hp;cases e;exact hv
  obtain⟨l0,h0,la,lb⟩:=(e6 b).mp ((td.mem b).mp mV);obtain⟨l',c8,ea,eb,ev⟩:=(uH hc).1 l0 h0;have j4:KeyN Y':=by unfold KeyN;rw[wu hc];exact ok.kY
  have dI:done.length<=288:=by have:=congrArg length e;rw[g_] at this;omega
  have au:l'.v.length<=900000:=by
   have h1:=hy l0 (e4▸h0);have h2:=MB (λp:Nat×Th=>p.1 == l0.b) done;rw[ev];split
   ·rw[g_,c_];omega
   ·omega
  exists ⟨_,pi ‹p›,wS.le ?_⟩
  exists oH rfl ?_
  have tn:=su j4 c8 (v:=l'.v++[t]);rw[ea.trans la,eb.trans lb] at tn
  exists wF.pre (t_in (R':=[_])) (FH (T:={ T1 with S:=S',log:=lg,Y:=Y',told:=T1.told+done.length }) j4 c8 (ea.trans la) (eb.trans lb) au ?_)
  refine⟨_,wT (R':=[_]),qy ⟨_,tset Y' h b l'.n (l'.v++[t]),rfl,by rw[g_,Ms,Nat.add_assoc];rfl,tn.trans hk,?_⟩⟩;rw[AK hc];refine ME λy hy=>?_
  by_cases c1:y.a=h
  ·by_cases c2:y.b=b
   ·obtain rfl:y=l0:=ok.kY.one hy h0 (c1.trans la.symm) (c2.trans lb.symm);rw[if_pos ⟨c1,c2⟩,ev,if_pos (by simpa using c1),if_pos (by simpa using c1),Nn,o_,MF,O5 (by simpa using c2.symm)];rfl
   ·rw[if_neg λz=>c2 z.2,if_pos (by simpa using c1),if_pos (by simpa using c1),Nn,O6 (by simpa using MQ c2),TY,MY]
  ·rw[if_neg λz=>c1 z.1,if_neg (by simpa using c1),if_neg (by simpa using c1)]
 ·rintro _ _ ⟨x,Y',rfl,rfl,hk,hc⟩;refine pc ?_;refine⟨_,Le.tl (.refl _),q T1 { T1 with S:=S',log:=lg,Y:=Y',told:=T1.told+(rowsP T1 h us).length } g ⟨rfl,td.ct,?_,?_,λi=>by rw[e3];exact mU i⟩ hk⟩
  ·rw[hc];refine ME λy hy=>?_
   by_cases c1:y.a=h
   ·rw[if_pos (by simpa using c1),if_pos (by simpa using c1),At td.nd ((td.mem y.b).mpr ((e6 y.b).mpr ⟨y,hy,c1,rfl⟩))]
   ·rw[if_neg (by simpa using c1),if_neg (by simpa using c1)]
  ·show T1.told+(rowsP T1 h us).length=_
   have pm:us.Perm ((T1.Y.filter λl=>l.a == h).map (·.b)):=by
    refine(List.perm_ext_iff_of_nodup td.nd (Gg ok.kY.nd (·.b) (·.a) (λx hx y hy e1 e2=>ok.kY.one hx hy e2 e1) h)).mpr λb=>?_
    rw[td.mem,e6,F_];simp only[z_,beq_iff_eq,and_assoc]
   have:=(pm.map λb=>(diffT (atT T1.S [] h b) (dueL T1 h b)).length).sum_nat;rw[w_] at this;unfold rowsP;rw[List.length_flatMap];simp only[c_];rw[this];rfl
end
noncomputable abbrev rdL(Y:List (Tb (List Th))):List (Nat×Nat):=(Y.filter λl=>decide (l.a < l.b)).map λl=>(l.a,l.b)
abbrev rdD(many:Nat)(Y:List (Tb (List Th))):D:=.tup [.int many,.tup (sortD ((rdL Y).map lnD))]
def Ap{Y:List (Tb (List Th))}(k:KeyN Y)(h8:∀l∈Y,l.a < 8/\l.b < 8):(rdL Y).length<=28:=by
 have nd:(rdL Y).Nodup:=by
  have:=k.sublist ((Oy (p:=λl:Tb (List Th)=>decide (l.a < l.b)) (l:=Y)).map λl:Tb (List Th)=>(l.a,l.b));exact this
 refine A_ (o8 _ (((MO 8).flatMap λa=>(MO 8).map λb=>(a,b)).filter λp=>decide (p.1 < p.2)) nd λp hp=>?_) (by decide);obtain⟨l,hl,rfl⟩:=F_.mp hp;obtain⟨h1,h2⟩:=z_.mp hl;refine z_.mpr ⟨Oz.mpr ⟨l.a,MG.mpr (h8 l h1).1,F_.mpr ⟨l.b,MG.mpr (h8 l h1).2,rfl⟩⟩,h2⟩
section
variable{T:Tn}{Z S:List (Tb (List Wi))}{Q:E->Mp->Prop}{f:Nat}{P:List Wi}
def sj(ok:TOk T P f)(q:Q (.d (rdD T.many T.Y)) (T.m3 T.Y Z S R)):wF (qY [.ref T.t]) (T.m3 T.Y Z S R) Q:=by
 have h8:∀l∈T.Y,l.a < 8/\l.b < 8:=λl hl=>⟨J_ (ok.yM l hl).1 ok.m8,J_ (ok.yM l hl).2 ok.m8⟩
 have mW:=Ap ok.kY h8
 have ou:T.Y.length<=64:=by
  have:=o8 (T.Y.map λl:Tb (List Th)=>(l.a,l.b)) ((MO 8).flatMap λa=>(MO 8).map λb=>(a,b)) ok.kY λp hp=>by
   obtain⟨l,hl,rfl⟩:=F_.mp hp;exact Oz.mpr ⟨l.a,MG.mpr (h8 l hl).1,F_.mpr ⟨l.b,MG.mpr (h8 l hl).2,rfl⟩⟩
  rw[c_] at this;exact A_ this (by decide)
 obtain⟨so,us,eu,pu⟩:=uU (l:=rdL T.Y) ⋯
 walk_at "d"
 exists yu (yo (sh ?_))
 refine⟨_,_,rfl,t_ln,λM2 h1 h2 h3 h4=>?_⟩;refine Aj (M1:=M2) (n:=T.ln) (m:=1) (xs:=T.Y) (g:=λl=>.d (lnD (l.a,l.b))) (own:=λl=>[some (.d (lnD (l.a,l.b)))]) (λl=>decide (l.a < l.b)) (λl=>.d (lnD (l.a,l.b))) h3 h4 (by rw[w_];rfl) ⋯ own1 (λ_ _=>rfl) (λl _ N ln=>?_) (λl _ _ N ln=>?_) λp=>?_
 ·tm_at"c"
  exact⟨by rw[Nq];simp,.refl _⟩
 ·tm_at"c"
  exact⟨rfl,.refl _⟩
 tm_at"c"
 exists rh (ds:=(rdL T.Y).map lnD) (by rw[w_,w_];exact oJ oF) so λk=>?_
 rw[c_,MD]
 exists ⟨_,_,rfl,by rw[qA],?_⟩
 exact⟨_,Le.tl (Le.tl (.refl _)),q⟩
end
def adjY{α:Type}(Y:List (Tb α))(a b:Nat):Prop:=∃l∈Y,l.a=a/\l.b=b
structure Sym{α:Type}(Y:List (Tb α)):Prop where
 ne:∀l∈Y,l.a≠l.b
 sy:∀a b,adjY Y a b->adjY Y b a
def GD{many:Nat}{Y:List (Tb (List Th))}(k:KeyN Y)(h8:∀l∈Y,l.a < 8/\l.b < 8)(sy:Sym Y):∃us:List (Nat×Nat),rdD many Y=wbD many us/\us.length < 64/\∀a b,adj us a b↔adjY Y a b:=by
 have mW:=Ap k h8;obtain⟨so,us,eu,pu⟩:=uU (l:=rdL Y) ⋯
 have mem:∀a b,(a,b)∈us↔a < b/\adjY Y a b:=λa b=>by
  rw[pu.mem_iff];constructor
  ·intro h;obtain⟨l,hl,e⟩:=F_.mp h;simp only[Nm] at e;obtain⟨h1,h2⟩:=z_.mp hl;have h2:=of_decide_eq_true h2;exact⟨⋯,l,h1,e⟩
  ·rintro⟨h,l,h1,rfl,rfl⟩;exact F_.mpr ⟨l,z_.mpr ⟨h1,decide_eq_true h⟩,rfl⟩
 refine⟨us,by unfold rdD;rw[eu],by rw[pu.length_eq];omega,λa b=>?_⟩;unfold adj;rw[mem,mem];constructor
 ·rintro(⟨_,h⟩ | ⟨_,h⟩)
  ·exact h
  ·exact sy.sy _ _ h
 ·intro h;obtain⟨l,hl,rfl,rfl⟩:=h;have:=sy.ne l hl;by_cases c:l.a < l.b
  ·exact .inl ⟨c,l,hl,rfl,rfl⟩
  ·exact .inr ⟨⋯,sy.sy _ _ ⟨l,hl,rfl,rfl⟩⟩
structure TG(T:Tn)(P:List Wi)(f:Nat):Prop where
 ok:TOk T P f
 sy:Sym T.Y
 kz:∀a b,adjY T.Z a b↔adjY T.Y a b
 ks:∀a b,adjY T.S a b↔adjY T.Y a b
 hl:∀i,(T.log i).length<=800000
 hy:∀l∈T.Y,l.v.length<=700000
section
variable{T:Tn}{Z S:List (Tb (List Wi))}{Q:E->Mp->Prop}{f h:Nat}{P:List Wi}
def TOk.y8(ok:TOk T P f):∀l∈T.Y,l.a < 8/\l.b < 8:=λl hl=>⟨J_ (ok.yM l hl).1 ok.m8,J_ (ok.yM l hl).2 ok.m8⟩
def TG.road(g:TG T P f):∃us:List (Nat×Nat),rdD T.many T.Y=wbD T.many us/\us.length < 64/\∀a b,adj us a b↔adjY T.Y a b:=GD g.ok.kY g.ok.y8 g.sy
def DP(g:TG T P f)(hh:h < T.many){w:Wi}(hw:w.length=T.fields)(q:Q (.d .non) (T.m3 T.Y Z S R)):wF (v9 [.ref T.t,.d (.int h),.d (wD w)]) (T.m3 T.Y Z S R) Q:=by
 obtain⟨us,eu,ul,ua⟩:=g.road
 walk_at "d"
 exists sj g.ok ?_
 rw[eu]
 exists rQ hh ?_
 exists oH (by rw[c_,c_,hw];simp) ?_
 exact⟨_,.refl _,q⟩
def okW(ok:TOk T P f){k:Nat}{w:Wi}(hw:w∈P)(cX:(T.own h).length<=62):TOk { T with wished:=n,own:=fset T.own h (T.own h++[(k,w)]) } P f:={ ok with
 oP:=λi p hp=>by
  have hp:p∈fset T.own h (T.own h++[(k,w)]) i:=hp;by_cases c:i=h
  ·subst c;rw[oY] at hp
   rcases L_.mp hp with hp | hp
   ·exact ok.oP i p hp
   ·rw[m_.mp hp];exact hw
  ·rw[o4 c] at hp;exact ok.oP i p hp
 oB:=λi=>by
  show(fset T.own h (T.own h++[(k,w)]) i).length<=63;by_cases c:i=h
  ·subst c;rw[oY,g_,Ms];omega
  ·rw[o4 c]
   exact ok.oB i }
def JO(g:TG T P f)(hh:h < T.many){w:Wi}(hw:w∈P)(hf:f=T.fields)(cX:(T.own h).length<=62)(ck:∀p∈T.own h,p.1≠T.wished)(q:∀T2,Dn { T with wished:=T.wished+1,own:=fset T.own h (T.own h++[(T.wished,w)]) } h T2->ky T2.Y=ky T.Y->Q (.d (.int T.wished)) (T2.m R)):wF (vD [.ref T.t,.d (.int h),.d (wD w)]) (T.m R) Q:=by
 have ok:=g.ok
 walk_at "d"
 exists DP g hh (by rw[(ok.po.all w hw).len,hf]) ?_
 exists pq ?_
 refine⟨_,_,_,({ T with wished:=T.wished+1 }).m3 T.Y T.Z T.S R,rfl,t_t,by show 8 < 1000;decide,?_,?_⟩
 ·show Put T.t (.ins "Town" (EV.putS "wished" (.d (.int ((T.wished:Int)+1))) T.fs)) _ _;exact .hd
 tm_at"c"
 refine wz (T:={ T with wished:=T.wished+1 }) (P:=P) (f:=f) (.inl ⟨_,_,rfl,rfl,rfl⟩) hh (λi=>A_ (g.hl i) (by decide)) (λl hl=>A_ (g.hy l hl) (by decide)) (λT1=>T1={ T with wished:=T.wished+1,own:=fset T.own h (T.own h++[(T.wished,w)]) }) (λT1 e=>?_) ?_ λT1 T2 e d k=>?_
 ·subst e;exact⟨okW g.ok hw cX,rfl,rfl,rfl,rfl,rfl,λb=>g.ks h b⟩
 ·exact GU (T:={ T with wished:=T.wished+1 }) { ok with } hh ck ⟨_,.refl _,rfl⟩
 ·subst e
  tm_at"c"
  exact⟨_,.refl _,q T2 d k⟩
end
def vd{α β:Type}{L:List (Tb α)}{L':List (Tb β)}(h:ky L'=ky L):(L'.map λl=>(l.a,l.b))=L.map λl=>(l.a,l.b):=by
 have:=congrArg (PN λx:Nat×Nat×Nat=>(x.1,x.2.1)) h;rw[w_,w_] at this;exact this
def qO{α:Type}{L:List (Tb α)}{a b:Nat}:adjY L a b↔(a,b)∈L.map λl=>(l.a,l.b):=by
 rw[F_];unfold adjY;simp only[Nm]
def wQ{α β:Type}{L:List (Tb α)}{L':List (Tb β)}(h:ky L'=ky L){a b:Nat}:adjY L' a b↔adjY L a b:=by
 rw[qO,qO,vd h]
def As{α β:Type}{L:List (Tb α)}{L':List (Tb β)}(h:ky L'=ky L){l':Tb β}(hl:l'∈L'):∃l∈L,l.a=l'.a/\l.b=l'.b:=(wQ h).mp ⟨l',hl,rfl,rfl⟩
noncomputable def appT(v:List Wi)(t:Th):List Wi:=if t.1 then v++[t.2] else v.erase t.2
section
variable{T:Tn}{Z S:List (Tb (List Wi))}{Q:E->Mp->Prop}{f:Nat}{P:List Wi}
def TOk.ofY(ok:TOk T P f){Y':List (Tb (List Th))}(h:ky Y'=ky T.Y):TOk { T with Y:=Y' } P f:={ ok with
 kY:=by unfold KeyN;rw[vd h];exact ok.kY
 yM:=λl hl=>by obtain⟨l0,h0,e1,e2⟩:=As h hl;rw[←e1,←e2];exact ok.yM l0 h0 }
def TOk.ofZ(ok:TOk T P f){Z':List (Tb (List Wi))}(h:ky Z'=ky T.Z)(hz:∀l∈Z',l.v.Nodup/\∀w∈l.v,w∈P):TOk { T with Z:=Z' } P f:={ ok with
 kZ:=by unfold KeyN;rw[vd h];exact ok.kZ
 zP:=hz
 zM:=λl hl=>by obtain⟨l0,h0,e1,e2⟩:=As h hl;rw[←e1,←e2];exact ok.zM l0 h0 }
def BH{α:Type}{L:List (Tb α)}{a b:Nat}{v:α}{x:Tb α}(h:x∈tset L a b n v):x=⟨a,b,n,v⟩\/x∈L:=by
 obtain⟨y,hy,rfl⟩:=F_.mp h;split
 ·exact .inl rfl
 ·exact .inr hy
def zJ{Y:List (Tb (List Th))}{Z':List (Tb (List Wi))}(h:ky Z'=ky Z):Le (T.m3 Y Z' S R) (T.m3 Y Z S R):=by rw[m3_Z h];exact .refl _
abbrev Tn.stp(T:Tn)(l:Tb (List Th))(z:Tb (List Wi))(t:Th)(ad:List Th):Tn:={ T with Y:=tset T.Y l.a l.b l.n ad,Z:=tset T.Z z.a z.b z.n (appT z.v t) }
def Mh(g:TG T P f){l:Tb (List Th)}(hl:l∈T.Y){t:Th}{ad:List Th}(hv:l.v=t::ad){z:Tb (List Wi)}(hz:z∈T.Z)(ea:z.a=l.a)(eb:z.b=l.b)(hin:t.1=false->t.2∈z.v)(hn:(appT z.v t).Nodup)(hP:t.2∈P)(q:∀T2,TOk (T.stp l z t ad) P f->Dn (T.stp l z t ad) l.b T2->ky T2.Y=ky T.Y->Q (.d (thD t)) (T2.m R)):wF (xB [.ref T.t,.d (.int l.a),.d (.int l.b)]) (T.m R) Q:=by
 obtain⟨us,eu,ul,ua⟩:=g.road;have ok:=g.ok;have hY:(l.n,thO (t::ad))∈T.m R:=hv▸t_Y hl;have tn:=su ok.kY hl (v:=ad);have zn:=su ok.kZ hz (v:=appT z.v t)
 walk_at "d"
 exists sj ok ?_
 rw[eu]
 exists xg (ok.yM l hl).1 (ok.yM l hl).2 ul ((ua _ _).mpr ⟨l,hl,rfl,rfl⟩) ?_
 exists qr (e:=.ref l.n) t_ln (qq (q:=(l.a,l.b)).mpr rfl) (tS ok.kY hl) ?_
 exists oH (decide_eq_false (by simp only[I_,G_];omega)) ?_
 exists yD (i:=0) hY (by decide) rfl (p_Y (v:=ad) ok.kY hl) ?_
 rw[←m3_Y tn];have fD:=ok.ofY tn
 have j5:TOk (T.stp l z t ad) P f:=fD.ofZ (Z':=tset T.Z z.a z.b z.n (appT z.v t)) zn λx hx=>by
  rcases BH hx with rfl | hx
  ·refine⟨hn,λw hw=>?_⟩;unfold appT at hw;split at hw
   ·rcases L_.mp hw with hw | hw
    ·exact(ok.zP z hz).2 w hw
    ·rw[m_.mp hw];exact hP
   ·exact(ok.zP z hz).2 w (Rv hw)
  ·exact ok.zP x hx
 refine wz (T:={ T with Y:=tset T.Y l.a l.b l.n ad }) (P:=P) (f:=f) (.inr ⟨l.a,t,rfl⟩) (ok.yM l hl).2 (λi=>A_ (g.hl i) (by decide)) (λx hx=>?_) (λT1=>T1={ T with Y:=tset T.Y l.a l.b l.n ad,Z:=tset T.Z z.a z.b z.n (appT z.v t) }) (λT1 e=>?_) ?_ λT1 T2 e d k=>?_
 ·rcases BH hx with rfl | hx
  ·have:=g.hy l hl;rw[hv,G_] at this;show ad.length<=800000;omega
  ·exact A_ (g.hy x hx) (by decide)
 ·subst e;exact⟨j5,rfl,rfl,rfl,rfl,rfl,λb=>(g.ks l.b b).trans (wQ tn).symm⟩
 ·rw[←ea,←eb];obtain⟨b,w⟩:=t;cases b with
  | true=>exact DT (T:={ T with Y:=tset T.Y z.a z.b l.n ad }) (by rw[ea,eb];exact fD) hz ⟨_,zJ zn,rfl⟩
  | false=>exact Fc (T:={ T with Y:=tset T.Y z.a z.b l.n ad }) (by rw[ea,eb];exact fD) hz (hin rfl) ⟨_,zJ zn,rfl⟩
 ·subst e
  tm_at"c"
  exact⟨_,.refl _,q T2 j5 d (k.trans tn)⟩
end
def v7{α:Type}{L:List (Tb α)}(k:KeyN L){a b:Nat}{v:α}(no:¬adjY L a b):KeyN (L++[⟨a,b,n,v⟩]):=by
 unfold KeyN;rw[o_,I_,RT];refine OH.mpr ⟨k,by simp,λx hx y hy e=>?_⟩;rw[m_.mp hy] at e;exact no (qO.mpr (e▸hx))
def pS{α:Type}{L:List (Tb α)}{a b x y:Nat}{v:α}:adjY (L++[⟨a,b,n,v⟩]) x y↔adjY L x y\/(x=a/\y=b):=by
 rw[qO,qO,o_,L_,I_,RT,m_,Nm]
def xN{α:Type}{L:List (Tb α)}{a b:Nat}{v:α}(no:¬adjY L a b):dput true (tdct L) (lnD (a,b)) [NV (a:Int),NV (b:Int)] (.ref n)=tdct (L++[⟨a,b,n,v⟩]):=by
 unfold tdct;rw[tH λx hx e=>?_,o_]
 ·rfl
 ·have:=qq (q:=(a,b)).mp e;simp only[Nm] at this;exact no ⟨x,hx,this⟩
def xU{α β:Type}{L:List (Tb α)}{L':List (Tb β)}{g:Tb α->β}(h:ct L'=L.map λl=>(l.a,l.b,g l)){a b:Nat}:adjY L' a b↔adjY L a b:=by
 rw[qO,qO,wu h]
section
variable{T:Tn}{Z S:List (Tb (List Wi))}{Q:E->Mp->Prop}{f:Nat}{P:List Wi}
def TOk.addZ(ok:TOk T P f){a b:Nat}(no:¬adjY T.Z a b)(ha:a < T.many)(hb:b < T.many):TOk { T with Z:=T.Z++[Tb.mk a b n nW] } P f:={ ok with
 kZ:=v7 ok.kZ no
 zP:=λl hl=>(L_.mp hl).elim (ok.zP l) λh=>by rw[m_.mp h];simp
 zM:=λl hl=>(L_.mp hl).elim (ok.zM l) λh=>by rw[m_.mp h];exact⟨ha,hb⟩ }
def TOk.addS(ok:TOk T P f){a b:Nat}(no:¬adjY T.S a b)(ha:a < T.many)(hb:b < T.many):TOk { T with S:=T.S++[Tb.mk a b n nW] } P f:={ ok with
 kS:=v7 ok.kS no
 sP:=λl hl=>(L_.mp hl).elim (ok.sP l) λh=>by rw[m_.mp h];simp
 sM:=λl hl=>(L_.mp hl).elim (ok.sM l) λh=>by rw[m_.mp h];exact⟨ha,hb⟩ }
def TOk.addY(ok:TOk T P f){a b:Nat}(no:¬adjY T.Y a b)(ha:a < T.many)(hb:b < T.many):TOk { T with Y:=T.Y++[Tb.mk a b n nT] } P f:={ ok with
 kY:=v7 ok.kY no
 yM:=λl hl=>(L_.mp hl).elim (ok.yM l) λh=>by rw[m_.mp h];exact⟨ha,hb⟩ }
abbrev Tn.end1(T:Tn)(h b n1 n2:Nat):Tn:={ T with Z:=T.Z++[Tb.mk b h n1 nW],S:=T.S++[Tb.mk h b n2 nW] }
def yp(ok:TOk T P f){h b:Nat}(hl:∀i,(T.log i).length<=900000)(hy:∀l∈T.Y,l.v.length<=800000)(hh:h < T.many)(hb:b < T.many)(nz:¬adjY T.Z b h)(ns:¬adjY T.S h b)(e6:∀x,adjY T.S h x\/x=b↔adjY T.Y h x)(q:∀n1 n2 T2,TOk (T.end1 h b n1 n2) P f->Dn (T.end1 h b n1 n2) h T2->ky T2.Y=ky T.Y->Q (.d .non) (T2.m R)):wF (qZ [.ref T.t,.d (.int h),.d (.tup [.str "join", .int b])]) (T.m R) Q:=by
 have j6:∀n1 n2,TOk (T.end1 h b n1 n2) P f:=λn1 n2=>(ok.addZ (n:=n1) nz hb hh).addS (T:={ T with Z:=T.Z++[Tb.mk b h n1 nW] }) ns hh hb
 refine wz (P:=P) (f:=f) (.inl ⟨_,_,rfl,rfl,rfl⟩) hh hl hy (λT1=>∃n1 n2,T1=T.end1 h b n1 n2) ?_ ?_ ?_
 ·rintro _ ⟨n1,n2,rfl⟩;refine⟨j6 n1 n2,rfl,rfl,rfl,rfl,rfl,λx=>?_⟩;refine Te (show adjY (T.S++[Tb.mk h b n2 nW]) h x↔_ from pS.trans ?_) (e6 x);simp
 ·exact EQ ok hh (λl hl e=>nz ⟨l,hl,e⟩) (λl hl e=>ns ⟨l,hl,e⟩) λn1 n2=>⟨_,.refl _,n1,n2,rfl⟩
 ·rintro _ T2 ⟨n1,n2,rfl⟩ d k;exact q n1 n2 T2 (j6 n1 n2) d k
end
section
variable{T T1 T2:Tn}{Q:E->Mp->Prop}{f h:Nat}{P:List Wi}
theorem Dn.ok(d:Dn T1 h T2)(ok:TOk T1 P f)(k:ky T2.Y=ky T1.Y):TOk T2 P f:=by
 have x:=(ok.setS (c:=λl=>l.a == h) d.S).ofY (Y':=T2.Y) k;rw[d.eq];exact⟨x.po,x.m8,x.kY,x.kZ,x.kS,x.oP,x.oB,x.zP,x.sP,x.zM,x.sM,x.yM⟩
theorem Dn.many(d:Dn T1 h T2):T2.many=T1.many:=by rw[d.eq]
theorem Dn.A(d:Dn T1 h T2):T2.A=T1.A:=by rw[d.eq]
theorem Dn.Z(d:Dn T1 h T2):T2.Z=T1.Z:=by rw[d.eq]
theorem Dn.t(d:Dn T1 h T2):T2.t=T1.t:=by rw[d.eq]
theorem Dn.own(d:Dn T1 h T2):T2.own=T1.own:=by rw[d.eq]
theorem Dn.how(d:Dn T1 h T2):T2.how=T1.how:=by rw[d.eq]
def Dn.y_le(d:Dn T1 h T2)(ok:TOk T1 P f)(hy:∀l∈T1.Y,l.v.length<=n):∀l∈T2.Y,l.v.length<=n+36:=λl hl=>by
 obtain⟨l0,h0,_,_,ev⟩:=(uH d.Y).2 l hl;have:=hy l0 h0;rw[ev];split
 ·have d2:=sD (atT T1.S [] h l0.b) (dueL T1 h l0.b);have d3:=vH ok h l0.b;have d4:=(sg ok (h:=h) (nb:=l0.b)).2;rw[g_];omega
 ·omega
abbrev Tn.tw(T:Tn)(a b n1 n2:Nat):Tn:={ T with Y:=T.Y++[Tb.mk a b n1 nT]++[Tb.mk b a n2 nT] }
def Hv(g:TG T P f){one ai:Nat}(h1:one < T.many)(h2:ai < T.many)(hF:Forest (adjY T.Y)){C:Nat->Prop}(hC:∀u v,C u->adjY T.Y u v->C v)(c1:C one)(c2:¬C ai)(q:∀n1 n2 n3 n4 n5 n6 T2 T4,TOk T4 P f->Dn (Tn.end1 (T.tw one ai n1 n2) one ai n3 n4) one T2->Dn (Tn.end1 T2 ai one n5 n6) ai T4->ky T2.Y=ky (T.Y++[Tb.mk one ai n1 nT]++[Tb.mk ai one n2 nT])->ky T4.Y=ky T2.Y->Q (.d .non) (T4.m R)):wF (vO [.ref T.t,.d (.int one),.d (.int ai)]) (T.m R) Q:=by
 obtain⟨us,eu,ul,ua⟩:=g.road;have ok:=g.ok;have ea:adj us=adjY T.Y:=funext λa=>funext λb=>propext (ua a b)
 have ne:one≠ai:=λe=>c2 (e▸c1)
 have fE:¬adjY T.Y one ai:=λz=>c2 (hC _ _ c1 z)
 have no2:¬adjY T.Y ai one:=λz=>fE (g.sy.sy _ _ z)
 have j7:T.Y.length<=64:=by
  have:=o8 (T.Y.map λl:Tb (List Th)=>(l.a,l.b)) ((MO 8).flatMap λa=>(MO 8).map λb=>(a,b)) ok.kY λp hp=>by
   obtain⟨l,hl,rfl⟩:=F_.mp hp;exact Oz.mpr ⟨l.a,MG.mpr (ok.y8 l hl).1,F_.mpr ⟨l.b,MG.mpr (ok.y8 l hl).2,rfl⟩⟩
  rw[c_] at this;exact A_ this (by decide)
 walk_at "d"
 exists sj ok ?_
 rw[eu];refine JV (R:=C) (by rw[ea];exact hF) ok.m8 ul (λu v hu ha=>⟨hC u v hu (by rw[ea] at ha;exact ha),?_⟩) c2 h1 h2 c1 ?_
 ·obtain⟨l,hl,_,rfl⟩:=(ua _ _).mp ha;exact(ok.yM l hl).2
 tm_at"c"
 exists pF ?_
 exists oH rfl ?_
 rename_i n1
 exists rK (oC t_ln) (qq (q:=(one,ai)).mpr rfl) (by rw[c_];show _ < 1000000;omega) (by rw[xN (v:=nT) fE];exact .tl p_ln) ?_
 rename_i n2;have j8:¬adjY (T.Y++[Tb.mk one ai n1 nT]) ai one:=λz=>(pS.mp z).elim no2 λz=>ne z.2
 refine rK (oC (oC t_ln)) (qq (q:=(ai,one)).mpr rfl) (by rw[c_,g_,Ms];show _ < 1000000;omega) (by rw[xN (v:=nT) j8];exact .tl (.tl p_ln)) ?_;refine qc (wS.pre (N:=((T.tw one ai n1 n2):Tn).m3 (T.Y++[Tb.mk one ai n1 nT]++[Tb.mk ai one n2 nT]) T.Z T.S R) ?_ ?_)
 ·exact(zC (T:={ T with Y:=T.Y++[Tb.mk one ai n1 nT] }) (x:=Tb.mk ai one n2 nT)).trans (zC (T:=T) (x:=Tb.mk one ai n1 nT)).hd
 have fD:TOk (T.tw one ai n1 n2) P f:=(ok.addY fE h1 h2).addY (T:={ T with Y:=T.Y++[Tb.mk one ai n1 nT] }) j8 h2 h1
 have j9:∀l∈T.Y++[Tb.mk one ai n1 nT]++[Tb.mk ai one n2 nT],l.v.length<=700000:=λl hl=>by
  rcases L_.mp hl with hl | hl
  ·rcases L_.mp hl with hl | hl
   ·exact g.hy l hl
   ·rw[m_.mp hl];exact Mu _
  ·rw[m_.mp hl];exact Mu _
 have mX:¬adjY T.Z ai one:=λz=>no2 ((g.kz _ _).mp z)
 have mY:¬adjY T.S one ai:=λz=>fE ((g.ks _ _).mp z)
 have mZ:¬adjY T.Z one ai:=λz=>fE ((g.kz _ _).mp z)
 have m9:¬adjY T.S ai one:=λz=>no2 ((g.ks _ _).mp z)
 tm_at"c"
 refine yp (T:=(T.tw one ai n1 n2)) fD (λi=>A_ (g.hl i) (by decide)) (λl hl=>A_ (j9 l hl) (by decide)) h1 h2 mX mY (λx=>?_) λn3 n4 T2 bj d2 k2=>?_
 ·refine Te ?_ (Iff.symm (pS.trans (or_congr pS SV)));rw[g.ks];constructor
  ·rintro(z | rfl)
   ·exact .inl (.inl z)
   ·exact .inl (.inr ⟨rfl,rfl⟩)
  ·rintro((z | z) | z)
   ·exact .inl z
   ·exact .inr z.2
   ·exact absurd z.1 ne
 have fx:=d2.ok bj k2;have m2:T2.many=T.many:=d2.many;have t2:T2.t=T.t:=d2.t
 tm_at"c"
 rw[←t2]
 exists ⟨_,_,_,rfl,t_t,?_⟩
 refine yp fx (λi=>A_ (d2.log i) (by have:=g.hl i;show(T.log i).length+300<=_;omega)) (λl hl=>A_ (d2.y_le bj (n:=700000) j9 l hl) (by decide)) (m2▸h2) (m2▸h1) (λz=>?_) (λz=>?_) (λx=>?_) λn5 n6 T4 gj d4 k4=>?_
 ·rw[d2.Z] at z;exact(pS.mp z).elim mZ λz=>ne z.1
 ·exact(pS.mp ((xU d2.S).mp z)).elim m9 λz=>ne z.1.symm
 ·rw[xU d2.S,wQ k2];refine Te (or_congr pS SV) (Te ?_ (Iff.symm (pS.trans (or_congr pS SV))));rw[g.ks];constructor
  ·rintro((z | z) | rfl)
   ·exact .inl (.inl z)
   ·exact absurd z.1.symm ne
   ·exact .inr ⟨rfl,rfl⟩
  ·rintro((z | z) | z)
   ·exact .inl (.inl z)
   ·exact absurd z.1.symm ne
   ·exact .inr z.2
 ·tm_at"c"
  exact⟨_,.refl _,q n1 n2 n3 n4 n5 n6 T2 T4 (d4.ok gj k4) d2 d4 k2 k4⟩
end
def xM{P ws:List Wi}{f:Nat}(p:Po P f)(h:∀w∈ws,w∈P)(hl:ws.length < 64):SortOk (ws.map wD):=by
 refine⟨by rw[c_];exact hl,BQ ws,A_ (wV ws) (by decide),.inr (.inr (tI λw hw=>?_))⟩;have:=(p.all w (h w hw)).len;have:=p.f1.1;cases w with
 | nil=>simp at *;omega
 | cons p w=>rfl
section
variable{T:Tn}{Q:E->Mp->Prop}{f:Nat}{P:List Wi}
def D6(g:TG T P f){l:Tb (List Th)}(hl:l∈T.Y)(q:∀m,Q (.ref m) ((m,thO l.v)::T.m R)):wF (tY [.ref T.t,.d (.int l.a),.d (.int l.b)]) (T.m R) Q:=by
 obtain⟨us,eu,ul,ua⟩:=g.road;have ok:=g.ok
 walk_at "d"
 exists sj ok ?_
 rw[eu]
 exists xg (ok.yM l hl).1 (ok.yM l hl).2 ul ((ua _ _).mpr ⟨l,hl,rfl,rfl⟩) ?_
 exists qr (e:=.ref l.n) t_ln (qq (q:=(l.a,l.b)).mpr rfl) (tS ok.kY hl) ?_
 exists yH (oJ (t_Y hl)) λm=>?_
 exact⟨_,.refl _,q m⟩
def IA(g:TG T P f){z:Tb (List Wi)}(hz:z∈T.Z)(q:∀m,Q (.ref m) ((m,.lst ((sortD (z.v.map wD)).map .d))::T.m R)):wF (uJ [.ref T.t,.d (.int z.b),.d (.int z.a)]) (T.m R) Q:=by
 obtain⟨us,eu,ul,ua⟩:=g.road;have ok:=g.ok;have ox:z.v.length<=18:=A_ (o8 z.v P (ok.zP z hz).1 (ok.zP z hz).2) ok.po.len;obtain⟨za,zb⟩:=ok.zM z hz
 walk_at "d"
 exists sj ok ?_
 rw[eu]
 exists xg zb za ul ((ua _ _).mpr (g.sy.sy _ _ ((g.kz _ _).mp ⟨z,hz,rfl,rfl⟩))) ?_
 refine oT (e:=.ref (T.A z.b).a) t_hs (qE ⋯ (by rw[MC,Mx,P4 zb];rfl)) ?_
 exists ⟨_,_,_,_,rfl,t_a zb,rfl,?_⟩
 refine qr (e:=.ref z.n) (t_e zb) (o9.mpr rfl) (rW (l:=z) (z_.mpr ⟨hz,by simp⟩) (o9.mpr rfl) λx hx e=>?_) ?_
 ·obtain⟨h1,h2⟩:=z_.mp hx;exact ok.kZ.one h1 hz (o9.mp e) (by simpa using h2)
 tm_at"c"
 exists rh (oJ (t_Z hz)) (xM ok.po (ok.zP z hz).2 ⋯) λm=>?_
 exact⟨_,.refl _,q m⟩
def Ji(ok:TOk T P f)(sy:Sym T.Y):T.Y.length < 64:=by
 have:=o8 (T.Y.map λl:Tb (List Th)=>(l.a,l.b)) (((MO 8).flatMap λa=>(MO 8).map λb=>(a,b)).filter λp=>decide (p.1≠p.2)) ok.kY λp hp=>by
  obtain⟨l,hl,rfl⟩:=F_.mp hp;exact z_.mpr ⟨Oz.mpr ⟨l.a,MG.mpr (ok.y8 l hl).1,F_.mpr ⟨l.b,MG.mpr (ok.y8 l hl).2,rfl⟩⟩,decide_eq_true (sy.ne l hl)⟩
 rw[c_] at this;exact OY this (by decide)
def FW(g:TG T P f)(q:∀m,Q (.ref m) ((m,.lst ((sortD (((T.Y.filter λl=>decide (0 < l.v.length)).map λl=>(l.a,l.b)).map lnD)).map .d))::T.m R)):wF (wP [.ref T.t]) (T.m R) Q:=by
 have ok:=g.ok;have j7:=Ji ok g.sy;obtain⟨so,_⟩:=uU (l:=(T.Y.filter λl:Tb (List Th)=>decide (0 < l.v.length)).map λl:Tb (List Th)=>(l.a,l.b)) (by rw[c_];exact OY (MB _ _) j7)
 exists w_nd λnd=>uc ?_
 exists yu (yo (sh ?_))
 refine⟨_,_,rfl,t_ln,λM2 h1 h2 h3 h4=>?_⟩
 have ng:T.t≠T.ln:=λz=>by
  have a:=t_t (T:=T) (Y:=T.Y) (Z:=T.Z) (S:=T.S) (R:=R);have b:=t_ln (T:=T) (Y:=T.Y) (Z:=T.Z) (S:=T.S) (R:=R);rw[z] at a;cases rV nd a b
 have ht:=h1 _ _ t_t ng;refine Aj (M1:=M2) (n:=T.ln) (m:=1) (xs:=T.Y) (g:=λl=>.d (lnD (l.a,l.b))) (own:=λl=>[some (.d (lnD (l.a,l.b)))]) (λl=>decide (0 < l.v.length)) (λl=>.d (lnD (l.a,l.b))) h3 h4 (by rw[w_];rfl) ⋯ own1 (λ_ _=>rfl) (λl hl N ln=>?_) (λl _ _ N ln=>?_) λp=>?_
 ·tm_at"c"
  exists ⟨_,_,_,_,rfl,ln.mem ht,rfl,?_⟩
  exists qr (e:=.ref l.n) (ln.mem h3) (qq (q:=(l.a,l.b)).mpr rfl) (tS ok.kY hl) ?_
  exists uz (oJ (ln.mem (h2 _ _ (t_Y hl)))) ?_
  exact⟨by rw[c_,c_,Nq];simp,.refl _⟩
 ·tm_at"c"
  exact⟨rfl,.refl _⟩
 tm_at"c"
 exists rh (ds:=((T.Y.filter λl:Tb (List Th)=>decide (0 < l.v.length)).map λl:Tb (List Th)=>(l.a,l.b)).map lnD) (by rw[w_,w_];exact oJ oF) so λk=>?_
 exact⟨_,Le.hd (Le.tl (.refl _)),q k⟩
end
section
variable{Q:E->Mp->Prop}{how:Str}
def EU(q:∀o e s d l,Q (.d .non) ((l,.lst [])::(d,.dct false false [])::(s,.dct false false [])::(e,.dct false false [])::(o,.dct false false [])::(n,.ins "House" [("how", .d (.str how)),("own", .ref o),("hears", .ref e),("said", .ref s),("had", .ref d),("rows", .ref l)])::M)):wF (uS [.ref n,.d (.str how)]) ((n,.ins "House" [])::M) Q:=by
 walk_at "d"
 exists pq ?_
 exists ⟨_,_,_,_,rfl,oF,by decide,.hd,?_⟩
 exists pq (rS λo=>?_)
 exists ⟨_,_,_,_,rfl,oC oF,by show 1 < 1000;decide,.tl .hd,?_⟩
 exists pq (rS λe=>?_)
 exists ⟨_,_,_,_,rfl,oC (oC oF),by show 2 < 1000;decide,.tl (.tl .hd),?_⟩
 exists pq (rS λs=>?_)
 exists ⟨_,_,_,_,rfl,oC (oC (oC oF)),by show 3 < 1000;decide,.tl (.tl (.tl .hd)),?_⟩
 exists pq (rS λd=>?_)
 exists ⟨_,_,_,_,rfl,oC (oC (oC (oC oF))),by show 4 < 1000;decide,.tl (.tl (.tl (.tl .hd))),?_⟩
 exists pq ?_
 rename_i l
 exists ⟨_,_,_,_,rfl,oC (oC (oC (oC (oC oF)))),by show 5 < 1000;decide,.tl (.tl (.tl (.tl (.tl .hd)))),?_⟩
 have z:EV.putS "rows" (.ref l) (EV.putS "had" (.ref d) (EV.putS "said" (.ref s) (EV.putS "hears" (.ref e) (EV.putS "own" (.ref o) (EV.putS "how" (.d (.str how)) [])))))=([("how", .d (.str how)),("own", .ref o),("hears", .ref e),("said", .ref s),("had", .ref d),("rows", .ref l)]:List (Str×E)):=by kernel_rfl
 exact⟨_,.refl _,q o e s d l⟩
def hNew(how:Str)(h:HA):Mp:=[(h.l,.lst []),(h.d,.dct false false []),(h.s,.dct false false []),(h.e,.dct false false []),(h.o,.dct false false []),(h.a,.ins "House" [("how", .d (.str how)),("own", .ref h.o),("hears", .ref h.e),("said", .ref h.s),("had", .ref h.d),("rows", .ref h.l)])]
def Cv{many:Nat}(h3:ν[3]?=some (some (.d (.str how))))(h1:ν[1]?=some (some (.d (.int many))))(hm:many<=8)(q:∀(hs:List HA) p,hs.length=many->Q (.ref p) ((p,.lst (hs.map λh=>.ref h.a))::(hs.flatMap (hNew how)++M))):
  wM (comp 1 (rng1E (csE (nm 1) nilE)) (tgn 0) yes (mkE "House" uS (csE (nm 4) nilE))) ν M Q:=by
 refine vJ (lk:=none) (xs:=MO many) (g:=λk:Nat=>.d (.int (0+(k:Int)))) (own:=λk:Nat=>[some (.d (.int (0+(k:Int))))]) (λdone ac N=>∃hs:List HA,hs.length=done.length/\ac=hs.map (λh=>.ref h.a)/\N=hs.flatMap (hNew how)++M) (qF (w_cs (w_nm h1 (qg ?_)))) (by rw[MD];omega) own1 (λ_ _=>rfl) ?_ ?_
 ·exact⟨_,rfl,⟨⋯,⋯⟩,rfl,λ_ _ _ _=>by rw[MC];exact qv,[],rfl,rfl,rfl⟩
 ·rintro done k ad ac N p e ⟨hs,hl,rfl,rfl⟩;have hd:done.length<=8:=by have:=congrArg length e;rw[MD,g_] at this;omega
  refine oU ?_;refine pe rfl (w_mk (w_cs (w_nm (e:=.d (.str how)) (by exact h3) (qg λn=>EU λo e s d l=>⟨rfl,?_⟩))));refine⟨by rw[c_];show _<=1000000;omega,?_⟩;refine⟨(hs++[HA.mk n o e s d l]).flatMap (hNew how)++M,Le.perm ?_,hs++[HA.mk n o e s d l],by rw[g_,g_,hl];rfl,by rw[o_];rfl,rfl⟩;show(hNew how ⟨n,o,e,s,d,l⟩++(p,Ob.lst (hs.map λh=>.ref h.a))::(hs.flatMap (hNew how)++M)).Perm _;refine PH.trans (Td.cons _ ?_);rw[R6,Rr,Q_,MY,MF];exact P7 ..
 ·rintro ac p N ⟨hs,hl,rfl,rfl⟩;exact pc (q hs p (by rw[hl,MD]))
end
theorem qW{α β:Type}{f:α->β}{g:α->List β}:∀l:List α,(l.flatMap λx=>f x::g x).Perm (l.map f++l.flatMap g)
 | []=>.refl _
 | x::l=>by
  exact Td.cons _ (((qW l).append_left (g x)).trans (P7 ..))
theorem AB{α β:Type}:∀l:List α,(l.flatMap λ_=>([]:List β))=[]
 | []=>rfl
 | _::l=>AB l
noncomputable def hAt(hs:List HA)(i:Nat):HA:=hs.getD i ⟨0,0,0,0,0,0⟩
def qP{α:Type}{hs:List HA}{F:HA->α}{many:Nat}(h:hs.length=many):hs.map F=(MO many).map λi=>F (hAt hs i):=by
 refine Pz (by simp[h]) λi h1 h2=>?_
 rw[c_] at h1;simp[hAt,h1]
def town0(t hs ln gf many fields:Nat)(how:Str)(l:List HA):Tn:=⟨t,hs,ln,gf,many,fields,how,hAt l,λ_=>[],λ_=>[],[],[],[],0,0⟩
section
variable{Q:E->Mp->Prop}{how:Str}{many fields:Nat}
def EB{t hs ln:Nat}{l:List HA}(h:l.length=many):Le ((town0 t hs ln gf many fields how l).m3 [] [] [] M) ((gf,.lst [])::(ln,.dct true false [])::(hs,.lst (l.map λh=>.ref h.a))::(t,(town0 t hs ln gf many fields how l).ins)::(l.flatMap (hNew how)++M)):=by
 refine Le.perm ?_
 let a:=λh:HA=>(h.a,Ob.ins "House" [("how", .d (.str how)),("own", .ref h.o),("hears", .ref h.e),("said", .ref h.s),("had", .ref h.d),("rows", .ref h.l)])
 let dc:=λn:Nat=>(n,Ob.dct false false [])
 have p:(l.flatMap (hNew how)).Perm (l.map (λh=>(h.l,Ob.lst []))++(l.map (λh=>dc h.d)++(l.map (λh=>dc h.s)++(l.map (λh=>dc h.e)++(l.map (λh=>dc h.o)++(l.map a++[])))))):=by
  rw[←AB (β:=Nat×Ob) l];exact(qW l).trans (Ow _ ((qW l).trans (Ow _ ((qW l).trans (Ow _ ((qW l).trans (Ow _ ((qW l).trans (Ow _ (qW l))))))))))
 have e:(town0 t hs ln gf many fields how l).m3 [] [] [] M=[(t,(town0 t hs ln gf many fields how l).ins),(hs,Ob.lst (l.map λh=>.ref h.a)),(ln,.dct true false []),(gf,.lst [])]++(l.map a++(l.map (λh=>dc h.o)++(l.map (λh=>dc h.e)++(l.map (λh=>dc h.s)++(l.map (λh=>dc h.d)++(l.map (λh=>(h.l,Ob.lst []))++M)))))):=by
  rw[qP h,qP h,qP h,qP h,qP h,qP h,qP h];rfl
 rw[e,MY] at *;refine((List.reverse_perm [_,_,_,_]).symm.append_right _).trans (Ow _ ((p.append_right M).trans ?_));generalize l.map a=A1;generalize l.map (λh=>dc h.o)=A2;generalize l.map (λh=>dc h.e)=A3;generalize l.map (λh=>dc h.s)=A4;generalize l.map (λh=>dc h.d)=A5;generalize l.map (λh=>(h.l,Ob.lst []))=A6;have r2:(A2++A1).Perm (A1++A2):=Ny;have r3:=(r2.append_left A3).trans Ny;have r4:=(r3.append_left A4).trans Ny;have r5:=(r4.append_left A5).trans Ny;have r6:=(r5.append_left A6).trans Ny;have:=r6.append_right M;simp only[MF] at this ⊢;exact this
def Dr(hm:many<=8)(q:∀hs ln gf l,l.length=many->Q (.d .non) ((town0 n hs ln gf many fields how l).m3 [] [] [] M)):wF (vG [.ref n,.d (.int many),.d (.int fields),.d (.str how)]) ((n,.ins "Town" [])::M) Q:=by
 walk_at "d"
 exists pq ?_
 exists ⟨_,_,_,_,rfl,oF,by show 0 < 1000;decide,.hd,?_⟩
 exists pq ?_
 exists ⟨_,_,_,_,rfl,oF,by show 1 < 1000;decide,.hd,?_⟩
 refine pq ?_
 exists Cv rfl rfl hm λl p hl=>?_
 refine⟨_,_,_,_,rfl,oC (Mv _ oF),by show 2 < 1000;decide,.tl (uV .hd),?_⟩
 exists qc (wS.pre (N:=(n,_)::(p,_)::(l.flatMap (hNew how)++M)) (Le.perm ((PH.cons _).trans (swap ..))) ?_)
 exists pq (rS λln=>?_)
 exists ⟨_,_,_,_,rfl,oC oF,by show 3 < 1000;decide,.tl .hd,?_⟩
 exists pq ?_
 exists ⟨_,_,_,_,rfl,oC oF,by show 4 < 1000;decide,.tl .hd,?_⟩
 exists pq ?_
 rename_i gf
 exists ⟨_,_,_,_,rfl,oC (oC oF),by show 5 < 1000;decide,.tl (.tl .hd),?_⟩
 exists pq ?_
 exists ⟨_,_,_,_,rfl,oC (oC oF),by show 6 < 1000;decide,.tl (.tl .hd),?_⟩
 exists pq ?_
 exists ⟨_,_,_,_,rfl,oC (oC oF),by show 7 < 1000;decide,.tl (.tl .hd),?_⟩
 have z:EV.putS "letters_told" (.d (.int 0)) (EV.putS "wishes_told" (.d (.int 0)) (EV.putS "gifts" (.ref gf) (EV.putS "wished" (.d (.int 0)) (EV.putS "lanes" (.ref ln) (EV.putS "houses" (.ref p) (EV.putS "how" (.d (.str how)) (EV.putS "fields" (.d (.int fields)) [])))))))=(town0 n p ln gf many fields how l).fs:=by kernel_rfl
 exact⟨_,(EB (fields:=fields) (t:=n) (hs:=p) (ln:=ln) (gf:=gf) hl).trans (Le.perm (((swap ..).cons _).cons _)),q p ln gf l hl⟩
end
noncomputable def gd:Nat->D->Bool
 | 0,_=>false
 | _+1,.non=>true
 | _+1,.int _=>true
 | _+1,.str _=>true
 | k+1,.tup xs=>decide (xs.length<=1000)&&xs.all (gd k)
 | _+1,_=>false
theorem BR{α:Type}:∀xs:List α,xs.zip xs=xs.map λy=>(y,y)
 | []=>rfl
 | x::xs=>by rw[On,BR xs];rfl
section
variable{Q:E->Mp->Prop}{e e':E}{x:D}{xs:List D}
def zy{M:Mp}{Q:E->Mp->Prop}{a b:Bool}(q:Q (.d (.bl (a != b))) M):wF (eqE true (.d (.bl a)) (.d (.bl b))) M Q:=pk rd_d rd_d (.inl (Mu _)) q
def pj{k:Ki}{i:Nat}{M:Mp}{Q:E->Mp->Prop}{e:E}{x:D}(hn:ν[i]?=some (some e))(h:Rd9 M e x)(q:Q (.d (.bl (isiB k x))) M):wM (isiE k (nm i)) ν M Q:=DV (w_nm hn ⟨x,h,q⟩)
def xJ{k:Nat}(h1:Rd9 M e x)(h2:Rd9 M e' x)(s1:SrcAt (seqSrc e) (xs.map .d) M)(s2:SrcAt (seqSrc e') (xs.map .d) M)(hx:x=.tup xs\/x=.lst xs)(n1:EV.isN e=false)(n2:EV.isN e'=false)(hl:xs.length<=1000)(ih:∀y∈xs,∀(M:Mp) (Q:E->Mp->Prop),Q (.d (.bl true)) M->wF (pG k [.d y,.d y]) M Q)(q:Q (.d (.bl true)) M):wF (pG (k+1) [e,e']) M Q:=by
 have hb:isiB .bT x=false/\isiB .iT x=false/\isiB .sT x=false:=by rcases hx with rfl | rfl<;>exact⟨rfl,rfl,rfl⟩
 rw[pG]
 walk_at "d"
 exists pF ?_
 exists oH (by rw[if_neg q_];exact n2) ?_
 exists pF ?_
 exists oH (by rw[if_neg q_];exact n1) ?_
 exists pj rfl h2 ?_
 exists oH hb.1 ?_
 exists pj rfl h1 ?_
 exists oH hb.1 ?_
 exists pj rfl h2 ?_
 exists oH hb.2.1 ?_
 exists pj rfl h2 ?_
 exists oH hb.2.2 ?_
 exists pj rfl h2 ?_
 refine pj rfl h1 ?_
 exists zy ?_
 exists oH (by simp) ?_
 exists pj rfl h2 ?_
 refine pj rfl h1 ?_
 exists zy ?_
 exists oH (by simp) ?_
 exists uz s1 ?_
 exists uz s2 ?_
 exists oH (by simp) ?_
 refine o6 (m:=2) (xs:=xs) (g:=λy=>.d (.tup [y,y])) (own:=λy=>[some (.d y),some (.d y)]) (λ_=>true) (λ_=>.d (.bl true)) (sd ?_) ⋯ (own2 λ_ _=>rfl) (λ_ _=>rfl) (λq _ N l=>oU ⟨rfl,.refl _⟩) (λy hy _ N l=>?_) λp=>?_
 ·tm_at"c"
  refine⟨_,_,_,_,rfl,s1,s2,rfl,?_,.refl _⟩;have:=v8 (M:=M) s1 s2;rw[Tv,w_,BR,w_] at this;exact this
 ·tm_at"c"
  exact ih y hy _ _ ⟨rfl,.refl _⟩
 ·tm_at"c"
  exists ur (x:=.bl false) (zs:=xs.map λ_=>.bl true) rd_d (ph (by rw[w_,No.mpr λ_ _=>rfl];exact oF)) (Mu _) ?_
  refine⟨_,Le.tl (.refl _),?_⟩;rw[if_pos rfl,SE,Rh.mpr λ_ _=>by simp[deq]];exact q
theorem sL:∀(k:Nat) (x:D),gd k x=true->∀(M:Mp) (Q:E->Mp->Prop),Q (.d (.bl true)) M->wF (pG k [.d x,.d x]) M Q
 | 0,_,h,_,_,_=>by cases h
 | k+1,.tup xs,h,M,Q,q=>by
  unfold gd at h;rw[k_] at h;exact xJ rd_d rd_d (o5 rfl) (o5 rfl) (.inl rfl) rfl rfl (of_decide_eq_true h.1) (λy hy=>sL k y (H_.mp h.2 y hy)) q
 | k+1,.non,_,M,Q,q=>by
  rw[pG]
  walk_at "d"
  exists pF ?_
  refine pe rfl ?_
  exists pe rfl ?_
  exists pF ?_
  exists pF ?_
  exact⟨_,.refl _,q⟩
 | k+1,.int i,_,M,Q,q=>by
  rw[pG]
  walk_at "d"
  exists pF ?_
  exists oH rfl ?_
  exists pF ?_
  exists oH rfl ?_
  exists pj rfl rd_d ?_
  exists oH rfl ?_
  exists pj rfl rd_d ?_
  exists oH rfl ?_
  exists pj rfl rd_d ?_
  refine pe rfl ?_
  exists pe rfl ?_
  exists pj rfl rd_d ?_
  refine pj rfl rd_d ?_
  exists pk rd_d rd_d (.inl (Mu _)) ?_
  exists pe rfl ?_
  refine⟨_,.refl _,?_⟩;simpa using q
 | k+1,.str i,_,M,Q,q=>by
  rw[pG]
  walk_at "d"
  exists pF ?_
  exists oH rfl ?_
  exists pF ?_
  exists oH rfl ?_
  exists pj rfl rd_d ?_
  exists oH rfl ?_
  exists pj rfl rd_d ?_
  exists oH rfl ?_
  exists pj rfl rd_d ?_
  exists oH rfl ?_
  exists pj rfl rd_d ?_
  exists pe rfl ?_
  exists pj rfl rd_d ?_
  refine pj rfl rd_d ?_
  exists pk rd_d rd_d (.inl (Mu _)) ?_
  exists pe rfl ?_
  refine⟨_,.refl _,?_⟩;simpa using q
def Ei{k m:Nat}(h1:(n,.lst (ds.map .d))∈M)(h2:(m,.lst (ds.map .d))∈M)(hl:ds.length<=1000)(hg:ds.all (gd k)=true)(q:Q (.d (.bl true)) M):wF (pG (k+1) [.ref n,.ref m]) M Q:=
 xJ (ph h1) (ph h2) (oJ h1) (oJ h2) (.inr rfl) rfl rfl hl (λy hy=>sL k y (H_.mp hg y hy)) q
def xl{m:Nat}(h1:(n,.lst (ds.map .d))∈M)(h2:(m,.lst (ds.map .d))∈M)(hl:ds.length<=1000)(hg:ds.all (gd 7)=true){M':Mp}(p:Put n (.lst (ds.map .d++[.d (.str "")])) M M')(q:Q (.d (.bl true)) M'):wF (r9 [.ref n,.ref m]) M Q:=by
 walk_at "d"
 exists Ei h1 h2 hl hg ?_
 exists pK h1 (by rw[c_];show _ < 1000000;omega) p ?_
 exact⟨_,.refl _,q⟩
end
structure St where
 n:Nat
 o:Nat
 t:Nat
 l:Nat
 h:Nat
 O:Nat->Nat
 T:Nat->Nat
 L:Nat->Nat
 H:Nat->Nat
 own:Nat->List Wi
 told:Nat->List Wi
 lanes:Nat->List Th
 heard:Nat->List Wi
noncomputable abbrev rf2(f:Nat->Nat):Ob:=.lst [.ref (f 0),.ref (f 1)]
noncomputable abbrev St.kv(s:St):Kvs:=[(.str "own", .ref s.o),(.str "told", .ref s.t),(.str "lanes", .ref s.l),(.str "heard", .ref s.h)]
def St.m2(s:St)(T L:Nat->Nat)(R:Mp):Mp:=(s.n,.dct false false s.kv)::(s.o,rf2 s.O)::(s.t,rf2 T)::(s.l,rf2 L)::(s.h,rf2 s.H) ::
 ([0,1].map (λk=>(s.O k,wsO (s.own k)))++([0,1].map (λk=>(s.T k,wsO (s.told k)))++([0,1].map (λk=>(s.L k,thO (s.lanes k)))++([0,1].map (λk=>(s.H k,wsO (s.heard k)))++R))))
section
variable{s:St}{T L:Nat->Nat}{Q:E->Mp->Prop}{k:Nat}
def v_n:(s.n,.dct false false s.kv)∈s.m2 T L R:=oF
def v_o:(s.o,rf2 s.O)∈s.m2 T L R:=oC oF
def v_t:(s.t,rf2 T)∈s.m2 T L R:=oC (oC oF)
def v_l:(s.l,rf2 L)∈s.m2 T L R:=oC (oC (oC oF))
def v_h:(s.h,rf2 s.H)∈s.m2 T L R:=oC (oC (oC (oC oF)))
def in2(hk:k < 2):k∈[0,1]:=by
 obtain rfl | rfl:k=0\/k=1:=by omega
 ·exact .head _
 ·exact .tail _ (.head _)
def v_O(hk:k < 2):(s.O k,wsO (s.own k))∈s.m2 T L R:=oC (oC (oC (oC (oC (pN (c:=λk=>(s.O k,wsO (s.own k))) (in2 hk))))))
def v_T(hk:k < 2):(s.T k,wsO (s.told k))∈s.m2 T L R:=oC (oC (oC (oC (oC (oN (pN (c:=λk=>(s.T k,wsO (s.told k))) (in2 hk)))))))
def v_L(hk:k < 2):(s.L k,thO (s.lanes k))∈s.m2 T L R:=oC (oC (oC (oC (oC (oN (oN (pN (c:=λk=>(s.L k,thO (s.lanes k))) (in2 hk))))))))
def v_H(hk:k < 2):(s.H k,wsO (s.heard k))∈s.m2 T L R:=oC (oC (oC (oC (oC (oN (oN (oN (pN (c:=λk=>(s.H k,wsO (s.heard k))) (in2 hk)))))))))
def BU:dget false s.kv [OO "own"]=some (.ref s.o):=by kernel_rfl
def Bk:dget false s.kv [OO "told"]=some (.ref s.t):=by kernel_rfl
def rL:dget false s.kv [OO "lanes"]=some (.ref s.l):=by kernel_rfl
def xj:dget false s.kv [OO "heard"]=some (.ref s.h):=by kernel_rfl
def w_gs{x:Str}{e:E}(hm:(s.n,.dct false false s.kv)∈M)(hg:dget false s.kv [OO x]=some e)(q:Q e M):wF (ixE (.ref s.n) (.d (.str x))) M Q:=qr hm rfl hg q
def at2{F:Nat->Nat}(hk:k < 2):atI [E.ref (F 0),E.ref (F 1)] (k:Int)=some (.ref (F k)):=by
 obtain rfl | rfl:k=0\/k=1:=by omega
 ·rfl
 ·rfl
def w_i2{F:Nat->Nat}(hm:(n,rf2 F)∈M)(hk:k < 2)(q:Q (.ref (F k)) M):wF (ixE (.ref n) (.d (.int k))) M Q:=oT hm (at2 hk) q
def p_l{F:Nat->Nat}:Put s.l (rf2 F) (s.m2 T L R) (s.m2 T F R):=.tl (.tl (.tl .hd))
def p_t{F:Nat->Nat}:Put s.t (rf2 F) (s.m2 T L R) (s.m2 F L R):=.tl (.tl .hd)
def set2{F:Nat->Nat}{p:Nat}(hk:k < 2):[E.ref (F 0),E.ref (F 1)].set k (.ref p)=[E.ref (fset F k p 0),E.ref (fset F k p 1)]:=by
 obtain rfl | rfl:k=0\/k=1:=by omega
 ·rfl
 ·rfl
end
section
variable{s:St}{T L:Nat->Nat}{Q:E->Mp->Prop}{k f:Nat}{P:List Wi}{how:Str}
def le2{c c':Nat->Nat×Ob}{x:Nat×Ob}(hk:k < 2)(hx:c' k=x)(h:∀i,i≠k->c' i=c i):Le ([0,1].map c'++R) (x::([0,1].map c++R)):=by
 subst hx;obtain rfl | rfl:k=0\/k=1:=by omega
 ·show Le (c' 0::c' 1::R) (c' 0::c 0::c 1::R);rw[h 1 (by decide)];exact(Le.tl (.refl _)).hd
 ·show Le (c' 0::c' 1::R) (c' 1::c 0::c 1::R);rw[h 0 (by decide)];exact(Le.perm (.swap ..)).trans (Le.tl (.refl _)).hd.hd
def St.tellS(s:St)(how:Str)(k pL pT:Nat):St:={ s with L:=fset s.L k pL,T:=fset s.T k pT,lanes:=fset s.lanes k (s.lanes k++diffT (s.told k) (shortL how (s.own k))),told:=fset s.told k (shortL how (s.own k)) }
def DB(hk:k < 2)(p:Po P f)(ho:∀w∈s.own k,w∈P)(hl:(s.own k).length<=1000)(ht:(s.told k).length<=18)(hn:(s.lanes k).length<=900000)(q:∀pL pT,Q (.d .non) ((s.tellS how k pL pT).m2 (fset s.T k pT) (fset s.L k pL) R)):wF (rA [.ref s.n,.d (.str how),.d (.int k)]) (s.m2 s.T s.L R) Q:=by
 have gL:=sx (how:=how) (ws:=s.own k);have mS:(shortL how (s.own k)).length<=18:=A_ (o8 _ P gL.2.1 λw hw=>ho w (gL.1 w hw)) p.len
 walk_at "d"
 exists w_gs v_n BU ?_
 exists w_i2 v_o hk ?_
 refine Gk p ho hl (v_O hk) λr m hr=>?_
 obtain rfl:r=shortL how (s.own k):=hr.alone (vS _ _) λ_=>SV
 generalize hdue:shortL how (s.own k)=az at *
 tm_at"c"
 exists w_gs (oC v_n) Bk ?_
 exists w_i2 (oC v_t) hk ?_
 refine o6 (m:=1) (xs:=az) (g:=λw=>.d (wD w)) (own:=λw=>[some (.d (wD w))]) (λw=>!decide (w∈s.told k)) (λw=>.d (thD (true,w))) (oW ?_) ⋯ own1 (λ_ _=>rfl) (λw _ N ln=>?_) (λw _ _ N ln=>?_) λj=>?_
 ·tm_at"c"
  exact⟨⟨_,oJ oF⟩,rfl,pd oF,.refl _⟩
 ·tm_at"c"
  exists uh (ln.mem (oC (v_T hk))) ?_
  exact⟨rfl,.refl _⟩
 ·tm_at"c"
  exact⟨rfl,.refl _⟩
 tm_at"c"
 refine o6 (m:=1) (xs:=s.told k) (g:=λw=>.d (wD w)) (own:=λw=>[some (.d (wD w))]) (λw=>!decide (w∈az)) (λw=>.d (thD (false,w))) (oW ?_) ⋯ own1 (λ_ _=>rfl) (λw _ N ln=>?_) (λw _ _ N ln=>?_) λi=>?_
 ·tm_at"c"
  exact⟨⟨_,oJ (oC (oC (v_T hk)))⟩,rfl,pd (oC (oC (v_T hk))),.refl _⟩
 ·tm_at"c"
  exists uh (ln.mem (oC oF)) ?_
  exact⟨rfl,.refl _⟩
 ·tm_at"c"
  exact⟨rfl,.refl _⟩
 tm_at"c"
 have ix:ixN 2 (k:Int)=some k:=by
  obtain rfl | rfl:k=0\/k=1:=by omega
  ·rfl
  ·rfl
 exists w_gs (oC (oC (oC v_n))) rL ?_
 exists w_i2 (oC (oC (oC v_l))) hk ?_
 exists sn (oC (oC (oC (v_L hk)))) (oC oF) (by rw[c_,c_,c_];exact A_ (R7 (MB _ _) _) (by show _<=1000000;omega)) λp1=>?_
 refine sn oF (oC oF) (by rw[g_,c_,c_,c_,c_];exact A_ (Nat.add_le_add (R7 (MB _ _) _) (MB _ _)) (by show _<=1000000;omega)) λp2=>?_
 rw[show((s.lanes k).map thD).map E.d++((az.filter λw=>!decide (w∈s.told k)).map λw=>E.d (thD (true,w)))++(((s.told k).filter λw=>!decide (w∈az)).map λw=>E.d (thD (false,w)))=((s.lanes k++diffT (s.told k) az).map thD).map .d by unfold diffT;rw[MF,o_,o_,o_,o_,w_,w_,w_,w_,w_];rfl]
 exists w_gs (oC (oC (oC (oC (oC v_n))))) rL ?_
 exists ud (oC (oC (oC (oC (oC v_l))))) ix (by rw[set2 hk];exact .tl (.tl (.tl (.tl (.tl p_l))))) ?_
 exists w_gs (oC (oC (oC (oC (oC v_n))))) Bk ?_
 exists ud (oC (oC (oC (oC (oC v_t))))) ix (by rw[set2 hk];exact .tl (.tl (.tl (.tl (.tl p_t))))) ?_
 have q:=q p2 m;unfold St.tellS at q;rw[hdue] at q;refine⟨_,?_,q⟩;refine Le.trans (N:=(p2,thO (s.lanes k++diffT (s.told k) az))::({ s with T:=fset s.T k m,told:=fset s.told k az }:St).m2 (fset s.T k m) (fset s.L k p2) R) ?_ ((Le.trans (N:=(m,wsO az)::s.m2 (fset s.T k m) (fset s.L k p2) R) ?_ (Le.tl (Le.tl (Le.tl (.refl _))))).hd)
 ·exact oX (oX (oX (oX (oX (oO (oO (le2 (c:=λi=>(s.L i,thO (s.lanes i))) (c':=λi=>(fset s.L k p2 i,thO (fset s.lanes k (s.lanes k++diffT (s.told k) az) i))) hk (by rw[oY,oY]) λi ne=>by rw[o4 ne,o4 ne])))))))
 ·exact oX (oX (oX (oX (oX (oO (le2 (c:=λi=>(s.T i,wsO (s.told i))) (c':=λi=>(fset s.T k m i,wsO (fset s.told k az i))) hk (by rw[oY,oY]) λi ne=>by rw[o4 ne,o4 ne]))))))
end
section
variable{s:St}{T L:Nat->Nat}{Q:E->Mp->Prop}{k:Nat}
def p_L{x:List Th}(hk:k < 2):Put (s.L k) (thO x) (s.m2 T L R) (({ s with lanes:=fset s.lanes k x }:St).m2 T L R):=
 .tl (.tl (.tl (.tl (.tl (oR (oR (qm (x:=k) (by decide) (in2 hk) rfl (by show(_,thO (fset s.lanes k x k))=_;rw[oY]) λy _ ne=>by show(_,thO (fset s.lanes k x y))=_;rw[o4 ne])))))))
def p_H{x:List Wi}(hk:k < 2):Put (s.H k) (wsO x) (s.m2 T L R) (({ s with heard:=fset s.heard k x }:St).m2 T L R):=
 .tl (.tl (.tl (.tl (.tl (oR (oR (oR (qm (x:=k) (by decide) (in2 hk) rfl (by show(_,wsO (fset s.heard k x k))=_;rw[oY]) λy _ ne=>by show(_,wsO (fset s.heard k x y))=_;rw[o4 ne]))))))))
def FO(hk:k < 2){t:Th}{ad:List Th}(hl:s.lanes k=t::ad)(hin:t.1=false->t.2∈s.heard k)(hn:(s.heard k).length<=1000)(q:Q (.d (thD t)) (({ s with lanes:=fset s.lanes k ad,heard:=fset s.heard k (appT (s.heard k) t) }:St).m2 T s.L R)):wF (tR [.ref s.n,.d (.int k)]) (s.m2 T s.L R) Q:=by
 have hL:(s.L k,thO (t::ad))∈s.m2 T s.L R:=hl▸v_L hk
 walk_at "d"
 exists w_gs v_n rL ?_
 refine w_i2 v_l hk ?_
 exists ⟨_,_,rfl,hL,?_⟩
 exists yD (i:=0) hL (by decide) rfl (p_L (x:=ad) hk) ?_
 obtain⟨b,w⟩:=t;cases b with
 | true =>
  exists pe rfl ?_
  exists w_gs v_n xj ?_
  refine w_i2 v_h hk ?_
  exists ⟨_,_,rfl,v_H hk,?_⟩
  exists pK (v_H hk) (by rw[c_,c_];show(s.heard k).length < 1000000;omega) (by rw[show((s.heard k).map wD).map E.d++[E.d (wD w)]=((s.heard k++[w]).map wD).map E.d by rw[o_,o_];rfl];exact p_H (s:={ s with lanes:=fset s.lanes k ad }) hk) ?_
  exact⟨_,.refl _,q⟩
 | false =>
  obtain⟨j,j1,j2⟩:=rm_w (hin rfl)
  exists oH rfl ?_
  exists w_gs v_n xj ?_
  refine w_i2 v_h hk ?_
  exists ⟨_,_,rfl,v_H hk,?_⟩
  exists w_rm (v_H hk) j1 (A_ (qM _) (by decide)) (by rw[j2];exact p_H (s:={ s with lanes:=fset s.lanes k ad }) hk) ?_
  exact⟨_,.refl _,q⟩
end
section
variable{s:St}{T:Tn}{Y:List (Tb (List Th))}{Z S:List (Tb (List Wi))}{U V:Nat->Nat}{Q:E->Mp->Prop}{f:Nat}{o:Ob}{P:List Wi}
def qH:s.m2 U V R=s.m2 U V []++R:=by unfold St.m2;simp only[Q8,MF,TX,MY]
def s_t:Le (T.m3 Y Z S (s.m2 U V R)) (s.m2 U V (T.m3 Y Z S R)):=by
 rw[pC,qH,qH (R:=T.m3 Y Z S R),pC (R:=R),←MF,←MF];exact Le.perm (Ny.append_right R)
def s_f:Le (s.m2 U V (T.m3 Y Z S R)) (T.m3 Y Z S (s.m2 U V R)):=by
 rw[pC,qH,qH (R:=R),pC (R:=s.m2 U V []++R),←MF,←MF];exact Le.perm (Ny.append_right R)
def v_R{c:Nat×Ob}(h:c∈R):c∈s.m2 U V R:=by
 rw[qH];exact Mv _ h
def p_sR(h:Put n o R R'):Put n o (s.m2 U V R) (s.m2 U V R'):=by
 rw[qH,qH (R:=R')];exact uV h
def qQ{α:Type}{L:List (Tb α)}{a b:Nat}{v:α}(h:(a,b,v)∈ct L):∃l∈L,l.a=a/\l.b=b/\l.v=v:=by
 obtain⟨l,hl,e⟩:=F_.mp h;simp only[Nm] at e;exact⟨l,hl,e⟩
def CB(g:TG T P f){a b:Nat}{v:List Th}(h:(a,b,v)∈ct T.Y)(q:∀m,Q (.ref m) ((m,thO v)::T.m R)):wF (tY [.ref T.t,.d (.int a),.d (.int b)]) (T.m R) Q:=by
 obtain⟨l,hl,rfl,rfl,rfl⟩:=qQ h;exact D6 g hl q
def Cq(g:TG T P f){a b:Nat}{v:List Wi}(h:(a,b,v)∈ct T.Z)(q:∀m,Q (.ref m) ((m,.lst ((sortD (v.map wD)).map .d))::T.m R)):wF (uJ [.ref T.t,.d (.int b),.d (.int a)]) (T.m R) Q:=by
 obtain⟨l,hl,rfl,rfl,rfl⟩:=qQ h;exact IA g hl q
def gd_w{w:Wi}{k:Nat}(h:w.length<=1000):gd (k+3) (wD w)=true:=by
 show(decide ((w.map prD).length<=1000)&&(w.map prD).all (gd (k+2)))=true;rw[k_];exact⟨decide_eq_true (by rw[c_];exact h),H_.mpr λd hd=>by obtain⟨p,_,rfl⟩:=F_.mp hd;rfl⟩
def gd_t{t:Th}{k:Nat}(h:t.2.length<=1000):gd (k+5) (thD t)=true:=by
 show(decide (2<=1000)&&(gd (k+4) (.str _)&&(gd (k+4) (wD t.2)&&true)))=true;rw[show gd (k+4) (wD t.2)=true from gd_w h];rfl
noncomputable abbrev enO(e:Nat->Nat):Ob:=.lst [.d (.int (e 0)),.d (.int (e 1))]
def uw{e:Nat->Nat}{k:Nat}(hk:k < 2):atI [E.d (.int (e 0)),E.d (.int (e 1))] (k:Int)=some (.d (.int (e k))):=by
 obtain rfl | rfl:k=0\/k=1:=by omega
 ·rfl
 ·rfl
def xy{e:Nat->Nat}{k:Nat}(hk:k < 2):atI [E.d (.int (e 0)),E.d (.int (e 1))] (1 - (k:Int))=some (.d (.int (e (1 - k)))):=by
 obtain rfl | rfl:k=0\/k=1:=by omega
 ·rfl
 ·rfl
def lt2{k:Nat}{done ad:List Nat}(e:[0,1]=done++k::ad):k < 2:=by
 have:k∈[0,1]:=e▸by simp
 simp at this;omega
def IY{e:Nat->Nat}(g:TG T P f)(cY:ct T.Y=[0,1].map λk=>(e k,e (1 - k),s.lanes k))(cZ:ct T.Z=[1,0].map λk=>(e k,e (1 - k),s.heard k))(he:(en,enO e)∈R)(hl:∀k,k < 2->(s.lanes k).length<=1000/\∀t∈s.lanes k,t.2∈P)(q:Q (.d (.bl true)) (T.m (s.m2 s.T s.L R))):wF (wt [.ref T.t,.ref en,.ref s.n]) (T.m (s.m2 s.T s.L R)) Q:=by
 have po:=g.ok.po;have ni:∀k,k < 2->(e k,e (1 - k),s.lanes k)∈ct T.Y:=λk hk=>by rw[cY];exact F_.mpr ⟨k,in2 hk,rfl⟩
 have ka:∀k,k < 2->(e k,e (1 - k),s.heard k)∈ct T.Z:=λk hk=>by rw[cZ];exact F_.mpr ⟨k,(swap 1 0 []).mem_iff.mp (in2 hk),rfl⟩
 have zP:∀k,k < 2->(s.heard k).length<=18/\∀w∈s.heard k,w∈P:=λk hk=>by
  obtain⟨z,hz,_,_,ev⟩:=qQ (ka k hk);have:=g.ok.zP z hz;rw[ev] at this;exact⟨A_ (o8 _ P this.1 this.2) po.len,this.2⟩
 have wl:∀w∈P,w.length<=1000:=λw hw=>by
  have:=(po.all w hw).len;have:=po.f1;omega
 refine vb ?_;refine s_sq (pf (lk:=none) (xs:=[0,1]) (g:=λk:Nat=>.d (.int k)) (λdone ν N=>(∃x y z u,ν=[some (.ref T.t),some (.ref en),some (.ref s.n),x,y,z,u])/\N=T.m (s.m2 s.T s.L R)) (qF ?_) (by decide) ?_ ?_)
 ·tm_at"c"
  exact⟨by decide,rfl,λ_ _ _ _=>qv,⟨_,_,_,_,rfl⟩,rfl⟩
 ·rintro done k ad _ _ ek ⟨⟨x,y,z,u,rfl⟩,rfl⟩;have hk:=lt2 ek
  exists ⟨_,pi ‹p›,wS.le ?_⟩
  exists oT (t_R (v_R he)) (uw hk) ?_
  exists oT (t_R (v_R he)) (xy hk) ?_
  exists CB g (ni k hk) λm=>?_
  exists w_gs (oC (t_R v_n)) rL ?_
  exists w_i2 (oC (t_R v_l)) hk ?_
  exists xl oF (oC (t_R (v_L hk))) (by rw[c_];exact(hl k hk).1) (H_.mpr λd hd=>by obtain⟨t,ht,rfl⟩:=F_.mp hd;exact gd_t (wl _ ((hl k hk).2 t ht))) .hd ?_
  exists wF.pre (.tl (.refl _)) (Cq g (ka k hk) λm=>?_)
  exists w_gs (oC (t_R v_n)) xj ?_
  exists w_i2 (oC (t_R v_h)) hk ?_
  obtain⟨z1,z2⟩:=zP k hk
  exists rh (oJ (oC (t_R (v_H hk)))) (xM po z2 ⋯) λp=>?_
  refine xl (oC oF) oF (by rw[(pQ _).length_eq,c_];omega) (H_.mpr λd hd=>?_) (.tl .hd) ?_
  ·obtain⟨w,hw,rfl⟩:=F_.mp ((pQ _).mem_iff.mp hd);exact gd_w (wl w (z2 w hw))
  tm_at"c"
  exact⟨_,Le.tl (Le.tl (.refl _)),qy ⟨⟨_,_,_,_,rfl⟩,rfl⟩⟩
 ·rintro _ _ ⟨⟨x,y,z,u,rfl⟩,rfl⟩
  exists pc ?_
  refine o6 (m:=1) (xs:=[0,1]) (g:=λk:Nat=>.d (.int k)) (own:=λk:Nat=>[some (.d (.int k))]) (λk=>decide (0 < (s.lanes k).length)) (λk=>.d (lnD (e k,e (1 - k)))) (qF ?_) (by decide) own1 (λ_ _=>rfl) (λk hk N ln=>?_) (λk hk _ N ln=>?_) λp=>?_
  ·tm_at"c"
   exact⟨by decide,rfl,qv,.refl _⟩
  ·have hk:k < 2:=by simp at hk;omega
   tm_at"c"
   exists w_gs (ln.mem (t_R v_n)) rL ?_
   exists w_i2 (ln.mem (t_R v_l)) hk ?_
   exists pk (ph (ds:=(s.lanes k).map thD) (oC (ln.mem (t_R (v_L hk))))) (ph (ds:=[]) oF) (.inr (by decide)) ?_
   refine⟨?_,.tl (.refl _)⟩;rw[if_pos rfl,ub];cases s.lanes k<;>simp
  ·have hk:k < 2:=by simp at hk;omega
   tm_at"c"
   exists oT (ln.mem (t_R (v_R he))) (uw hk) ?_
   exists oT (ln.mem (t_R (v_R he))) (xy hk) ?_
   exact⟨rfl,.refl _⟩
  tm_at"c"
  have eW:(T.Y.filter λl:Tb (List Th)=>decide (0 < l.v.length)).map (λl:Tb (List Th)=>(l.a,l.b))=([0,1].filter λk=>decide (0 < (s.lanes k).length)).map λk=>(e k,e (1 - k)):=by
   have:(T.Y.filter λl:Tb (List Th)=>decide (0 < l.v.length)).map (λl:Tb (List Th)=>(l.a,l.b))=((ct T.Y).filter λx=>decide (0 < x.2.2.length)).map λx=>(x.1,x.2.1):=by
    rw[Rq,w_];rfl
   rw[this,cY,Rq,w_];rfl
  have l2:(([0,1].filter λk=>decide (0 < (s.lanes k).length)).map λk=>(e k,e (1 - k))).length<=2:=by rw[c_];exact MB _ [0,1]
  obtain⟨so,_⟩:=uU (l:=([0,1].filter λk=>decide (0 < (s.lanes k).length)).map λk=>(e k,e (1 - k))) ⋯;refine wF.pre (t_in (R':=[_])) (FW g λm=>?_);rw[eW]
  tm_at"c"
  exists rh (ds:=(([0,1].filter λk=>decide (0 < (s.lanes k).length)).map λk=>(e k,e (1 - k))).map lnD) (by rw[w_,w_];exact oJ (oC (t_R oF))) so λp2=>?_
  refine xl (oC oF) oF (by rw[(pQ _).length_eq,c_];omega) (H_.mpr λd hd=>?_) (.tl .hd) ?_
  ·obtain⟨w,hw,rfl⟩:=F_.mp ((pQ _).mem_iff.mp hd);rfl
  exact⟨_,Le.tl (Le.tl ((Le.tl (.refl _)).trans (wT (R':=[_])))),q⟩
end
def Vl(P:List Wi):List Wi->List Th->List Wi->Prop
 | v,[],w=>v.Nodup/\∀u,u∈w↔u∈v
 | v,t::ts,w=>v.Nodup/\t.2∈P/\(t.1=true->t.2∉v)/\(t.1=false->t.2∈v)/\Vl P (appT v t) ts w
section
variable {P w az:List Wi}
theorem Vl.nd:∀{ts:List Th}{v:List Wi},Vl P v ts w->v.Nodup
 | [],_,h=>h.1
 | _::_,_,h=>h.1
theorem Vl.sub:∀{ts:List Th}{v:List Wi},Vl P v ts w->∀t∈ts,t.2∈P
 | t::ts,v,h,x,hx=>(x_.mp hx).elim (λz=>z▸h.2.1) (Vl.sub h.2.2.2.2 x)
theorem Vl.less:∀{bs v:List Wi},v.Nodup->bs.Nodup->(∀b∈bs,b∈v/\b∈P)->(∀u,u∈az↔u∈v/\u∉bs)->Vl P v (bs.map λb=>(false,b)) az
 | [],v,n1,_,_,m=>⟨n1,λu=>by rw[m];simp⟩
 | b::bs,v,n1,n2,hb,m=>by
  rw[MH] at n2;refine⟨n1,(hb b p_).2,(by intro z;cases z),λ_=>(hb b p_).1,Vl.less (v:=v.erase b) (n1.erase b) n2.2 (λx hx=>⟨n1.mem_erase_iff.mpr ⟨λz=>n2.1 (z▸hx),(hb x (n_ _ hx)).1⟩,(hb x (n_ _ hx)).2⟩) λu=>?_⟩;rw[m,n1.mem_erase_iff,x_];constructor
  ·rintro⟨h1,h2⟩;exact⟨⟨λz=>h2 (.inl z),h1⟩,λz=>h2 (.inr z)⟩
  ·rintro⟨⟨h1,h2⟩,h3⟩;exact⟨h2,λz=>z.elim h1 h3⟩
theorem Vl.more{bs:List Wi}(n2:bs.Nodup):∀{as v:List Wi},v.Nodup->as.Nodup->(∀a∈as,a∉v/\a∈P)->(∀b∈bs,b∈v/\b∈P)->(∀u,u∈az↔(u∈v\/u∈as)/\u∉bs)->Vl P v (as.map (λa=>(true,a))++bs.map λb=>(false,b)) az
 | [],v,n1,_,_,hb,m=>Vl.less n1 n2 hb λu=>by rw[m];simp
 | a::as,v,n1,n3,ha,hb,m=>by
  rw[MH] at n3;obtain⟨h1,h2⟩:=ha a p_;refine⟨n1,h2,λ_=>h1,(by intro z;cases z),Vl.more n2 (v:=v++[a]) (OH.mpr ⟨n1,by simp,λx hx y hy e=>h1 (by rw[m_.mp hy] at e;exact e▸hx)⟩) n3.2 (λx hx=>⟨λz=>?_,(ha x (n_ _ hx)).2⟩) (λb eh=>⟨Np _ (hb b eh).1,(hb b eh).2⟩) λu=>?_⟩
  ·rcases L_.mp z with z | z
   ·exact(ha x (n_ _ hx)).1 z
   ·exact n3.1 (m_.mp z▸hx)
  ·rw[m,L_,m_,x_,or_assoc]
theorem Vl.tell(h1:w.Nodup/\∀u∈w,u∈P)(h2:az.Nodup/\∀u∈az,u∈P):∀{ts:List Th}{v:List Wi},Vl P v ts w->Vl P v (ts++diffT w az) az
 | [],v,h=>by
  refine Vl.more (h1.1.filter _) h.1 (h2.1.filter _) (λa ha=>?_) (λb hb=>?_) λu=>?_
  ·obtain⟨z1,z2⟩:=z_.mp ha;exact⟨λz=>by simp[(h.2 a).mpr z] at z2,h2.2 a z1⟩
  ·obtain⟨z1,z2⟩:=z_.mp hb;exact⟨(h.2 b).mp z1,h1.2 b z1⟩
  ·rw[z_,z_,←h.2];by_cases c1:u∈w<;>by_cases c2:u∈az<;>simp[c1,c2]
 | t::ts,v,h=>⟨h.1,h.2.1,h.2.2.1,h.2.2.2.1,Vl.tell h1 h2 h.2.2.2.2⟩
def J9{w:List Wi}:diffT w w=[]:=by
 unfold diffT;rw[Ol.mpr λx hx=>by simp[hx]];rfl
end
section
variable{α β:Type}{L:List (Tb α)}{e:Nat->Nat}{v:Nat->α}{a b k:Nat}
def qo(ne:e 0≠e 1)(hk:k < 2)(hj:j < 2)(h:e k=e j):k=j:=by
 obtain rfl | rfl:k=0\/k=1:=by omega
 all_goals
  obtain rfl | rfl:j=0\/j=1:=by omega
  all_goals first | rfl | exact(ne h).elim | exact(ne h.symm).elim
def qp(c:ct L=ks.map λk=>(e k,e (1 - k),v k))(F:Nat->Nat->α->β):(L.map λl=>(l.a,l.b,F l.a l.b l.v))=ks.map λk=>(e k,e (1 - k),F (e k) (e (1 - k)) (v k)):=by
 have:=congrArg (PN λx:Nat×Nat×α=>(x.1,x.2.1,F x.1 x.2.1 x.2.2)) c;rw[w_,w_] at this;exact this
def sR{d:α}(ne:e 0≠e 1)(hk:∀k∈ks,k < 2)(c:ct L=ks.map λk=>(e k,e (1 - k),v k))(hj:j∈ks):atT L d (e j) (e (1 - j))=v j:=by
 unfold atT;cases q:L.find? λx=>x.a == e j&&x.b == e (1 - j) with
 | none =>
  obtain⟨l,hl,e1,e2,_⟩:=qQ (show(e j,e (1 - j),v j)∈ct L by rw[c];exact F_.mpr ⟨j,hj,rfl⟩);have:=Sv.mp q l hl;simp[e1,e2] at this
 | some x =>
  have h1:=List.find?_some q;have h2:(x.a,x.b,x.v)∈ct L:=F_.mpr ⟨x,OJ q,rfl⟩;rw[c] at h2;obtain⟨k,h3,e1⟩:=F_.mp h2;simp only[k_,beq_iff_eq,Nm] at h1 e1;obtain rfl:=qo ne (hk k h3) (hk j hj) (e1.1.trans h1.1);exact e1.2.2.symm
def Cy(c:ct L=ks.map λk=>(e k,e (1 - k),v k))(h:adjY L a b):∃k∈ks,a=e k/\b=e (1 - k):=by
 obtain⟨l,hl,rfl,rfl⟩:=h;have h2:(l.a,l.b,l.v)∈ct L:=F_.mpr ⟨l,hl,rfl⟩;rw[c] at h2;obtain⟨k,hk,e1⟩:=F_.mp h2;simp only[Nm] at e1;exact⟨k,hk,e1.1.symm,e1.2.1.symm⟩
def qS(c:ct L=ks.map λk=>(e k,e (1 - k),v k)):adjY L a b↔∃k∈ks,a=e k/\b=e (1 - k):=by
 refine⟨Cy c,?_⟩;rintro⟨k,h,rfl,rfl⟩;obtain⟨l,hl,e1,e2,_⟩:=qQ (show(e k,e (1 - k),v k)∈ct L by rw[c];exact F_.mpr ⟨k,h,rfl⟩);exact⟨l,hl,e1,e2⟩
end
def Rds(ks:List Nat):Prop:=ks=[]\/ks=[0,1]
def Rds.lt(r:Rds ks):∀k∈ks,k < 2:=by
 rcases r with rfl | rfl<;>simp
def Rds.fl(r:Rds ks):∀k∈ks,1 - k∈ks:=by
 rcases r with rfl | rfl<;>simp
def Rds.ri(r:Rds ks):∀k∈ks.reverse,k < 2:=λk h=>r.lt k (Ra.mp h)
def wZ{α:Type}{L:List (Tb α)}{e:Nat->Nat}{v:Nat->α}{a b:Nat}(c:ct L=ks.reverse.map λk=>(e k,e (1 - k),v k)):adjY L a b↔∃k∈ks,a=e k/\b=e (1 - k):=(qS c).trans (by simp only[Ra])
abbrev Tn.wsh(T:Tn)(h:Nat)(w:Wi):Tn:={ T with wished:=T.wished+1,own:=fset T.own h (T.own h++[(T.wished,w)]) }
section
variable{s s2:St}{T T2:Tn}{e:Nat->Nat}{P:List Wi}{f k:Nat}{how:Str}
def uF(ne:e 0≠e 1)(hj:j < 2)(h:∀a b,adjY T.Z a b->∃k,k < 2/\a=e k/\b=e (1 - k)):dueL T (e j) (e (1 - j))=shortL T.how ((T.own (e j)).map (·.2)):=by
 unfold dueL;rw[Ol.mpr λl hl=>?_,Q_,MY];obtain⟨k,hk,e1,e2⟩:=h _ _ ⟨l,hl,rfl,rfl⟩;rw[e1,e2];simp only[k_,beq_iff_eq,bne_iff_ne,ne_eq];rintro⟨q1,q2⟩;have:=qo ne ⋯ hj q1;exact q2 (by rw[show k=1 - j by omega])
structure Gs(s:St)(T:Tn)(e:Nat->Nat)(P:List Wi)(f:Nat)(how:Str)(n:Nat)(ks:List Nat):Prop where
 ok:TOk T P f
 fi:f=T.fields
 ho:T.how=how
 eM:∀k,k < 2->e k < T.many
 ne:e 0≠e 1
 wn:T.wished<=n
 num:∀h,∀p∈T.own h,p.1 < T.wished
 ol:∀h,(T.own h).length<=T.wished
 own:∀k,k < 2->s.own k=(T.own (e k)).map (·.2)
 log:∀i,(T.log i).length<=600*n
 ll:∀k,k < 2->(s.lanes k).length<=40*n
 kk:Rds ks
 no:ks=[]->∀k,k < 2->s.told k=[]/\s.lanes k=[]/\s.heard k=[]
 cY:ct T.Y=ks.map λk=>(e k,e (1 - k),s.lanes k)
 cZ:ct T.Z=ks.reverse.map λk=>(e k,e (1 - k),s.heard k)
 cS:ct T.S=ks.map λk=>(e k,e (1 - k),s.told k)
 vl:∀k∈ks,s.told k=shortL how (s.own k)/\Vl P (s.heard k) (s.lanes k) (s.told k)
def Gs.g(G:Gs s T e P f how n ks)(hn:n<=60):TG T P f:=by
 refine⟨G.ok,⟨λl h q=>?_,λa b h=>?_⟩,λa b=>(wZ G.cZ).trans (qS G.cY).symm,λa b=>(qS G.cS).trans (qS G.cY).symm,λi=>A_ (G.log i) ⋯,λl h=>?_⟩
 ·obtain⟨k,hk,e1,e2⟩:=(qS G.cY).mp ⟨l,h,rfl,rfl⟩;have hk:=G.kk.lt k hk;have:=qo G.ne hk ⋯ (e1.symm.trans (q.trans e2));omega
 ·obtain⟨k,hk,rfl,rfl⟩:=(qS G.cY).mp h;have:=G.kk.lt k hk;exact(qS G.cY).mpr ⟨1 - k,G.kk.fl k hk,rfl,by rw[show 1 - (1 - k)=k by omega]⟩
 ·have:(l.a,l.b,l.v)∈ct T.Y:=F_.mpr ⟨l,h,rfl⟩;rw[G.cY] at this;obtain⟨k,hk,q⟩:=F_.mp this;simp only[Nm] at q;rw[←q.2.2];exact A_ (G.ll k (G.kk.lt k hk)) ⋯
def IR(w:Wi)(G:Gs s T e P f how n ks)(hj:j < 2)(hk:k < 2):fset s.own j (s.own j++[w]) k=(fset T.own (e j) (T.own (e j)++[(T.wished,w)]) (e k)).map (·.2):=by
 by_cases c:k=j
 ·rw[c,oY,oY,o_,G.own j hj];rfl
 ·rw[o4 c,o4 λq=>c (qo G.ne hk hj q),G.own k hk]
def Gs.subP(G:Gs s T e P f how n ks)(hk:k < 2):∀w∈s.own k,w∈P:=λw hw=>by
 rw[G.own k hk] at hw;obtain⟨p,hp,rfl⟩:=F_.mp hw;exact G.ok.oP _ p hp
def rN{ws:List Wi}(h:∀w∈ws,w∈P):(shortL how ws).Nodup/\∀u∈shortL how ws,u∈P:=⟨sx.2.1,λu hu=>h u (sx.1 u hu)⟩
def zS(p:Po P f){a b:List Wi}(ha:a.Nodup/\∀u∈a,u∈P)(hb:b.Nodup/\∀u∈b,u∈P):(diffT a b).length<=36:=by
 have h1:=A_ (o8 _ P ha.1 ha.2) p.len;have h2:=A_ (o8 _ P hb.1 hb.2) p.len;have:=sD a b;omega
def z5{w:Wi}(G:Gs s T e P f how n ks)(hn:n<=60)(hj:j < 2)(hw:w∈P)(d:Dn (T.wsh (e j) w) (e j) T2)(iV:ky T2.Y=ky T.Y)(ho:s2.own=fset s.own j (s.own j++[w]))(hh:s2.heard=s.heard)(hr:ks≠[]->s2.told=fset s.told j (shortL how (s2.own j))/\s2.lanes=fset s.lanes j (s.lanes j++diffT (s.told j) (shortL how (s2.own j))))(h0:ks=[]->s2.told=s.told/\s2.lanes=s.lanes):Gs s2 T2 e P f how (n+1) ks:=by
 have cX:(T.own (e j)).length<=62:=by have:=G.ol (e j);have:=G.wn;omega
 have bj:=okW (k:=T.wished) (n:=T.wished+1) G.ok hw cX;have o2:∀k,k < 2->s2.own k=(T2.own (e k)).map (·.2):=λk hk=>by rw[ho,d.own];exact IR w G hj hk
 have zz:∀a b,adjY T.Z a b->∃k,k < 2/\a=e k/\b=e (1 - k):=λa b h=>by
  obtain⟨k,hk,z⟩:=(wZ G.cZ).mp h;exact⟨k,G.kk.lt k hk,z⟩
 have sP:∀k,k < 2->∀w∈s2.own k,w∈P:=λk hk w hw=>by
  rw[o2 k hk,d.own] at hw;obtain⟨p,hp,rfl⟩:=F_.mp hw;exact bj.oP _ p hp
 have az:dueL (T.wsh (e j) w) (e j) (e (1 - j))=shortL how (s2.own j):=by
  refine(uF (T:=T.wsh (e j) w) G.ne hj zz).trans ?_;rw[G.ho,o2 j hj,d.own]
 have tl:∀k∈ks,s2.told k=(if e k == e j then shortL how (s2.own j) else s.told k)/\s2.lanes k=if e k == e j then s.lanes j++diffT (s.told j) (shortL how (s2.own j)) else s.lanes k:=λk hk=>by
  obtain⟨h1,h2⟩:=hr λz=>by rw[z] at hk;cases hk
  rw[h1,h2];by_cases c:k=j
  ·rw[c,oY,oY,if_pos (by simp),if_pos (by simp)];exact⟨rfl,rfl⟩
  ·have:¬(e k == e j)=true:=λz=>c (qo G.ne (G.kk.lt k hk) hj (by simpa using z))
   rw[o4 c,o4 c,if_neg this,if_neg this];exact⟨rfl,rfl⟩
 have ek:∀k∈ks,(e k == e j)=true->k=j:=λk hk z=>qo G.ne (G.kk.lt k hk) hj (by simpa using z)
 have vj:j∈ks->s.told j=shortL how (s.own j):=λh=>(G.vl j h).1
 refine⟨d.ok bj iV,by rw[d.eq];exact G.fi,d.how.trans G.ho,λk hk=>by rw[d.many];exact G.eM k hk,G.ne,by rw[d.eq];exact Q1 G.wn,λh p hp=>?_,λh=>?_,o2,λi=>?_,λk hk=>?_,G.kk,λz k hk=>?_,?_,?_,?_,λk hk=>?_⟩
 ·rw[d.own] at hp;rw[d.eq];have hp:p∈fset T.own (e j) (T.own (e j)++[(T.wished,w)]) h:=hp;by_cases c:h=e j
  ·rw[c,oY] at hp
   rcases L_.mp hp with hp | hp
   ·exact Nz (G.num _ p hp)
   ·rw[m_.mp hp];exact Nb _
  ·rw[o4 c] at hp;exact Nz (G.num _ p hp)
 ·rw[d.own,d.eq];show(fset T.own (e j) (T.own (e j)++[(T.wished,w)]) h).length<=T.wished+1;by_cases c:h=e j
  ·rw[c,oY,g_];exact Q1 (G.ol _)
  ·rw[o4 c];exact Pt (G.ol _)
 ·exact A_ (d.log i) (by have:=G.log i;show(T.log i).length+300<=_;omega)
 ·have:=G.ll k hk;by_cases c:ks=[]
  ·rw[(h0 c).2];omega
  ·rw[(hr c).2];by_cases c2:k=j
   ·subst c2;have hk:k∈ks:=by rcases G.kk with z | rfl;exact absurd z c;exact in2 hk
    have:=zS G.ok.po (rN (how:=how) (G.subP hj)) (rN (how:=how) (sP k hj));rw[oY,g_,vj hk];omega
   ·rw[o4 c2];omega
 ·rw[(h0 z).1,(h0 z).2,hh];exact G.no z k hk
 ·rw[d.Y];refine(qp G.cY λa b v=>if a == e j then v++diffT (atT T.S [] (e j) b) (dueL (T.wsh (e j) w) (e j) b) else v).trans (ME λk hk=>?_);rw[(tl k hk).2];by_cases c:(e k == e j)=true
  ·obtain rfl:=ek k hk c;rw[if_pos c,if_pos c,az,sR G.ne (λk h=>G.kk.lt k h) G.cS hk]
  ·rw[if_neg c,if_neg c]
 ·rw[d.Z,hh];exact G.cZ
 ·rw[d.S];refine(qp G.cS λa b v=>if a == e j then dueL (T.wsh (e j) w) (e j) b else v).trans (ME λk hk=>?_);rw[(tl k hk).1];by_cases c:(e k == e j)=true
  ·obtain rfl:=ek k hk c;rw[if_pos c,if_pos c,az]
  ·rw[if_neg c,if_neg c]
 ·obtain⟨h1,h2⟩:=G.vl k hk;have cL:=G.kk.lt k hk;rw[(tl k hk).1,(tl k hk).2,hh];by_cases c:(e k == e j)=true
  ·obtain rfl:=ek k hk c;rw[if_pos c,if_pos c];exact⟨rfl,Vl.tell (by rw[h1];exact rN (G.subP cL)) (rN (sP k cL)) h2⟩
  ·rw[if_neg c,if_neg c];refine⟨h1.trans ?_,h2⟩;rw[ho,o4 λz=>c (by rw[z];simp)]
end
section
variable{α:Type}{L:List (Tb α)}{e:Nat->Nat}{v:Nat->α}{a b k:Nat}{x:α}
def Bi(ne:e 0≠e 1)(hk:∀k∈ks,k < 2)(c:ct L=ks.map λk=>(e k,e (1 - k),v k))(hj:j < 2)(ha:a=e j)(hb:b=e (1 - j)):ct (tset L a b n x)=ks.map λk=>(e k,e (1 - k),fset v j x k):=by
 rw[Be];refine(qp c λa' b' y=>if a'=a/\b'=b then x else y).trans (ME λk h=>?_);by_cases q:k=j
 ·rw[q,if_pos ⟨ha.symm,hb.symm⟩,oY]
 ·rw[if_neg λz=>q (qo ne (hk k h) hj (z.1.trans ha)),o4 q]
def sS(c:ct L=[]):L=[]:=R5.mp c
end
section
variable{s s2:St}{T T2 T4:Tn}{e:Nat->Nat}{P:List Wi}{f k:Nat}{how:Str}
def DR{l:Tb (List Th)}{z:Tb (List Wi)}{t:Th}{ad:List Th}(G:Gs s T e P f how n [0,1])(hj:j < 2)(la:l.a=e j)(lb:l.b=e (1 - j))(za:z.a=l.a)(zb:z.b=l.b)(hl:l∈T.Y)(ok:TOk (T.stp l z t ad) P f)(zv:z.v=s.heard j)(d:Dn (T.stp l z t ad) l.b T2)(iV:ky T2.Y=ky T.Y)(hs:s.lanes j=t::ad)(ho:s2.own=s.own)(ht:s2.told=s.told)(h1:s2.lanes=fset s.lanes j ad)(h2:s2.heard=fset s.heard j (appT (s.heard j) t)):Gs s2 T2 e P f how (n+1) [0,1]:=by
 have fF:1 - j < 2:=by omega
 have cY:ct (tset T.Y l.a l.b l.n ad)=[0,1].map λk=>(e k,e (1 - k),s2.lanes k):=by rw[h1];exact Bi G.ne G.kk.lt G.cY hj la lb
 have cZ:ct (tset T.Z z.a z.b z.n (appT z.v t))=[0,1].reverse.map λk=>(e k,e (1 - k),s2.heard k):=by rw[h2,zv];exact Bi G.ne G.kk.ri G.cZ hj (za.trans la) (zb.trans lb)
 have az:∀h,h=e (1 - j)->dueL (T.stp l z t ad) h (e (1 - (1 - j)))=s.told (1 - j):=by
  rintro _ rfl;refine(uF (T:=(T.stp l z t ad)) G.ne fF λa b h=>?_).trans ?_
  ·obtain⟨k,hk,q⟩:=(wZ cZ).mp h;exact⟨k,G.kk.lt k hk,q⟩
  ·show shortL T.how _=_;rw[G.ho,←G.own _ fF,(G.vl _ (in2 fF)).1]
 have ll:∀k,k < 2->(s2.lanes k).length<=40*n:=λk hk=>by
  rw[h1];have:=G.ll k hk;by_cases c:k=j
  ·rw[c,hs] at this;rw[c,oY];exact Nat.le_of_succ_le this
  ·rw[o4 c];exact this
 refine⟨d.ok ok (iV.trans (su G.ok.kY hl).symm),by rw[d.eq];exact G.fi,d.how.trans G.ho,λk hk=>by rw[d.many];exact G.eM k hk,G.ne,by rw[d.eq];exact Pt G.wn,by rw[d.own,d.eq];exact G.num,by rw[d.own,d.eq];exact G.ol,by rw[d.own,ho];exact G.own,λi=>A_ (d.log i) (by have:=G.log i;show(T.log i).length+300<=_;omega),λk hk=>A_ (ll k hk) ⋯,G.kk,λz=>(by cases z),?_,by rw[d.Z];exact cZ,?_,λk hk=>?_⟩
 ·rw[d.Y];refine(qp cY λa b v=>if a == l.b then v++diffT (atT T.S [] l.b b) (dueL (T.stp l z t ad) l.b b) else v).trans (ME λk hk=>?_);by_cases c:(e k == l.b)=true
  ·obtain rfl:=qo G.ne (G.kk.lt k hk) fF (by rw[←lb];simpa using c);rw[if_pos c,az _ lb,lb,sR G.ne G.kk.lt G.cS hk,J9,MY]
  ·rw[if_neg c]
 ·rw[d.S,ht];refine(qp G.cS λa b v=>if a == l.b then dueL (T.stp l z t ad) l.b b else v).trans (ME λk hk=>?_);by_cases c:(e k == l.b)=true
  ·obtain rfl:=qo G.ne (G.kk.lt k hk) fF (by rw[←lb];simpa using c);rw[if_pos c,az _ lb]
  ·rw[if_neg c]
 ·obtain⟨v1,v2⟩:=G.vl k hk;rw[ht,ho,h1,h2];refine⟨v1,?_⟩;by_cases c:k=j
  ·subst c;rw[hs] at v2;rw[oY,oY];exact v2.2.2.2.2
  ·rw[o4 c,o4 c];exact v2
def G4{n1 n2 n3 n4 n5 n6:Nat}(G:Gs s T e P f how n [])(ok:TOk T4 P f)(d:Dn (Tn.end1 (T.tw (e 0) (e 1) n1 n2) (e 0) (e 1) n3 n4) (e 0) T2)(d4:Dn (Tn.end1 T2 (e 1) (e 0) n5 n6) (e 1) T4)(ho:s2.own=s.own)(hh:s2.heard=s.heard)(h0:s2.told 0=shortL how (s.own 0))(h1:s2.told 1=shortL how (s.own 1))(l0:s2.lanes 0=diffT [] (shortL how (s.own 0)))(l1:s2.lanes 1=diffT [] (shortL how (s.own 1))):Gs s2 T4 e P f how (n+1) [0,1]:=by
 have kh:¬(e 1 == e 0)=true:=λz=>G.ne (by simpa using z:e 1=e 0).symm
 have gM:¬(e 0 == e 1)=true:=λz=>G.ne (by simpa using z)
 have Y0:=sS G.cY;have Z0:=sS G.cZ;have S0:=sS G.cS;have nd:nW.Nodup/\∀u∈nW,u∈P:=⟨N8,λu h=>by cases h⟩;have dP:∀k,k < 2->(shortL how (s.own k)).Nodup/\∀u∈shortL how (s.own k),u∈P:=λk hk=>rN (G.subP hk)
 have dl:∀k,k < 2->(diffT [] (shortL how (s.own k))).length<=36:=λk hk=>zS G.ok.po nd (dP k hk)
 have vk:∀k,k < 2->Vl P [] (diffT [] (shortL how (s.own k))) (shortL how (s.own k)):=λk hk=>Vl.tell (ts:=[]) nd (dP k hk) ⟨N8,λ_=>SV⟩
 have aS:ct (Tn.end1 (T.tw (e 0) (e 1) n1 n2) (e 0) (e 1) n3 n4).S=[0].map λk=>(e k,e (1 - k),nW):=by
  show ct (T.S++_)=_;rw[S0];rfl
 have aY:ct (Tn.end1 (T.tw (e 0) (e 1) n1 n2) (e 0) (e 1) n3 n4).Y=[0,1].map λk=>(e k,e (1 - k),nT):=by
  show ct (T.Y++_++_)=_;rw[Y0];rfl
 have z2:T2.Z=[Tb.mk (e 1) (e 0) n3 nW]:=by
  rw[d.Z];show T.Z++_=_;rw[Z0];rfl
 have gN:dueL (Tn.end1 (T.tw (e 0) (e 1) n1 n2) (e 0) (e 1) n3 n4) (e 0) (e 1)=shortL how (s.own 0):=by
  refine(uF (T:=Tn.end1 (T.tw (e 0) (e 1) n1 n2) (e 0) (e 1) n3 n4) G.ne (j:=0) (by decide) λa b h=>?_).trans ?_
  ·rcases pS.mp h with⟨l,hl,_⟩ | ⟨rfl,rfl⟩
   ·rw[show T.Z=[] from Z0] at hl;cases hl
   ·exact⟨1,by decide,rfl,rfl⟩
  ·show shortL T.how ((T.own (e 0)).map (·.2))=_;rw[G.ho,←G.own 0 (by decide)]
 have gO:dueL (Tn.end1 T2 (e 1) (e 0) n5 n6) (e 1) (e 0)=shortL how (s.own 1):=by
  refine(uF (T:=Tn.end1 T2 (e 1) (e 0) n5 n6) G.ne (j:=1) (by decide) λa b h=>?_).trans ?_
  ·rcases pS.mp h with h | ⟨rfl,rfl⟩
   ·rw[z2] at h;obtain⟨l,hl,rfl,rfl⟩:=h;rw[m_.mp hl];exact⟨1,by decide,rfl,rfl⟩
   ·exact⟨0,by decide,rfl,rfl⟩
  ·show shortL T2.how ((T2.own (e 1)).map (·.2))=_;rw[d.how,d.own];show shortL T.how ((T.own (e 1)).map (·.2))=_;rw[G.ho,←G.own 1 (by decide)]
 have bS:ct (Tn.end1 T2 (e 1) (e 0) n5 n6).S=[0,1].map λk=>(e k,e (1 - k),if k=0 then shortL how (s.own 0) else[]):=by
  show ct (T2.S++[_])=_;rw[ct,o_,show T2.S.map (λl=>(l.a,l.b,l.v))=_ from d.S,qp aS λa b v=>if a == e 0 then dueL (Tn.end1 (T.tw (e 0) (e 1) n1 n2) (e 0) (e 1) n3 n4) (e 0) b else v];show[(e 0,e 1,if(e 0 == e 0)=true then _ else _)]++_=_;rw[if_pos (by simp),gN];rfl
 have bY:ct (Tn.end1 T2 (e 1) (e 0) n5 n6).Y=[0,1].map λk=>(e k,e (1 - k),if k=0 then diffT [] (shortL how (s.own 0)) else[]):=by
  show ct T2.Y=_;rw[d.Y,qp aY λa b v=>if a == e 0 then v++diffT (atT (Tn.end1 (T.tw (e 0) (e 1) n1 n2) (e 0) (e 1) n3 n4).S [] (e 0) b) (dueL (Tn.end1 (T.tw (e 0) (e 1) n1 n2) (e 0) (e 1) n3 n4) (e 0) b) else v];show[(e 0,e 1,if(e 0 == e 0)=true then _ else _),(e 1,e 0,if(e 1 == e 0)=true then _ else _)]=_;rw[if_pos (by simp),if_neg kh,gN,sR (j:=0) G.ne (by simp) aS (by simp)];rfl
 have a1:atT (Tn.end1 T2 (e 1) (e 0) n5 n6).S [] (e 1) (e 0)=[]:=sR (j:=1) G.ne (by simp) bS (by simp);refine⟨ok,by rw[d4.eq,d.eq];exact G.fi,(d4.how.trans d.how).trans G.ho,λk hk=>by rw[d4.many,d.many];exact G.eM k hk,G.ne,by rw[d4.eq,d.eq];exact Pt G.wn,by rw[d4.own,d.own,d4.eq,d.eq];exact G.num,by rw[d4.own,d.own,d4.eq,d.eq];exact G.ol,by rw[d4.own,d.own,ho];exact G.own,λi=>A_ (d4.log i) (A_ (Nat.add_le_add_right (d.log i) 300) (by have:=G.log i;show(T.log i).length+300+300<=_;omega)),λk hk=>?_,.inr rfl,λz=>(by cases z),?_,?_,?_,λk hk=>?_⟩
 ·obtain rfl | rfl:k=0\/k=1:=by omega
  ·rw[l0];exact A_ (dl 0 hk) ⋯
  ·rw[l1];exact A_ (dl 1 hk) ⋯
 ·rw[d4.Y,qp bY λa b v=>if a == e 1 then v++diffT (atT (Tn.end1 T2 (e 1) (e 0) n5 n6).S [] (e 1) b) (dueL (Tn.end1 T2 (e 1) (e 0) n5 n6) (e 1) b) else v];show[(e 0,e 1,if(e 0 == e 1)=true then _ else _),(e 1,e 0,if(e 1 == e 1)=true then _ else _)]=[(e 0,e 1,s2.lanes 0),(e 1,e 0,s2.lanes 1)];rw[if_neg gM,if_pos (show(e 1 == e 1)=true by simp),a1,gO,l0,l1];rfl
 ·rw[d4.Z];show ct (T2.Z++[_])=_;rw[z2,hh];show[(e 1,e 0,_),(e 0,e 1,_)]=[(e 1,e 0,s.heard 1),(e 0,e 1,s.heard 0)];rw[(G.no rfl 0 (by decide)).2.2,(G.no rfl 1 (by decide)).2.2]
 ·rw[d4.S,qp bS λa b v=>if a == e 1 then dueL (Tn.end1 T2 (e 1) (e 0) n5 n6) (e 1) b else v];show[(e 0,e 1,if(e 0 == e 1)=true then _ else _),(e 1,e 0,if(e 1 == e 1)=true then _ else _)]=[(e 0,e 1,s2.told 0),(e 1,e 0,s2.told 1)];rw[if_neg gM,if_pos (show(e 1 == e 1)=true by simp),gO,h0,h1];rfl
 ·have cL:k < 2:=by simp at hk;omega
  rw[ho,hh,(G.no rfl k cL).2.2];obtain rfl | rfl:k=0\/k=1:=by omega
  ·rw[h0,l0];exact⟨rfl,vk 0 cL⟩
  ·rw[h1,l1];exact⟨rfl,vk 1 cL⟩
end
section
variable{Q:E->Mp->Prop}{QP:List (E×E)->Mp->Prop}{a b:MM E}{r:List (MM E×MM E)}
def GP(q:QP [] M):wM (prsM []) ν M QP:=oU q
def sV(h:wM a ν M λx M1=>wM b ν M1 λy M2=>wM (prsM r) ν M2 λps M3=>QP ((x,y)::ps) M3):wM (prsM ((a,b)::r)) ν M QP:=w_bd (h.mono λ_ _ q=>w_bd (wF.mono q λ_ _ q=>w_bd (wF.mono q λ_ _ q=>oU q)))
def CC(h:∀n,wM (prsM r) ν ((n,.dct false false [])::M) λps M1=>∃kvs M2,mrg [] ps=some kvs/\ps.length<=15/\(n,.dct false false [])∈M1/\Put n (.dct false false kvs) M1 M2/\Q (.ref n) M2):wM (dispE r) ν M Q:=λS s=>by
 obtain⟨ps,S1,M1,e1,s1,kvs,M2,e2,hl,hm,p,q⟩:=h S.length _ (s.new (.dct false false []));refine⟨.ref S.length,_,M2,?_,s1.put p,q⟩;unfold dispE;rw[e1];dsimp only;rw[s1.get hm];rw[e2];dsimp only;rw[if_pos hl]
end
inductive Pk(c:Nat×Ob):Mp->Mp->Prop where
 | hd {N:Mp}:Pk c (c::N) N
 | tl {d:Nat×Ob}{N N':Mp} (h:Pk c N N'):Pk c (d::N) (d::N')
def Pk.perm{c:Nat×Ob}{N N':Mp}(h:Pk c N N'):N.Perm (c::N'):=by
 induction h with
 | hd=>exact .refl _
 | tl h ih=>exact(ih.cons _).trans (.swap ..)
def B9{c:Nat×Ob}{N N':Mp}(h:Pk c N N')(l:Le M N'):Le (c::M) N:=l.hd.trans (.perm h.perm)
noncomputable def two(a b:Nat):Nat->Nat
 | 0=>a
 | _=>b
section
variable{s:St}{T:Tn}{U V:Nat->Nat}{Q:E->Mp->Prop}{k f:Nat}{P:List Wi}{how:Str}
def p_O{x:List Wi}(hk:k < 2):Put (s.O k) (wsO x) (s.m2 U V R) (({ s with own:=fset s.own k x }:St).m2 U V R):=
 .tl (.tl (.tl (.tl (.tl (qm (x:=k) (by decide) (in2 hk) rfl (by show(_,wsO (fset s.own k x k))=_;rw[oY]) λy _ ne=>by show(_,wsO (fset s.own k x y))=_;rw[o4 ne])))))
def vg(hk:k < 2)(p:Po P f)(ho:∀w∈s.own k,w∈P)(hl:(s.own k).length<=1000)(ht:(s.told k).length<=18)(hn:(s.lanes k).length<=900000)(q:∀pL pT,Q (.d .non) (T.m ((s.tellS how k pL pT).m2 (fset s.T k pT) (fset s.L k pL) R))):wF (rA [.ref s.n,.d (.str how),.d (.int k)]) (T.m (s.m2 s.T s.L R)) Q:=
 wF.pre s_f (wF.le (DB hk p ho hl ht hn λpL pT=>⟨_,s_t,q pL pT⟩))
def Dg(hk:k < 2){t:Th}{ad:List Th}(hl:s.lanes k=t::ad)(hin:t.1=false->t.2∈s.heard k)(hn:(s.heard k).length<=1000)(q:Q (.d (thD t)) (T.m (({ s with lanes:=fset s.lanes k ad,heard:=fset s.heard k (appT (s.heard k) t) }:St).m2 s.T s.L R))):wF (tR [.ref s.n,.d (.int k)]) (T.m (s.m2 s.T s.L R)) Q:=
 wF.pre s_f (wF.le (FO hk hl hin hn ⟨_,s_t,q⟩))
end
inductive Iv(np nc en pl A:Nat)(e:Nat->Nat)(P:List Wi)(f:Nat)(how:Str)(R:Mp)(n:Nat)(ν:Nms)(N:Mp):Prop | mk (s:St) (T:Tn) (a c:Int) (ks:List Nat) (x8 x9 gr gw:Option E):0<=a->Gs s T e P f how n ks->((n<=A->ks=[]))->((A < n->ks=[0,1]))->ν=[some (.ref np),some (.ref T.t),some (.ref en),some (.d (.str how)),some (.ref pl),some (.ref s.n),some (.d (.int (A:Nat))),some (.d (.int T.wished)),x8,x9,gr,gw]->N=T.m (s.m2 s.T s.L ((np,potO nc a c)::R))->Iv np nc en pl A e P f how R n ν N
section
variable{T:Tn}{Q:E->Mp->Prop}{k f pl:Nat}{P:List Wi}{how:Str}{e:Nat->Nat}{cs:List Int}{a c:Int}
def IS(hc:(nc,intsO cs)∈R)(he:(en,enO e)∈R)(hp:(pl,wsO P)∈R)(ha:0<=a)(p0:P≠[])(G0:∀n o t l h O T' L H,Gs ⟨n,o,t,l,h,O,T',L,H,λ_=>[],λ_=>[],λ_=>[],λ_=>[]⟩ T e P f how 0 [])(w0:T.wished=0)(q:∀a c,0<=a->Q (.d (.bl true)) ((np,potO nc a c)::R)):wF (wa [.ref np,.ref T.t,.ref en,.d (.str how),.ref pl]) (T.m ((np,potO nc a c)::R)) Q:=by
 refine J1 rfl ?_
 tm_at"c"
 refine CC λn=>?_
 exists sV ?_
 rename_i O0 O1 o
 exists sV ?_
 rename_i T0 T1 t
 exists sV ?_
 rename_i L0 L1 l
 exists sV ?_
 rename_i H0 H1 h;refine GP ?_;refine⟨(St.mk n o t l h (two O0 O1) (two T0 T1) (two L0 L1) (two H0 H1) (λ_=>[]) (λ_=>[]) (λ_=>[]) λ_=>[]).kv,_,by kernel_rfl,by show 4<=15;decide,?_,.tl (.tl (.tl (.tl (.tl (.tl (.tl (.tl (.tl (.tl (.tl (.tl .hd))))))))))),?_⟩
 ·exact .tail _ (.tail _ (.tail _ (.tail _ (.tail _ (.tail _ (.tail _ (.tail _ (.tail _ (.tail _ (.tail _ (.tail _ (.head _))))))))))))
 refine rp ‹p› ?_;refine wS.pre (N:=T.m ((St.mk n o t l h (two O0 O1) (two T0 T1) (two L0 L1) (two H0 H1) (λ_=>[]) (λ_=>[]) (λ_=>[]) λ_=>[]).m2 (two T0 T1) (two L0 L1) ((np,potO nc a c)::R))) ?_ ?_
 ·refine s_t.trans ?_;refine B9 (.tl (.tl (.tl (.tl (.tl (.tl (.tl (.tl (.tl (.tl (.tl (.tl .hd)))))))))))) ?_
  iterate 11 refine B9 ‹p› ?_
  exact .refl _
 tm_at"c"
 refine qu (t_R (v_R oF)) (t_R (v_R (oC hc))) ha (by decide) (λ_=>p_R (p_sR .hd)) λah a c ha h0 h1=>?_
 obtain⟨A,rfl⟩:=NB h0
 tm_at"c"
 refine pf (lk:=none) (xs:=MO (A+14)) (g:=λk:Nat=>.d (.int (0+(k:Int)))) (λdone ν N=>Iv np nc en pl A e P f how R done.length ν N) (qF ?_) (by rw[MD];omega) ?_ ?_
 ·tm_at"c"
  exact⟨⋯,rfl,λ_ _ _ _=>qv,_,T,a,c,[],_,_,_,_,ha,G0 ..,λ_=>rfl,λz=>absurd z (Ov _),by rw[w0];rfl,rfl⟩
 ·rintro done k ad _ _ ek ⟨s,T,a,c,ks,x8,x9,gr,gw,ha,G,k0,k1,rfl,rfl⟩
  have hk:k=done.length/\k < A+14:=by
   have e1:=congrArg length ek;have e2:=congrArg (·[done.length]?) ek;simp at e1 e2;rw[P4 ⋯] at e2;cases e2;exact⟨rfl,⋯⟩
  obtain⟨rfl,hk⟩:=hk;have g:=G.g ⋯
  exists ⟨_,pi ‹p›,wS.le ?_⟩
  exists qu (t_R (v_R oF)) (t_R (v_R (oC hc))) ha (by decide) (λ_=>p_R (p_sR .hd)) λway a c ha w0 w1=>?_
  refine qu (t_R (v_R oF)) (t_R (v_R (oC hc))) ha (by decide) (λ_=>p_R (p_sR .hd)) λed a c ha d0 d1=>?_
  obtain⟨j,rfl⟩:=NB d0;have hj:j < 2:=by omega
  refine rp ‹p› (qc (sX (λν N=>Iv np nc en pl A e P f how R (done.length+1) ν N/\ν[8]?=some (some (.d (.int (0+(done.length:Int)))))) ?_ ?_))
  ·tm_at"c"
   refine oZ (λc1=>?_) (λc1=>?_)
   ·obtain rfl:A=done.length:=by have:=of_decide_eq_true c1;omega
    obtain rfl:=k0 (s_ _);have Y0:=sS G.cY;have no:∀a b,¬adjY T.Y a b:=λa b ⟨l,hl,_⟩=>by rw[Y0] at hl;cases hl
    tm_at"c"
    refine Hv g (G.eM 0 (by decide)) (G.eM 1 (by decide)) (C:=λx=>x=e 0) ?_ (λu v _ h=>absurd h (no u v)) rfl (λz=>G.ne z.symm) λn1 n2 n3 n4 n5 n6 T2 T4 nq d d4 _ _=>?_
    ·intro p hp
     match p,hp with
     | [],_=>exact N8
     | [x],_=>exact MH.mpr ⟨by simp,N8⟩
     | x::y::p,hp=>exact absurd hp.1 (no x y)
    have t4:T4.t=T.t:=d4.t.trans d.t;have w4:T4.wished=T.wished:=by rw[d4.eq,d.eq]
    obtain⟨kj,km,_⟩:=G.no rfl 0 (by decide);obtain⟨kq,kx,_⟩:=G.no rfl 1 (by decide);have ol:∀k,k < 2->(s.own k).length<=1000:=λk hk=>by rw[G.own k hk,c_];have:=G.ok.oB (e k);omega
    tm_at"c"
    exists pF ?_
    exists oH rfl ?_
    exists vg (s:=s) (k:=0) (by decide) G.ok.po (G.subP (by decide)) (ol 0 (by decide)) (by rw[kj];exact Mu _) (by rw[km];exact Mu _) λpL pT=>?_
    exists vg (s:=s.tellS how 0 pL pT) (k:=1) (by decide) G.ok.po (G.subP (by decide)) (ol 1 (by decide)) (by show(s.told 1).length<=18;rw[kq];exact Mu _) (by show(s.lanes 1).length<=_;rw[kx];exact Mu _) λnr nu=>?_
    rw[←t4,←w4];refine pp (.refl _) ⟨⟨(s.tellS how 0 pL pT).tellS how 1 nr nu,T4,a,c,[0,1],_,_,_,_,ha,G4 G nq d d4 rfl rfl rfl rfl ?_ ?_,λz=>absurd z (Nat.not_succ_le_self _),λ_=>rfl,rfl,rfl⟩,rfl⟩
    ·show s.lanes 0++diffT (s.told 0) _=_;rw[kj,km];rfl
    ·show s.lanes 1++diffT (s.told 1) _=_;rw[kq,kx];rfl
   ·have c1:=of_decide_eq_false c1;refine AC (wF.mono (Q':=λb N=>Le (T.m (s.m2 s.T s.L ((np,potO nc a c)::R))) N/\(b=false->A < done.length/\s.lanes j≠[])) ?_ ?_)
    ·show wM _ _ _ _
     tm_at"c"
     exists oZ (λ_=>⟨.refl _,λz=>by cases z⟩) λc2=>?_
     exists oZ (λ_=>⟨.refl _,λz=>by cases z⟩) λc3=>?_
     exists w_gs (t_R v_n) rL ?_
     exists w_i2 (t_R v_l) hj ?_
     exists pk (ph (ds:=(s.lanes j).map thD) (oC (t_R (v_L hj)))) (ph (ds:=[]) oF) (.inr (by decide)) ?_
     refine⟨.tl (.refl _),λz=>⟨by have:=of_decide_eq_false c2;omega,λy=>?_⟩⟩;rw[y] at z;exact absurd z (by decide)
    rintro b N ⟨le,hb⟩;cases b with
    | true =>
     exists pe rfl (wS.pre le ?_)
     rw[c_,c_];have oy:0 < P.length:=Pb.mpr p0;have nv:=G.ok.po.len;refine qu (t_R (v_R oF)) (t_R (v_R (oC hc))) ha ⋯ (λ_=>p_R (p_sR .hd)) λi a c ha i0 i1=>?_
     obtain⟨w,e1⟩:∃w,P[i.toNat]?=some w:=⟨_,i_ ⋯⟩;have hw:w∈P:=NC e1
     exists oT (t_R (v_R (oC hp))) (qJ i0 e1) ?_
     exists oT (t_R (v_R (oC he))) (uw hj) ?_
     have cX:=G.ol (e j);have oz:=G.wn
     exists JO g (G.eM j hj) hw G.fi ⋯ (λp hp=>My (G.num _ p hp)) λT2 d k2=>?_
     exists sL _ _ rfl _ _ ?_
     exists w_gs (t_R v_n) BU ?_
     refine w_i2 (t_R v_o) hj ?_
     exists ⟨_,_,rfl,t_R (v_O hj),?_⟩
     have ol:(s.own j).length<=62:=by rw[G.own j hj,c_];omega
     have ll:=G.ll j hj;have oP:∀x∈s.own j++[w],x∈P:=λx hx=>(L_.mp hx).elim (G.subP hj x) λh=>by rw[m_.mp h];exact hw
     exists pK (t_R (v_O hj)) (by rw[c_,c_];show _ < 1000000;omega) (by rw[show((s.own j).map wD).map E.d++[E.d (wD w)]=((s.own j++[w]).map wD).map E.d by rw[o_,o_];rfl];exact p_R (p_O hj)) ?_
     have w2:T2.wished=T.wished+1:=by rw[d.eq]
     rw[←show T2.t=T.t from d.t,show((T.wished:Int)+1)=((T2.wished:Nat):Int) by rw[w2];rfl];refine oZ (λc4=>?_) (λc4=>?_)
     ·have c4:=of_decide_eq_true c4;obtain rfl:=k1 ⋯;have td:=rN (how:=how) (G.subP hj)
      tm_at"c"
      exists vg (s:={ s with own:=fset s.own j (s.own j++[w]) }) hj G.ok.po (by show ∀x∈fset s.own j (s.own j++[w]) j,_;rw[oY];exact oP) (by show(fset s.own j (s.own j++[w]) j).length<=_;rw[oY,g_,Ms];omega) (by show(s.told j).length<=18;rw[(G.vl j (in2 hj)).1];exact A_ (o8 _ P td.1 td.2) nv) (by show(s.lanes j).length<=_;omega) λpL pT=>?_
      exact pp (.refl _) ⟨⟨({ s with own:=fset s.own j (s.own j++[w]) }:St).tellS how j pL pT,T2,a,c,[0,1],_,_,_,_,ha,z5 G ⋯ hj hw d k2 rfl rfl (λ_=>⟨rfl,rfl⟩) (λz=>by cases z),λz=>by omega,λ_=>rfl,rfl,rfl⟩,rfl⟩
     ·have c4:=of_decide_eq_false c4;obtain rfl:=k0 ⋯
      tm_at"c"
      exact pp (.refl _) ⟨⟨{ s with own:=fset s.own j (s.own j++[w]) },T2,a,c,[],_,_,_,_,ha,z5 G ⋯ hj hw d k2 rfl rfl (λz=>absurd rfl z) (λ_=>⟨rfl,rfl⟩),λ_=>rfl,λz=>by omega,rfl,rfl⟩,rfl⟩
    | false =>
     obtain⟨h1,h2⟩:=hb rfl;obtain rfl:=k1 h1;refine oH rfl (wS.pre le ?_);obtain⟨l,hl,la,lb,lv⟩:=qQ (show(e j,e (1 - j),s.lanes j)∈ct T.Y by rw[G.cY];exact F_.mpr ⟨j,in2 hj,rfl⟩);obtain⟨z,hz,za,zb,zv⟩:=qQ (show(e j,e (1 - j),s.heard j)∈ct T.Z by rw[G.cZ];exact F_.mpr ⟨j,Ra.mpr (in2 hj),rfl⟩)
     obtain⟨t,ad,ht⟩:∃t ad,s.lanes j=t::ad:=by
      cases q:s.lanes j with
      | nil=>exact absurd q h2
      | cons t r=>exact⟨t,r,rfl⟩
     have vl:=(G.vl j (in2 hj)).2;rw[ht] at vl;obtain⟨v1,v2,_,v4,v5⟩:=vl;have zP:=G.ok.zP z hz;rw[zv] at zP;have zl:=A_ (o8 _ P zP.1 zP.2) G.ok.po.len
     tm_at"c"
     exists oT (t_R (v_R (oC he))) (uw hj) ?_
     exists oT (t_R (v_R (oC he))) (xy hj) ?_
     rw[←la,←lb]
     exists Mh g hl (lv.trans ht) hz (za.trans la.symm) (zb.trans lb.symm) (by rw[zv];exact v4) (by rw[zv];exact v5.nd) v2 λT2 fx d k2=>?_
     exists Dg hj ht v4 ⋯ ?_
     exists sL _ _ (gd_t (by have:=(G.ok.po.all t.2 v2).len;have:=G.ok.po.f1;omega)) _ _ ?_
     tm_at"c"
     rw[←show T2.t=T.t from d.t,←show T2.wished=T.wished by rw[d.eq]];exact pp (.refl _) ⟨⟨{ s with lanes:=fset s.lanes j ad,heard:=fset s.heard j (appT (s.heard j) t) },T2,a,c,[0,1],_,_,_,_,ha,DR G hj la lb (za.trans la.symm) (zb.trans lb.symm) hl fx zv d k2 ht rfl rfl rfl rfl,λz=>by omega,λ_=>rfl,rfl,rfl⟩,rfl⟩
  ·rintro _ _ ⟨⟨s,T,a,c,ks,x8,x9,gr,gw,ha,G,k0,k1,rfl,rfl⟩,e8⟩;obtain rfl:x8=some (.d (.int (0+(done.length:Int)))):=Mt e8;have len:(done++[done.length]).length=done.length+1:=by rw[g_];rfl
   tm_at"c"
   refine oZ (λc1=>?_) (λc1=>?_)
   ·have c1:=of_decide_eq_true c1;obtain rfl:=k1 ⋯
    tm_at"c"
    exists IY (G.g ⋯) G.cY G.cZ (oC he) (λk hk=>⟨A_ (G.ll k hk) ⋯,(G.vl k (in2 hk)).2.sub⟩) ?_
    tm_at"c"
    exact⟨_,.refl _,qy (by rw[len];exact⟨s,T,a,c,_,_,_,_,_,ha,G,k0,k1,rfl,rfl⟩)⟩
   ·exists oH rfl ?_
    exact⟨_,.refl _,qy (by rw[len];exact⟨s,T,a,c,_,_,_,_,_,ha,G,k0,k1,rfl,rfl⟩)⟩
 ·rintro _ _ ⟨s,T,a,c,ks,x8,x9,gr,gw,ha,G,k0,k1,rfl,rfl⟩
  exists pc ?_
  exact⟨_,by rw[Tn.m,pC,qH];exact Le.app _ (Le.app _ (.refl _)),q a c ha⟩
end
def By{Q:E->Mp->Prop}{lo:Option Int}(q:∀p,Q (.ref p) ((p,.lst (cutE (ds.map .d) lo hi))::M)):wF (slE (.d (.lst ds)) lo hi) M Q:=sO q
def CV{xs:List E}{a b:Nat}:cutE xs (some (a:Int)) (some (b:Int))=(xs.take b).drop a:=by
 unfold cutE;rw[HT.rR,HT.rR]
 apply SR
 intro i;rw[Qp,QV,QV,Qp];by_cases h:a<=xs.length
 ·rw[RO h];by_cases h2:i < min b xs.length - a
  ·rw[if_pos h2,if_pos ⋯]
  ·rw[if_neg h2];by_cases h3:a+i < b
   ·rw[if_pos h3,Nv ⋯]
   ·rw[if_neg h3]
 ·rw[if_neg ⋯];split
  ·rw[Nv ⋯]
  ·rfl
def F0{zs:List Int}(h:(n,intsO zs)∈M):SrcAt (enumSrc (.ref n)) (zs.zipIdx.map λq=>.d (.tup [.int q.2,.int q.1])) M:=by
 have e:=yj (M:=M) (oJ h);rw[w_,List.zipIdx_map,w_] at e;exact e
section
variable{Q:E->Mp->Prop}
def HQ(hl:ns.length<=63)(q:∀np nc cs,Q (.ref np) ((np,potO nc 0 0)::(nc,intsO cs)::M)):wF (xx [.d (.lst (ns.map .int))]) M Q:=by
 walk_at "d"
 exists By λp1=>?_
 refine yH (oJ oF) λp=>?_
 rw[show(12:Int)=((12:Nat):Int) from rfl,yI,←PK,←PK]
 tm_at"c"
 exists qR (A0 ?_)
 exists By λp2=>?_
 rw[show(63:Int)=((63:Nat):Int) from rfl,CV,←PK,←PK,←PJ,←PJ];obtain⟨zs,hz⟩:∃zs,(ns.take 63).drop 12=zs:=⟨_,rfl⟩
 have ny:zs≠[]->(ns.take 12).length=12:=λh=>by
  rw[M8,RO];have:=Pb.mpr h;rw[←hz,Nd,M8] at this;omega
 have lz:zs.length<=63:=by rw[←hz,Nd,M8];omega
 rw[hz];refine⟨_,_,rfl,oJ oF,?_⟩;refine pf (lk:=none) (xs:=zs.zipIdx) (g:=λq=>.d (.tup [.int q.2,.int q.1])) (λdone ν N=>∃cs x y,(cs:List Int).length=(ns.take 12).length/\ν=[some (.d (.lst (ns.map .int))),some (.ref p),x,y]/\N=(p2,intsO zs)::(p,intsO cs)::(p1,intsO (ns.take 12))::M) (oU ⟨rfl,λ_ _ _ ⟨_,_,_,_,_,h⟩=>by rw[h];exact F0 oF,_,_,_,rfl,rfl,rfl⟩) (by rw[Qu];omega) ?_ ?_
 ·rintro done ⟨z,k⟩ ad _ _ e ⟨cs,x,y,hc,rfl,rfl⟩;have nz:zs≠[]:=λz=>by rw[z] at e;exact absurd (congrArg length e) (by simp)
  have m0:0<=(k:Int) % 12:=Rt _ (by decide);have m1:(k:Int) % 12 < cs.length:=by rw[hc,ny nz];exact Qs _ (by decide)
  obtain⟨v,hv⟩:=wx m0 m1
  exists ⟨_,rb (x:=.d (.int k)) (y:=.d (.int z)) rfl ‹p› ‹p›,?_⟩
  exists oT (oC oF) hv ?_
  have ix:ixN ((cs.map D.int).map E.d).length ((k:Int) % 12)=some ((k:Int) % 12).toNat:=by
   unfold ixN;rw[if_pos m0,if_pos (by rw[c_,c_];exact m1)]
  exists ud (oC oF) ix (.tl .hd) ?_
  exact⟨cs.set ((k:Int) % 12).toNat (v+z),_,_,by rw[OT];exact hc,rfl,by show _=_::(p,Ob.lst (((cs.set ((k:Int) % 12).toNat (v+z)).map D.int).map E.d))::_;rw[List.map_set,List.map_set]⟩
 ·rintro _ _ ⟨cs,x,y,hc,rfl,rfl⟩
  exists pc ?_
  exact⟨_,Le.hd (Le.tl (Le.hd (Le.tl (.refl _)))),q _ p cs⟩
end
def Im{t hs ln many f:Nat}{how:Str}{l:List HA}{P:List Wi}{e:Nat->Nat}(po:Po P f)(m8:many<=8)(eM:∀k,k < 2->e k < many)(ne:e 0≠e 1)(n o t' l' h:Nat)(O T L H:Nat->Nat):Gs ⟨n,o,t',l',h,O,T,L,H,λ_=>[],λ_=>[],λ_=>[],λ_=>[]⟩ (town0 t hs ln gf many f how l) e P f how 0 []:=by
 have nil:∀{α:Type}{p:α->Prop},∀x∈([]:List α),p x:=λx h=>by cases h
 exact⟨⟨po,m8,N8,N8,N8,λ_=>nil,λ_=>Mu _,nil,nil,nil,nil,nil⟩,rfl,rfl,eM,ne,s_ _,λ_=>nil,λ_=>s_ _,λ_ _=>rfl,λ_=>s_ _,λ_ _=>s_ _,.inl rfl,λ_ _ _=>⟨rfl,rfl,rfl⟩,rfl,rfl,rfl,nil⟩
def Gr{x y z u e:E}{i k l:Nat}{bB cv:Nms}(hu:unT e=some [x,y,z,u])(h1:Sets x i ν aw)(h2:Sets y j aw aq)(h3:Sets z k aq bB)(h4:Sets u l bB cv):tgt 4 (tgc (tgn i) (tgc (tgn j) (tgc (tgn k) (tgc (tgn l) tg0)))) e ν=some cv:=by
 unfold tgt tgc;rw[hu];dsimp only[length];rw[if_pos rfl,pi h1];dsimp only[tgc];rw[pi h2];dsimp only[tgc];rw[pi h3];dsimp only[tgc];rw[pi h4];rfl
inductive L9(ns:List Int)(np nc:Nat)(cs:List Int)(ν:Nms)(N:Mp):Prop | mk (a c:Int) (x2 x3 x4 x5 x6 x7 x8:Option E):0<=a->ν=[some (.d (.lst (ns.map .int))),some (.ref np),x2,x3,x4,x5,x6,x7,x8]->N=[(np,potO nc a c),(nc,intsO cs)]->L9 ns np nc cs ν N
def Ee(hl:ns.length<=63):wF (wJ [.d (.lst (ns.map .int))]) [] λe _=>e=.d (.bl true):=by
 walk_at "d"
 exists HQ hl λnp nc cs=>?_
 refine pf (lk:=none) (xs:=[0,1]) (g:=λk:Nat=>.d (.int k)) (λ_=>L9 ns np nc cs) (qF ?_) (by decide) ?_ ?_
 ·tm_at"c"
  exact⟨by decide,rfl,λ_ _ _ _=>qv,0,0,_,_,_,_,_,_,_,PM _,rfl,rfl⟩
 ·rintro done k ad _ _ ek ⟨a,c,x2,x3,x4,x5,x6,x7,x8,ha,rfl,rfl⟩
  exists ⟨_,pi ‹p›,wS.le ?_⟩
  refine FA oF ha λhow many f ws n a c ha hh hm hf w0 wl wo=>?_
  have po:Po ws f:=⟨⋯,hf,wo⟩
  exists ⟨_,Gr rfl ‹p› ‹p› ‹p› ‹p›,?_⟩
  obtain⟨m,em⟩:∃m:Nat,max 2 many=m:=⟨(max 2 many).toNat,⋯⟩;rw[em]
  exists qu (oC oF) (oC (oC oF)) ha ⋯ (λ_=>.tl .hd) λone a c ha o0 o1=>?_
  refine qu (oC oF) (oC (oC oF)) ha ⋯ (λ_=>.tl .hd) λtw a c ha t0 t1=>?_
  obtain⟨o,rfl⟩:=NB o0
  have v0:0<=((o:Int)+1+tw) % m/\((o:Int)+1+tw) % m < m/\((o:Int)+1+tw) % m≠o:=by
   by_cases h:(o:Int)+1+tw < m
   ·rw[SX ⋯ h];omega
   ·rw[show(o:Int)+1+tw=(o+1+tw - m)+m by omega,Int.add_emod_right,SX ⋯ ⋯];omega
  obtain⟨v,hv⟩:=NB v0.1
  tm_at"c"
  rename_i en;rw[hv] at v0 ⊢
  exists w_mk ?_
  rename_i t;refine Dr (many:=m) (fields:=f) (how:=how) ⋯ λhs ln gf l lm=>?_
  exists ⟨rfl,?_⟩
  refine wF.pre (N:=(town0 t hs ln gf m f how l).m3 [] [] [] ((np,potO nc a c)::[(en,enO (two o v)),(n,wsO ws),(nc,intsO cs)])) ?_ ?_
  ·rw[pC,pC (R:=_::_)];exact Le.perm (Ow _ (((swap ..).cons _).trans (swap ..)))
  refine IS (T:=town0 t hs ln gf m f how l) (e:=two o v) (.tail _ (.tail _ (.head _))) (.head _) (.tail _ (.head _)) ha w0 (Im po ⋯ (λk hk=>?_) ?_) rfl λa c ha=>?_
  ·obtain rfl | rfl:k=0\/k=1:=by omega
   ·show o < m;omega
   ·show v < m;omega
  ·show o≠v;omega
  tm_at"c"
  exact⟨_,Le.hd (Le.tl (Le.tl (.refl _))),qy ⟨a,c,_,_,_,_,_,_,_,ha,rfl,rfl⟩⟩
 ·rintro _ _ ⟨a,c,x2,x3,x4,x5,x6,x7,x8,ha,rfl,rfl⟩
  exists pc ?_
  exact⟨_,.refl _,rfl⟩
def law_true(ns:List Int)(h:ns.length<=63):∃S,wJ [.d (.lst (ns.map .int))] []=some (.d (.bl true),S):=by
 obtain⟨e,S,M,e1,_,rfl⟩:=Ee h [] ⟨N8,λc h=>by cases h⟩;exact⟨S,e1⟩
noncomputable abbrev top(i:Nat):Nr:=PySem.Challenge.pw_roofpost_k40_one_road.main.body.getD i (.Pass ⟨0,0,0,0⟩)
def mth(i j:Nat):Nr:=match top i with
 | .ClassDef _ _ _ b _ _ _ _ _ _ _=>b.getD j (.Pass ⟨0,0,0,0⟩)
 | s=>s
def ents:List En:=[.f "_law_pot" (top 36) xx,
 .f "_law_blend" (top 35) wj,
 .f "_law_pick" (top 37) oQ,
 .f "_law_wish" (top 39) tD,
 .f "_law_both" (top 40) xk,
 .f "_law_part" (top 41) se,
 .f "_law_pool" (top 42) sK,
 .f "_law_triple" (top 43) uI,
 .f "_law_sizes" (top 44) wI,
 .f "_law_has" (top 45) uL,
 .f "_law_covers" (top 47) vY,
 .f "_law_roof" (top 48) vF,
 .f "_law_letters" (top 46) vq,
 .f "_law_all_had" (top 49) wN,
 .f "_law_short" (top 50) wg,
 .f "_law_tell" (top 52) rA,
 .m "House" "turn" "House.turn" (mth 31 3) qj,
 .f "must_be_kin" (top 10) rD,
 .f "covers" (top 12) uD,
 .f "is_under_another" (top 15) xo,
 .f "roof_of" (top 14) uo,
 .f "first_border" (top 19) wB,
 .f "halves_of" (top 20) xq,
 .f "in_common" (top 13) vP,
 .r "looked_through" (top 18) 40 rC,
 .f "covered" (top 17) vW,
 .f "spare_of" (top 21) wm,
 .f "short_of" (top 29) vV,
 .m "House" "due_to" "House.due_to" (mth 31 6) vB,
 .m "House" "tell" "House.tell" (mth 31 5) uv,
 .m "House" "tell_all" "House.tell_all" (mth 31 4) uf,
 .m "House" "done_by" "House.done_by" (mth 31 2) vU,
 .m "House" "do" "House.do" (mth 31 1) qT,
 .m "Town" "put" "Town.put" (mth 33 19) tz,
 .m "Town" "do" "Town.do" (mth 33 18) qZ,
 .f "must_be_house" (top 23) qK,
 .f "neighbours_of" (top 25) ux,
 .r "way_on" (top 27) 21 rH,
 .f "way_between" (top 26) vL,
 .m "Town" "roads" "Town.roads" (mth 33 8) qY,
 .m "Town" "join" "Town.join" (mth 33 1) vO,
 .r "_law_same" (top 38) 8 pG,
 .f "_law_told_right" (top 51) r9,
 .m "Town" "waiting" "Town.waiting" (mth 33 12) wP,
 .f "must_be_road" (top 24) rU,
 .m "Town" "under_way" "Town.under_way" (mth 33 11) tY,
 .m "Town" "heard" "Town.heard" (mth 33 10) uJ,
 .f "_law_seen" (top 54) wt,
 .m "Town" "must_fit" "Town.must_fit" (mth 33 16) v9,
 .m "Town" "wish" "Town.wish" (mth 33 5) vD,
 .m "Town" "step" "Town.step" (mth 33 7) xB,
 .f "_law_came" (top 53) tR,
 .f "_law_goes" (top 55) wa,
 .c "House" "House.__init__" (mth 31 0) uS,
 .c "Town" "Town.__init__" (mth 33 0) vG]
noncomputable abbrev cs:List Str:=["House", "Town"]
noncomputable abbrev fl:List Str:=["fields", "gifts", "had", "hears", "houses", "how", "lanes", "letters_told", "own", "rows", "said", "wished", "wishes_told"]
def tab:TbOk cs ⟨[],[],[],λl=>l == 201,fl⟩ ents:=by
 repeat first | exact .nil | refine .f (by kernel_rfl) (λ_ _ _ _ _ _ _ _ _=>by kernel_rfl) (by kernel_rfl) ?_ | refine .m (by kernel_rfl) (by kernel_rfl) (λ_ _ _ _ _ _ _ _ _=>by kernel_rfl) (by kernel_rfl) ?_ | refine .r (by kernel_rfl) (λ_ _ _ _ _ _ _ _ _=>by kernel_rfl) rfl (λ_=>by kernel_rfl) ?_ | refine .c (by kernel_rfl) (by kernel_rfl) (λ_ _ _ _ _ _ _ _ _=>by kernel_rfl) (by kernel_rfl) ?_
def walk{l:PySem.W.OpenLaw}{q:E_}{XP:(Str->Option b_)->Mr->Prop}{YP:Mo->Mr->Prop}{d:DefRec}{K:Params->FAa}(hn:l.most=some 63)(eO:d.params.defaults=[])(hx:d.name=("law":Str))(hY:∀(w:Mo) (h:Mr),YP w h->(K w.params).In h)(F:∀w:Mo,cs.all (clT (K w.params) fl)=true/\blT (K w.params)=true/\KsOk (K w.params) ents/\fnT (K w.params) "law"=true/\sgT (K w.params) (fnAt (K w.params) "law") (top 56)):
  PySem.W.WalkO q bE XP YP l.row.toRowW d [] (λf vs=>PySem.call f vs):=
 IE (n:=63) (k:=124) (x:= "script") (CX:=λ_=>CX0) (sp:=λw=>spE (K w.params) (caOf (K w.params) cs fl) 1 wJ) hn (by decide) eO ⟨rfl,by decide,by decide,rfl⟩ hY (λw mg fa h X G iO=>all_mk tab (by kernel_rfl) (λ_ _ _ _ _ _ _ _ _=>by kernel_rfl) (by kernel_rfl) (by kernel_rfl) X G (hx▸iO) (F w).1 (F w).2.1 (F w).2.2.1 (F w).2.2.2.1 (F w).2.2.2.2) (λ_ H a ns hl _ hS=>E8 hS (law_true ns hl)) λ_ _ _ _ _ z=>z
end Own
open PySem PySem.W PyProof.Rows
set_option maxRecDepth 100000 in
set_option maxHeartbeats 0 in
theorem PySem.Challenge.cw_roofpost_k40_one_road_holds : PySem.Challenge.rw_roofpost_k40_one_road.Holds := by
 w_on;(refine holds_law wQ0 λnG=>?_);k_head;(case hw=>w_witness2)
 k_fill
 refine Own.walk (l:=QK) rfl rfl rfl (λw h Y=>PySem.W.kIn_of Y) λw=>⟨?_,?_,?_,?_,?_⟩
 case refine_3=>repeat first | exact .nil | refine .f (by kernel_rfl) (by kernel_rfl) ?_ | refine .m (by kernel_rfl) (by kernel_rfl) ?_ | refine .r (by kernel_rfl) (by kernel_rfl) ?_ | refine .c (by kernel_rfl) (by kernel_rfl) (by kernel_rfl) ?_
 all_goals kernel_rfl
