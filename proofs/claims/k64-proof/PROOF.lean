import PyProof.Rows.All
import Wide.All
import OpenK.AllK
import Wide.FinOn
import Lean
import PyProof.EqAt
import PyProof.EqKinds
import PyProof.TupleCall
import KE.KNest
import PyProof.NeKinds
import PyProof.IsiSeqPairs
import PyProof.IsiNone
import KE.KSortTup
import KE.KRevSl
import PyProof.Rows.SortRuns
import KE.KLam
import PyProof.Conv_int_bool
import PySem.Challenge.RW_roofpost_k64_few_stretches_looked_at
set_option Elab.async false
set_option linter.all false
open Array (toList)
open Array.Perm (trans)
open List (filter forIn_nil length map map_nil tail_cons take_nil take_zero)
open List.Pairwise (of_map)
open List.Perm (append_right swap)
open Option (getD_none map_some)
open PyProof.Rows.SortSt (mk')
open PySem.Builtin.Frozenset (newClass slot0 updateFrom)
open PySem.Builtin.List (listLengthHint listTouch)
open PySem.Builtin.Range (rangeSize)
open PySem.Builtin.Slice (sliceApplied)
open PySem.Builtin.SmallTypes (stopIteration)
open PySem.Data (fields seq)
open PySem.Obj (putSet)
open PySem.Paired (snoc)
open PySem.PyData (depth depthAll shownAll)
open PySem.SeqAt (ne_of_list_tuple)
open PySem.Str (join)
open PySem.Value (type)
open PySem.W (codeIn kla_fn methodObj noTabs nsIn)
open PySem.Walks (dictKeys)
set_option maxRecDepth 100000
open PySem renaming wpAny_bind→a_,Value→b_,Shared→d_,wpAny_pure→e_,starEach→f_,Addr→i_,model→m_,sizeLine→v_,wpAny→z_,Program→B_,World→J_,wpAny_holding→LX,Heap→L4,Expr→L8,wpAny_newObj_type→Ma,plainId_quiet→Mb,wpAny_updateSeq→Mg,wpAny_callSpecial?_slot→Mk,eval→Mm,wpAny_call_entry→Mn,codeAny_builtin→Mo,backTo→Mp,sizeLine_eq→Mq,wpAny_truthy_bool→Mx,mainGlobals→My,wpAny_mono→Mz,wpAny_seqItems→MB,wpAny_letGo→MG,NameKind→MP,compareOp→MS,wpAny_field→MU,wpAny_of_eq→MV,SetTable→MW,wpAny_rule→MZ,wpAny_Call_Name_kw→M6,wpAny_tryCatch→Nb,Stmt→Nc,foldedSetIterable→Nd,Around→Ni,rawInt→Nj,Builtin→Nk,behindInMarks→Nm,wpAny_attempt→No,assignEach→Nr,codeAny→Nw,pyNext→Nx,bindArgs→NB,sysModules→NI,IsPair→NJ,swapsWith→NO,binaryOp→NP,cLine→NQ,bootBuiltins→NZ,wpAny_setField_rec→N1,builtinLookup_eq_fast→N7,wpAny_pyIter_list→N8,wpAny_setState_of→N9,codeAny_mono→Oc,wpAny_isInstance→Od,updateSeq→Oi,wpAny_newList→Os,wpAny_passesOwn→Ov,sliceBounds→OB,Scope→OG,holding→OI,wpAny_setField→OL,wpAny_newTuple→ON,builtinsNs→OT,hashInt→OZ,letOwnedTupleGo→Pi,typeLookup_type→Po,wpAny_setEntries_of→Pq,codeAmong→PD,seqItems?→PJ,assign→PM,FuncData→PP,isSubtype_stop→PV,slot_list_getitem→P7,wpAny_pyIter_dict→Qc,wpAny_getItem_list_slice→Qh,wpAny_comprehension_free→Qj,noFill_tuple_add→Qn,wpAny_pyIter_zip→Qu,pickOrder→Qw,wpAny_askSetting→Qx,checkBuiltinCall→Qy,intKind→QM,wpAny_typeOf→QP,closureFor→QX,wpAny_execs_nil→Rb,IsZip→Re,wpAny_specialOf→Rg,wpAny_isTrue_Compare1→Rh,recursionLimit→Ro,wpAny_newFunctionEnv→Ru,firstArgMember→Rv,wpAny_updateSeq_pair→Rw,richCompare→Rx,codeAny_call_builtin→RF,tupleKind→RI,TriplesOk→RJ,callerA→RL,wpAny_standAt→RX,swapsWithSole→RY,swappedStores→RZ,seq_tuple_add→R0,evalPart_none→R4,attributeBase→R6,strLen_append→R7,pyIter→R9,wpAny_call→R',IsPart→R_,tupleKind_room_in1→Sb,wpAny_pyIter_tuple→Sc,argsOk→Se,wpAny_assign_Name→Sl,again→Sm,rule→Sn,BindsTo→So,concat_meets→Sq,Keyword→Sr,valueAt→Ss,wpAny_pyIter_enum→Sx,wpAny_pyIter_slot→SG,wpAny_storeSet_of→SM,Result→SO,Walks→SU,seqIndex_of→SW,keywordEach→SX,unsupported→S3,getItem→S6,collect→S8,isTrue→S',wpAny_Name→S_,bindL→Td,bindC→Te,typeLookup→Tg,atKey→Tj,ZipApart→Tk,checkCount→Tq,entryFor→Tv,defaultsOf→Tz,piled→TF,standAt→TH,setItem→TK,setNext→TQ
open PySem.Heap renaming get?_push_of_some→c_,get?_push_size→s_,get?_update_other→C_,lt_size→F_,get?_update_self→L3,size_push→M8,size_update→RA
open List renaming mem_cons_self→g_,getElem?_eq_getElem→h_,mem_cons_of_mem→j_,size_toArray→l_,mem_cons→n_,getD_eq_getElem?_getD→p_,mem_singleton→q_,length_map→x_,getElem?_eq_some_iff→D_,getElem?_map→E_,pairwise_cons→I_,map_cons→K_,drop_eq_getElem_cons→LV,length_append→LY,length_take→L5,take_of_length_le→L6,length_replicate→L7,mem_append→Mc,length_cons→Md,mem_of_getElem?→Mf,mem_of_mem_take→Mh,exists_cons_of_length_eq_add_one→Mu,mem_append_right→Mv,replicate→Mw,length_reverse→MC,mem_of_mem_drop→MD,length_drop→ME,getElem_mem→MF,take_append_drop→MM,getElem?_append_right→MO,append_assoc→MR,getElem?_append_left→MT,drop_eq_nil_of_le→M0,not_mem_nil→M2,getElem?_eq_none→M3,append_nil→M5,length_eq_zero_iff→M7,all_eq_true→Na,mem_map→Nf,getElem?_set_ne→Ng,Pairwise→Nn,perm_append_comm→Np,range→Nq,foldl_cons→Nu,drop_of_length_le→ND,pairwise_iff_getElem→NF,take_add_one→NG,map_map→NH,getElem?_replicate→NR,getElem?_cons_succ→NS,filter_eq_self→NX,drop_append_of_le_length→NY,getElem?_set_self→N0,map_append→Oa,mem_range→Ob,take_take→Oj,extract_eq_take_drop→Ol,getElem?_drop→Op,nodup_cons→Ox,length_set→Oy,drop_length→OC,pairwise_singleton→OD,take_length→OE,drop_succ_cons→OJ,range_succ_eq_map→OK,zip_cons_cons→O0,any_cons→O3,getElem_map→O6,getElem_toArray→O9,take_eq_nil_iff→Pc,filter_cons→Pe,map_drop→Pf,sum_cons→Pg,mem_append_left→Ph,mem_iff_getElem→Pj,pairwise_append→Pp,flatMap_append→Pr,map_congr_left→Ps,length_pos_iff→Pt,reverse_cons→Pu,length_range→Pv,foldl_append→PB,drop_drop→PF,drop_take→PH,filterMap_cons→PK,mem_filterMap→PN,find?_cons→PR,map_eq_nil_iff→P0,getElem?_zip_eq_some→P3,take_sublist→P6,ext_getElem→P_,getElem_take→Qb,map_reverse→Qd,getLast_cons→Qe,nodup_append→Qg,getElem_range→Qi,length_erase_of_mem→Qm,drop_zero→Qq,lookup_cons→Qr,zipIdx_cons→Qt,pairwise_mergeSort→Qv,drop_append→QC,cons_append→QE,map_take→QH,forIn_cons→QW,nil_append→QY,pairwise_map→Q5,pairwise_lt_range→Q6,getElem_drop→Q7,flatMap_cons→Q9,filter_eq_nil_iff→Q_,length_singleton→Ri,getElem?_reverse→Rk,drop_eq_nil_iff→Ry,take_append→RE,drop_one→RH,take_succ_cons→RP,mergeSort_perm→RR,getElem_of_mem→RS,getD_cons_succ→RW,append_of_mem→Sg,getElem?_take→Si,all_cons→Sv,drop_sublist→SJ,reverse_perm→SN,set_set→S7,mem_filter→S9,of_mem_zip→Tf,length_zip→Tl,Nodup→Tt
open PyProof.Rows renaming wpS_bind→k_,Keyed→o_,arrOf→r_,pendingOf→t_,wpS_pure→u_,SortSt→G_,callWith_type1→LZ,seqObj→Ml,wpS_forRange→MA,wpS_mono→MJ,oneType'→M1,IntsAre→M9,get?_update_seq→Ny,listUpdate_at→NK,slot_tuple_getitem→NL,wpS_modify→N2,elem'→Ot,K→OP,callWith_builtin1→OU,reverseSlice'→O2,failedOf→O4,seqEpoch_at→O5,entry_list_sort→Pk,slot_list_sort→Pw,wpS_get→Py,envOfC→PQ,gallopOf→PY,AllBare→P5,wpS_lift→QA,subscriptTail_builtinR→QQ,listItems_at→Q0,mirror→Q8,pairsOf→RO,getElem?_mirror_all→RQ,subscriptTail→R5,Keyed→R8,setPending→Sh,plain_sorted→Sz,entry_sorted→SA,mergeAt'→SK,sortRuns'→SR,kind_sorted→SZ,boot_sorted→S0,Call_→Tb,boot_range→Tc,Subscript_→Ti,keyKind'→Tp,setArr→Tx,IsTup→TC
open Array renaming getElem?_eq_getElem→w_,length_toList→LS,getElem?_toList→Mi,getElem?_eq_some_iff→Mj,perm_iff_toList_perm→Ms,toList_append→MQ,getD_eq_getD_getElem?→M4,getElem?_extract→Of,getElem?_eq_none→Og,mem_iff_getElem?→Oh,mem_of_getElem?→OS,toArray_toList→O8,toList_push→O',toList_extract→O_,toList_reverse→Pa,size_push→Pn,size_extract→Px,toList_setIfInBounds→PZ,getElem_mem→P9,getElem_toList→Rz,getElem_of_mem→RB,getElem?_push→RU,forIn_toList→Sj,ext→SS,getD→TV
open Bool renaming false_ne_true→y_,false_eq_true→MX,and_eq_true→M',not_eq_true'→NE,not_eq_false'→Ql,not_eq_true→QI,eq_false_iff→Ra,false_and→Rm
open Nat renaming le_refl→A_,lt_of_lt_of_le→H_,ne_of_lt→LW,zero_le→Me,le_add_right→Mr,min_eq_left→MN,le_trans→MY,lt_irrefl→NN,add_sub_cancel_left→NU,zero_add→N3,lt_or_ge→N4,lt_succ_of_lt→N5,ne_of_gt→Om,add_sub_of_le→Ou,lt_of_le_of_lt→Oz,le_of_lt→OH,succ_ne_self→OW,lt_succ_self→OX,min_eq_right→Pz,le_of_not_lt→Qp,succ_ne_zero→QG,lt_of_succ_lt_succ→QV,le_of_ble_eq_true→Rl,lt_trans→Rt,not_lt_zero→RC,le_succ→RM,eq_zero_or_pos→Sf,le_of_eq→Sw,lt_trichotomy→SC,sub_self→SE,le_of_lt_succ→SF,succ_pos→Ts,le_total→TB,mod_lt→TN,not_lt→TR
open Ne renaming symm→LU
open Option.some renaming inj→L0
open Int renaming le_refl→L9,emod_lt_of_pos→N_,toNat_natCast→Oq,emod_nonneg→O7,le_of_lt→QZ,sub_add_cancel→Sk
open Sum renaming inl→L_,inr→QJ
open PySem.SetTable renaming insertAt→MH,runEnd→N6,below→OR,bits→RT,leap→S5,turns→TY
open PySem.F renaming plain_max_loop→MK,slot_zip_next→Nh,plain_extend_loop→NM,plain_min_loop→NW,called_set→OA,args_zip_next_1→OO,entry_zip_next→OV,entry_max_loop→OY,slot_tuple_iterator_next→PU,args_tuple_add_2→Qo,entry_tuple_add→Rc,slot_enumerate_next→Rj,slot_tuple_add→Rq,entry_extend_loop→RV,plain_list_iadd→SH
open PySem.Around renaming under_plainId→ML
open PySem.Obj renaming mapSeq→M_,data_mapFields→OM,isFreed_of_fields→OQ,cls_mapFields→P8
open PySem.PyData renaming shown→Nl,showable→Qz,hasDict→RN,showableAll→S4,hasDictAll→Tw
open PySem.Calls renaming spliced_cons→Nt,spliced_nil→NA,Name_function_global→PL,call_function_entry→P4
open PySem.W renaming mg_none_of→Nv,tabIn→OF,keepIn→QN,fnOf→Rp,kas_rev→Sy,kas_sort→Tn,kat_lt_int→Tr,OpenLaw→TL,WShape→TM,Looks→TX
open Option renaming map_eq_some_iff→Nz,isSome_iff_exists→Oo,isSome_map→Su
open PySem.Str renaming ofString→NC
open PyProof.Rows.F renaming plain_set_update_loop→NV,entry_set_update_loop→QF
open Nat.succ renaming inj→Oe
open ForInStep renaming yield→Ow
open PySem.SetTable.layClean renaming free→O1
open Classical renaming byContradiction→Pl
open List.Perm renaming refl→PX,append_left→Qa
open PySem.AutoSeq1 renaming wpAny_loadPart'→Qk
open PySem.Builtin.SmallTypes renaming ownedTupleIsFree→Qs,nextOf→Sd
open True renaming intro→QT
open Array.Perm renaming refl→Rf
open PySem.Builtin.Slice renaming slicePlaces→Rr,sliceAdjust→SV
open PySem.Builtin.List renaming listExtendWith→RD,listTooLong→SY,listSameRef→S1
open PySem.PassesOwn renaming never→RG
open PySem.Data renaming cell→RK
open PySem.Builtin.Tuple renaming tupleExact→Sa
open PySem.SeqAt renaming RcNeAt→SQ,EqAt→TU
open List.Pairwise renaming imp_of_mem→Tu
open False renaming elim→TJ
local macro_rules|`(tactic|omega)=>`(tactic|first|with_reducible decide|with_reducible assumption|with_reducible (refine Nat.le_trans (m:=?x) ?p ?q;(case p=>assumption);(case q=>decide))|with_reducible (refine Int.le_trans (b:=?x) ?p ?q;(case p=>assumption);(case q=>decide))|with_reducible (refine Int.lt_of_lt_of_le (b:=?x) ?p ?q;(case p=>assumption);(case q=>decide))|with_reducible (refine Nat.lt_of_le_of_lt (m:=?x) ?p ?q;(case p=>assumption);(case q=>decide))|lia|omega (config:={}))
noncomputable section
variable{us vs af its' gw:List PySem.Value}{h base h':PySem.Heap}{g':Array PySem.GenState}{t' j n tk m x1 ep kn e1 ia ib ac bc na nb at_ L ar:Nat}{d':PySem.Drawn}{ch fp:List PySem.Addr}{e tg iter ie:PySem.Expr}{fY aa:List (PySem.Addr×PySem.Obj)}{N ps cC:List PySem.Str}{A:PySem.Around}{s' s2 aw:PySem.Shared}{pos aA p1 bM aS p2 py dZ tp p' br:PySem.Pos}{op:PySem.CmpOp}{y qual q:PySem.Str}{f T aE l1 l2 fa S kS P':PySem.Addr}{hi:Option Int}{mg:PySem.Str->Option PySem.Value}{fd:PySem.FuncData}{scope:PySem.Scope}{cd pm ct oc vl vu cv:PySem.Value}{params:PySem.Arguments}{an od:Option PySem.Addr}{c7:Array (Option PySem.Value)}{items cells am:Array PySem.Value}{l ns hs ms kz cs:List Int}{args:List PySem.W.WData}{iy bq bD aB:List PySem.Expr}{c' many:Int}{env:PySem.Env}{C:Int->Int->Bool}{neg left:Bool}{aR:Array R8}{la lb L':List R8}{kw:List (PySem.Str×PySem.Value)}{eE:List (PySem.Str×PySem.Addr)}{ss:List (Int×Int)}
namespace L2
open PySem PySem.Spec PyProof.Rows
abbrev Key:=Sum Int Str
noncomputable def keyIs:Key->b_->Bool
 | .inl k,v=>b_.isInt k v
 | .inr x,v=>b_.isStrOf x v
noncomputable def keyH(w:J_):Key->Int
 | .inl k=>OZ k
 | .inr x=>hashStr w x
theorem rW:∀{k:Key}{v:b_},keyIs k v=true->(∃i t,k=L_ i/\v=b_.int i t)\/(∃x t,k=QJ x/\v=b_.str x t)
 | .inl i,v,h=>by
  obtain⟨t,e⟩:=b_.isInt_shape (k:=i) (v:=v) h;exact .inl ⟨i,t,rfl,e⟩
 | .inr x,v,h=>by
  obtain⟨t,e⟩:=b_.isStrOf_shape (x:=x) (v:=v) h;exact .inr ⟨x,t,rfl,e⟩
theorem Kf(i:Int)(t:Tok):keyIs (.inl i) (.int i t)=true:=by simp[keyIs,b_.isInt]
theorem IT(x:Str)(t:Tok):keyIs (.inr x) (.str x t)=true:=by simp[keyIs,b_.isStrOf]
theorem IA(a b:Int):decide ((L_ a:Key)=L_ b)=(a == b):=by
 by_cases e:a=b
 ·subst e;simp
 ·have h:¬(L_ a:Key)=L_ b:=λq=>e (L_.inj q)
  rw[decide_eq_false h];exact(beq_eq_false_iff_ne.mpr e).symm
theorem DM(a b:Str):decide ((QJ a:Key)=QJ b)=decide (a=b):=by
 by_cases e:a=b
 ·subst e;simp
 ·have h:¬(QJ a:Key)=QJ b:=λq=>e (QJ.inj q)
  rw[decide_eq_false h,decide_eq_false e]
theorem Je(a:Int)(b:Str):decide ((L_ a:Key)=QJ b)=false:=decide_eq_false (λq=>nomatch q)
theorem Cs(a:Str)(b:Int):decide ((QJ a:Key)=L_ b)=false:=decide_eq_false (λq=>nomatch q)
noncomputable def mixKind(prog:B_)(w:J_):PySem.KeyKind prog w Key where
 is:=keyIs
 hash:=keyH w
 inj:=λv a b ha hb=>by
  rcases rW ha with⟨i,t,rfl,rfl⟩ | ⟨x,t,rfl,rfl⟩
  ·rcases rW hb with⟨j,u,rfl,e⟩ | ⟨y,u,rfl,e⟩
   ·injection e with e1 _;rw[e1]
   ·exact nomatch e
  ·rcases rW hb with⟨j,u,rfl,e⟩ | ⟨y,u,rfl,e⟩
   ·exact nomatch e
   ·injection e with e1 _;rw[e1]
 byValue:=λk v h=>by
  rcases rW h with⟨i,t,rfl,rfl⟩ | ⟨x,t,rfl,rfl⟩<;>rfl
 pyHash:=λhv h=>by
  rcases rW hv with⟨i,t,rfl,rfl⟩ | ⟨x,t,rfl,rfl⟩
  ·exact wpAny_pyHash_int h
  ·exact wpAny_pyHash_str h
 eqBool:=λhu hv h=>by
  rcases rW hu with⟨i,t,rfl,rfl⟩ | ⟨x,t,rfl,rfl⟩
  ·rcases rW hv with⟨j,u,rfl,rfl⟩ | ⟨y,u,rfl,rfl⟩
   ·rw[IA] at h;exact wpAny_eqBool_int h
   ·rw[Je] at h;exact SeqAt.EqAt.int_str i t y u _ _ _ _ h
  ·rcases rW hv with⟨j,u,rfl,rfl⟩ | ⟨y,u,rfl,rfl⟩
   ·rw[Cs] at h;exact SeqAt.EqAt.str_int x t j u _ _ _ _ h
   ·rw[DM] at h;exact wpAny_eqBool_str h
 «strs»:=λk x t v h=>by
  rcases rW h with⟨i,u,rfl,e⟩ | ⟨y,u,rfl,e⟩
  ·exact nomatch e
  ·injection e with e1 _
   subst e1;cases v<;>rfl
theorem Gk(prog:B_)(w:J_)(i:Int)(t:Tok):(mixKind prog w).is (.inl i) (.int i t)=true:=Kf i t
theorem DK(prog:B_)(w:J_)(x:Str)(t:Tok):(mixKind prog w).is (.inr x) (.str x t)=true:=IT x t
inductive V where
 | non | bl (b:Bool) | int (i:Int) | str (x:Str) | byt (b:Array UInt8) | flt (b:UInt64) | ref (a:i_) | ty (n:String)
 deriving DecidableEq
def RelV:V->b_->Prop
 | .non,u=>u=b_.none
 | .bl b,u=>u=b_.bool b
 | .int i,u=>∃t,u=b_.int i t
 | .str x,u=>∃t,u=b_.str x t
 | .byt b,u=>∃t,u=b_.bytes b t
 | .flt b,u=>∃t,u=b_.float b t
 | .ref a,u=>u=b_.ref a
 | .ty n,u=>u=type n
abbrev Vals:List V->List b_->Prop:=Paired RelV
theorem Vals.length{xs:List V}(r:Vals xs us):xs.length=us.length:=Paired.length r
theorem Vals.get:∀{xs:List V}{us:List b_}{i:Nat}{x:V},Vals xs us->xs[i]?=some x->∃u,us[i]?=some u/\RelV x u
 | _,_,_,_,.nil,e=>by simp at e
 | _,_,0,_,.cons r _,e=>by simp at e;subst e;exact⟨_,rfl,r⟩
 | _,_,i+1,x,.cons _ t,e=>by
  obtain⟨u,h1,h2⟩:=Vals.get (i:=i) (x:=x) t (by simpa using e);exact⟨u,by simpa using h1,h2⟩
theorem Vals.set{x:V}{u:b_}(r:RelV x u):∀{xs:List V}{us:List b_} (i:Nat),Vals xs us->Vals (xs.set i x) (us.set i u)
 | _,_,_,.nil=>.nil
 | _,_,0,.cons _ t=>.cons r t
 | _,_,i+1,.cons q t=>.cons q (Vals.set r i t)
theorem Vals.append:∀{xs ys:List V}{us ws:List b_},Vals xs us->Vals ys ws->Vals (xs++ys) (us++ws)
 | _,_,_,_,.nil,s=>s
 | _,_,_,_,.cons r t,s=>.cons r (Vals.append t s)
theorem Vals.take:∀{xs:List V}{us:List b_} (n:Nat),Vals xs us->Vals (xs.take n) (us.take n)
 | _,_,0,_=>.nil
 | _,_,_+1,.nil=>.nil
 | _,_,n+1,.cons r t=>.cons r (Vals.take n t)
theorem Vals.drop:∀{xs:List V}{us:List b_} (n:Nat),Vals xs us->Vals (xs.drop n) (us.drop n)
 | _,_,0,r=>r
 | _,_,_+1,.nil=>.nil
 | _,_,n+1,.cons _ t=>Vals.drop n t
def RelO:Option V->Option b_->Prop
 | some v,some u=>RelV v u
 | none,none=>True
 | _,_=>False
def KV{κ:Type}:List (κ×V)->List (κ×b_)->Prop:=Paired λ(p:κ×V) (q:κ×b_)=>p.1=q.1/\RelV p.2 q.2
noncomputable def kV:Key->V
 | .inl i=>.int i
 | .inr x=>.str x
inductive HO where
 | lst (xs:List V)
 | tup (xs:List V)
 | dK (aj:List (Key×V)) | dT (aj:List (List Key×V))
 | set (S:Int->Bool) (n:Nat)
 | ins (C dx:i_) (fs:List (Str×V))
 | own (x:i_)
 | xd (fs:List (Str×V))
 | met (f x:i_)
 | rng (lo hi:Int)
 | frz (o:Obj) (u:HO)
 | tbl (q:Str)
 | ext (φ:L4->Prop)
abbrev Hp:=i_->Option HO
noncomputable def upd(H:Hp)(a:i_)(o:HO):Hp:=λb=>if b=a then some o else H b
theorem qH{H:Hp}{a:i_}{o:HO}:upd H a o a=some o:=by unfold upd;rw[if_pos rfl]
theorem qx{H:Hp}{a b:i_}{o:HO}(h:b≠a):upd H a o b=H b:=by unfold upd;rw[if_neg h]
theorem CI{H:Hp}{a b:i_}{o u:HO}(h:H a=some o)(h':H b=some u)(d:o≠u):a≠b:=by
 intro e;subst e;rw[h] at h';exact d (L0 h')
theorem rG{H:Hp}{a b:i_}{o:HO}(h:H a=some o)(h':H b=none):a≠b:=by
 intro e;subst e;rw[h] at h';cases h'
section
variable (P:B_)(w:J_)
def ObjOk(H:Hp)(h:L4)(a:i_):HO->Prop
 | .lst xs=>xs.length<=v_/\∃(af:List b_) (n:Nat),Vals xs af/\h.get? a=some { cls:=.type "list", data:=.seq af.toArray n }
 | .tup xs=>xs.length<=v_/\∃af:List b_,Vals xs af/\TC h a af.toArray
 | .dK aj=>aj.length<=v_/\(a == NI)=false/\∃vs,KV aj vs/\h.DictOf (mixKind P w) a vs
 | .dT aj=>aj.length<=v_/\(a == NI)=false/\∃xs:List (List Key×i_×b_),
   Paired (λ(p:List Key×V) (q:List Key×i_×b_)=>p.1=q.1/\H q.2.1=some (.tup (p.1.map kV))/\RelV p.2 q.2.2) aj xs ∧
   ∃o es ep,h.get? a=some o/\o.ExactDict/\o.data=.dict es ep/\es.toList=xs.map (entryOfKey (RI (mixKind P w)))/\(xs.map (·.1)).Nodup
 | .set S n=>h.SetOf (QM P w) a S n
 | .ins C dx fs=>H dx=some (.own a)/\fs.length<=1000/\dx≠a/\h.get? a=some (PySem.W.instObj C dx) ∧
   ∃mA,h.Ns1 dx mA/\(∀f,RelO (fs.lookup f) (mA f))/\PySem.Within mA (fs.map (·.1))
 | .own _=>∃o,h.get? a=some o
 | .xd fs=>∃mA,h.Ns1 a mA/\∀f,RelO (fs.lookup f) (mA f)
 | .rng lo hi=>∃t u v,h.get? a=some { cls:=.type "range", data:=.fields #[.int lo t,.int hi u,.int 1 v] }
 | .frz o u=>h.get? a=some o/\ObjOk H h a u
 | .tbl q=>∃ps:Array b_,h.get? a=some { cls:=.none,data:=.fields ps }/\RJ ps.toList/\∀pos cv,PD pos ps.toList=some cv->∃c oc vs t,cv=.ref c/\H c=some (.frz oc (.own a))/\oc.data=.fields vs/\vs[1]?=some (.str q t)
 | .met f x=>h.get? a=some (methodObj (.ref f) (.ref x))
 | .ext φ=>φ h/\(∃o,h.get? a=some o)/\∀h1 h2:L4,φ h1->(∀o,h1.get? a=some o->h2.get? a=some o)->φ h2
def HOk(H:Hp)(h:L4):Prop:=∀a o,H a=some o->ObjOk P w H h a o
end
section
variable{P:B_}{w:J_}{H H':Hp}{a:i_}{o:HO}
theorem ObjOk.lt(x:ObjOk P w H h a o):a < h.objs.size:=by
 cases o with
 | lst xs=>obtain⟨_,_,_,_,e⟩:=x;exact F_ e
 | tup xs=>obtain⟨_,_,_,p⟩:=x;exact p.lt
 | dK aj=>obtain⟨_,_,_,_,o,_,_,e,_⟩:=x;exact F_ e
 | dT aj=>obtain⟨_,_,_,_,o,_,_,e,_⟩:=x;exact F_ e
 | set S n=>obtain⟨o,_,_,_,e,_⟩:=x;exact F_ e
 | ins C dx fs=>obtain⟨_,_,_,e,_⟩:=x;exact F_ e
 | own y=>obtain⟨_,e⟩:=x;exact F_ e
 | xd fs=>obtain⟨_,⟨_,_,_,e,_⟩,_⟩:=x;exact F_ e
 | rng lo hi=>obtain⟨_,_,_,e⟩:=x;exact F_ e
 | frz ob u=>obtain⟨e,_⟩:=x;exact F_ e
 | tbl q=>obtain⟨_,e,_⟩:=x;exact F_ e
 | met f y=>exact F_ (show h.get? a=some _ from x)
 | ext φ=>obtain⟨_,⟨_,e⟩,_⟩:=x;exact F_ e
theorem Paired.mapP{α β:Type}{F G:α->β->Prop}:∀{l₁:List α}{l₂:List β},Paired F l₁ l₂->(∀a b,F a b->G a b)->Paired G l₁ l₂
 | _,_,.nil,_=>.nil
 | _,_,.cons r t,f=>.cons (f _ _ r) (Paired.mapP t f)
theorem ObjOk.stay(x:ObjOk P w H h a o)(k:∀b u,(b=a\/H b=some (.own a))->h.get? b=some u->h'.get? b=some u)(ho:∀b,H b=some (.own a)->H' b=some (.own a))(ht:∀b xs,H b=some (.tup xs)->H' b=some (.tup xs))(hz:∀b o u,H b=some (.frz o u)->H' b=some (.frz o u)):ObjOk P w H' h' a o:=by
 induction o with
 | lst xs=>obtain⟨z,af,n,r,e⟩:=x;exact⟨z,af,n,r,k _ _ (.inl rfl) e⟩
 | tup xs=>obtain⟨z,af,r,ob,e,c⟩:=x;exact⟨z,af,r,ob,k _ _ (.inl rfl) e,c⟩
 | dK aj=>obtain⟨z,y,vs,r,ob,es,ep,e,c⟩:=x;exact⟨z,y,vs,r,ob,es,ep,k _ _ (.inl rfl) e,c⟩
 | dT aj =>
  obtain⟨z,y,xs,r,ob,es,ep,e,c⟩:=x;exact⟨z,y,xs,Paired.mapP r λp q z=>⟨z.1,ht _ _ z.2.1,z.2.2⟩,ob,es,ep,k _ _ (.inl rfl) e,c⟩
 | set S n=>obtain⟨ob,es,ep,t,e,c⟩:=x;exact⟨ob,es,ep,t,k _ _ (.inl rfl) e,c⟩
 | ins C dx fs =>
  obtain⟨d,z,ne,e,mA,⟨od,es,ep,e2,c⟩,r⟩:=x;exact⟨ho _ d,z,ne,k _ _ (.inl rfl) e,mA,⟨od,es,ep,k _ _ (.inr d) e2,c⟩,r⟩
 | own y=>obtain⟨ob,e⟩:=x;exact⟨ob,k _ _ (.inl rfl) e⟩
 | xd fs=>obtain⟨mA,⟨od,es,ep,e,c⟩,r⟩:=x;exact⟨mA,⟨od,es,ep,k _ _ (.inl rfl) e,c⟩,r⟩
 | rng lo hi=>obtain⟨t,u,v,e⟩:=x;exact⟨t,u,v,k _ _ (.inl rfl) e⟩
 | frz ob u ih=>obtain⟨e,q⟩:=x;exact⟨k _ _ (.inl rfl) e,ih q⟩
 | tbl q =>
  obtain⟨ps,e,t,c⟩:=x;refine⟨ps,k _ _ (.inl rfl) e,t,λpos cv h=>?_⟩;obtain⟨c,oc,vs,t,e1,e2,e3⟩:=c pos cv h;exact⟨c,oc,vs,t,e1,hz _ _ _ e2,e3⟩
 | met f y =>
  have e:h.get? a=some (methodObj (.ref f) (.ref y)):=x;show h'.get? a=some (methodObj (.ref f) (.ref y));exact k a _ (.inl rfl) e
 | ext φ=>obtain⟨p,⟨o,e⟩,st⟩:=x;exact⟨st _ _ p λo q=>k _ _ (.inl rfl) q,⟨o,k _ _ (.inl rfl) e⟩,st⟩
theorem HOk.lt(x:HOk P w H h)(e:H a=some o):a < h.objs.size:=(x a o e).lt
theorem HOk.fresh(x:HOk P w H h)(e:h.objs.size<=a):H a=none:=by
 cases q:H a with
 | none=>rfl
 | some u=>exact absurd (H_ (x.lt q) e) (NN _)
theorem HOk.kept(x:HOk P w H h)(k:∀b u,h.get? b=some u->h'.get? b=some u):HOk P w H h':=λa o e =>
 (x a o e).stay (λb u _ q=>k b u q) (λ_ q=>q) (λ_ _ q=>q) λ_ _ _ q=>q
theorem HOk.laid(x:HOk P w H h)(k:∀b u,h.get? b=some u->h'.get? b=some u)(hp:h.objs.size<=a)(new:ObjOk P w (upd H a o) h' a o):HOk P w (upd H a o) h':=λb u e=>by
 have hn:=x.fresh hp;by_cases hb:b=a
 ·subst hb;rw[qH] at e;cases e;exact new
 ·rw[qx hb] at e;exact(x b u e).stay (λc v _ q=>k c v q) (λc q=>by rw[qx (rG q hn)];exact q) (λc xs q=>by rw[qx (rG q hn)];exact q) λc o u q=>by rw[qx (rG q hn)];exact q
end
def Rd(H:Hp)(a:i_)(u:HO):Prop:=H a=some u\/∃o,H a=some (.frz o u)
theorem Rd.ok{P:B_}{w:J_}{H:Hp}{a:i_}{u:HO}(r:Rd H a u)(x:HOk P w H h):ObjOk P w H h a u:=by
 rcases r with r | ⟨o,r⟩
 ·exact x a u r
 ·obtain⟨_,q⟩:=x a _ r;exact q
def Mut:Option HO->Prop
 | some (.lst _)=>True
 | some (.dK _)=>True
 | some (.dT _)=>True
 | some (.set _ _)=>True
 | some (.ins _ _ _)=>True
 | some (.ext _)=>True
 | _=>False
section
variable{P:B_}{w:J_}{H:Hp}{x e:i_}{o':HO}
theorem HOk.write(ok:HOk P w H h)(mu:Mut (H x))(he:e=x\/H e=some (.own x))(k:∀b u,b≠e->h.get? b=some u->h'.get? b=some u)(fE:∃u,h'.get? e=some u)(new:ObjOk P w (upd H x o') h' x o'):HOk P w (upd H x o') h':=λb u q=>by
 have jj:∀c y,H c=some (.own y)->c≠x:=λc y r z=>by subst z;rw[r] at mu;exact mu
 have kW:∀c xs,H c=some (.tup xs)->c≠x:=λc xs r z=>by subst z;rw[r] at mu;exact mu
 by_cases hb:b=x
 ·subst hb;rw[qH] at q;cases q;exact new
 ·rw[qx hb] at q;by_cases hbe:b=e
  ·have q':H b=some (.own x):=by
    rcases he with z | z
    ·exact absurd (hbe.trans z) hb
    ·rw[hbe];exact z
   rw[q] at q';cases q';obtain⟨v,hv⟩:=fE;exact⟨v,by rw[hbe];exact hv⟩
  ·refine(ok b u q).stay (λc v hc r=>k c v ?_ r) (λc r=>by rw[qx (jj c b r)];exact r) (λc xs r=>by rw[qx (kW c xs r)];exact r) λc o u r=>by rw[qx (λz=>by subst z;rw[r] at mu;exact mu)];exact r
   rcases hc with rfl | hc
   ·exact hbe
   ·rintro rfl
    rcases he with z | z
    ·exact jj c b hc z
    ·rw[hc] at z;cases z;exact hb rfl
end
structure Un(fs ex:List i_)(H H':Hp)(h h':L4):Prop where
 keep:∀b o,h.get? b=some o->H b=none->b∉fs->b∉ex->h'.get? b=some o
 slot:∀b o,h.get? b=some o->H b=none->b∈fs->b∉ex->∃sl,h'.get? b=some { o with slots:=sl }
 free:∀b o,h.get? b=some o->H b=none->b∉ex->H' b=none
 there:∀b o,h.get? b=some o->b∉ex->∃o',h'.get? b=some o'
 tups:∀b xs,H b=some (.tup xs)->H' b=some (.tup xs)
 frzs:∀b o u,H b=some (.frz o u)->H' b=some (.frz o u)
 tbls:∀b q,H b=some (.tbl q)->H' b=some (.tbl q)
section
variable{fs nH ex jB:List i_}{H H1 H2:Hp}{h1 h2:L4}{a x e:i_}{o:HO}
theorem Un.any(u:Un fs ex H H1 h h1){b:i_}{ob:Obj}(q:h.get? b=some ob)(n:H b=none)(hx:b∉ex):∃sl,h1.get? b=some { ob with slots:=sl }:=by
 by_cases hb:b∈fs
 ·exact u.slot b ob q n hb hx
 ·exact⟨ob.slots,u.keep b ob q n hb hx⟩
theorem Un.kept(k:∀b u,h.get? b=some u->h'.get? b=some u):Un fs ex H H h h':=
 ⟨λb ob q _ _ _=>k b ob q,λb ob q _ _ _=>⟨ob.slots,k b ob q⟩,λ_ _ _ n _=>n,λb ob q _=>⟨ob,k b ob q⟩,λ_ _ q=>q,λ_ _ _ q=>q,λ_ _ q=>q⟩
theorem Un.refl:Un fs ex H H h h:=Un.kept λ_ _ q=>q
theorem Un.laid(k:∀b u,h.get? b=some u->h'.get? b=some u)(hp:h.objs.size<=a)(hn:H a=none):Un fs ex H (upd H a o) h h' where
 keep:=λb u q _ _ _=>k b u q
 slot:=λb u q _ _ _=>⟨u.slots,k b u q⟩
 free:=λb u q n _=>by rw[qx (LW (H_ (F_ q) hp))];exact n
 there:=λb u q _=>⟨u,k b u q⟩
 tups:=λb xs q=>by rw[qx (rG q hn)];exact q
 frzs:=λb u xs q=>by rw[qx (rG q hn)];exact q
 tbls:=λb xs q=>by rw[qx (rG q hn)];exact q
theorem Un.write(mu:Mut (H x))(he:e=x\/H e=some (.own x))(k:∀b u,b≠e->h.get? b=some u->h'.get? b=some u)(fE:∃u,h'.get? e=some u):Un fs ex H (upd H x o) h h':=by
 have hx:∀b,H b=none->b≠x:=λb n z=>by subst z;rw[n] at mu;exact mu
 have hb:∀b,H b=none->b≠e:=λb n z=>by
  subst z
  rcases he with r | r
  ·exact hx b n r
  ·rw[n] at r;cases r
 have hm:∀b u,H b=some u->¬Mut (some u)->b≠x:=λb u q nm z=>by subst z;rw[q] at mu;exact nm mu
 refine⟨λb u q n _ _=>k b u (hb b n) q,λb u q n _ _=>⟨u.slots,k b u (hb b n) q⟩,λb u q n _=>by rw[qx (hx b n)];exact n,λb u q _=>?_,
  λb xs q=>by rw[qx (hm b _ q λz=>z)];exact q,λb u xs q=>by rw[qx (hm b _ q λz=>z)];exact q,λb xs q=>by rw[qx (hm b _ q λz=>z)];exact q⟩
 by_cases hbe:b=e
 ·subst hbe;exact fE
 ·exact⟨u,k b u hbe q⟩
end
noncomputable def trk(h:L4)(H:Hp):List i_:=(Nq h.objs.size).filter λa=>(H a).isSome
noncomputable def hidT(h:L4)(H:Hp):L4:=PySem.W.hideAll h (trk h H)
theorem HC(h:L4)(H:Hp):(hidT h H).objs.size=h.objs.size:=PySem.W.hideAll_size _ _
theorem G9{H:Hp}{b:i_}{o:Obj}(e:h.get? b=some o)(n:H b=none):(hidT h H).get? b=some o:=
 PySem.W.hideAll_get _ e λhm=>by
  have q:(H b).isSome=true:=(S9.mp hm).2;rw[n] at q;simp at q
theorem HU{H:Hp}{b:i_}{o:Obj}(e:(hidT h H).get? b=some o):h.get? b=some o/\H b=none:=by
 have e':h.get? b=some o:=PySem.W.of_hideAll (trk h H) e;refine⟨e',?_⟩;cases q:H b with
 | none=>rfl
 | some x =>
  have hm:b∈trk h H:=S9.mpr ⟨Ob.mpr (F_ e'),by simp[q]⟩;have z:(hidT h H).get? b=none:=PySem.W.hideAll_none (trk h H) hm;rw[z] at e;cases e
def TabsOk(K:PySem.W.Frag)(H:Hp):Prop:=∀c P,OF K "few_of"=some (c,P)->H P=some (.tbl "few_of.<locals>.<lambda>")
structure Mod(K:PySem.W.Frag)(mg:Str->Option b_)(base:L4):Prop where
 kin:K.In base
 glob:base.Ns My mg
 blt:∃mb,base.Ns OT mb/\∀x:Str,x ≠ "__name__"->mb x=NZ x
 nolimit:base.NoLimit
 bm:∃bm ob,mg "__builtins__"=some (.ref bm)/\bm≠OT/\base.get? bm=some ob/\ob.cls=.type "module"/\ob.dict=some OT/\ob.data=.plain
 cod:∀c P,OF K "few_of"=some (c,P)->PySem.W.CodeHd base c P
structure Cx where
 prog:B_
 w:J_
 K:PySem.W.Frag
 mg:Str->Option b_
 base:L4
 A:Ni
 N:List Str
 s₀:d_
 H₀:Hp
 env:Env
 outer:List Env
 stack:List Env
 ex:List i_
 fn:Str->Bool
 calm:Bool
 pn:List (i_×Obj)
 xe:b_->d_->Prop
noncomputable def frs(l:List Env):List i_:=l.filterMap (·.frame)
noncomputable abbrev Cx.fs(X:Cx):List i_:=frs X.outer
def Vis(sc:OG)(x:Str):Prop:=sc.names.lookup x=some .local\/sc.names.lookup x=some .cell\/sc.names.lookup x=some .free
def Loc(sc:OG)(x:Str):Prop:=sc.names.lookup x=some .local\/sc.names.lookup x=some .cell
noncomputable def visB(s:OG)(x:Str):Bool:=match s.names.lookup x with|some .local=>true|some .cell=>true|some .free=>true|_=>false
noncomputable def locB(s:OG)(x:Str):Bool:=match s.names.lookup x with|some .local=>true|some .cell=>true|_=>false
noncomputable def fnB(X:Cx)(x:Str):Bool:=X.fn x||match X.env.scope.names.lookup x with|some .local=>true|_=>false
theorem visI{s:OG}{x:Str}(h:visB s x=true):Vis s x:=by
 unfold visB at h;unfold Vis;split at h<;>simp_all
theorem locI{s:OG}{x:Str}(h:locB s x=true):Loc s x:=by
 unfold locB at h;unfold Loc;split at h<;>simp_all
theorem fnI{X:Cx}{x:Str}(h:fnB X x=true):X.fn x=true\/X.env.scope.names.lookup x=some .local:=by
 unfold fnB at h;cases e:X.fn x with
 | true=>exact .inl rfl
 | false=>rw[e,Bool.false_or] at h;split at h<;>simp_all
def Look(env:Env)(h:L4)(m:Str->Option b_)(x:Str)(u:b_):Prop:=
 (env.kindOf x=some .local/\m x=some u)\/((env.kindOf x=some .cell\/env.kindOf x=some .free)/\∃c,env.cells.lookup x=some c/\h.IsCell c (some u))
structure Cx.Ok(X:Cx):Prop where
 mod:Mod X.K X.mg X.base
 kind:X.env.scope.kind=.function
 glob:X.env.globals=My
 blt:X.env.builtins=OT
 above:X.s₀.heap.objs.size<=X.env.locals
 inj:∀x y c,X.env.cells.lookup x=some c->X.env.cells.lookup y=some c->x=y
 has:∀x,(X.env.kindOf x=some .cell\/X.env.kindOf x=some .free)->∃c,X.env.cells.lookup x=some c
 cab:∀x c,X.fn x=true->X.env.cells.lookup x=some c->X.s₀.heap.objs.size<=c
 hd:X.calm=true->X.A.handled=none
 frames:X.A.frames=some X.stack
 stk:X.stack=X.outer\/(X.stack=X.env::X.outer/\X.env.frame=some X.env.locals)
 exf:∀b∈X.ex,b≠X.env.locals/\∀x c,X.env.cells.lookup x=some c->c≠b
 bs:∀b o,X.base.get? b=some o->X.s₀.heap.get? b=some o/\X.H₀ b=none
 bsz:X.base.objs.size<=X.s₀.heap.objs.size
 noex:∀b o,X.base.get? b=some o->b∉X.ex
 exfs:∀b∈X.ex,b∉X.fs
 funs:X.s₀.heap.FunFrames X.base X.outer
 frf:∀b∈X.fs,X.H₀ b=none
 tb:TabsOk X.K X.H₀
structure Inv(X:Cx)(aa:List (i_×Obj))(U:List (Option V))(H:Hp)(s:d_):Prop where
 ok:X.Ok
 os:s.os=X.s₀.os
 bare:P5 s.gens
 base:Un X.fs X.ex X.H₀ H X.s₀.heap s.heap
 loc:∃m,s.heap.Ns X.env.locals m/\∀(i:Nat) (x:Str) (v:V),X.N[i]?=some x->U[i]?=some (some v)->Vis X.env.scope x->∃u,RelV v u/\Look X.env s.heap m x u
 cell:∀x c,X.env.cells.lookup x=some c->∃v,s.heap.IsCell c v
 free:H X.env.locals=none
 freeC:∀x c,X.env.cells.lookup x=some c->H c=none
 pin:∀p∈X.pn++aa,s.heap.get? p.1=some p.2/\H p.1=none/\p.1≠X.env.locals/\p.1∉X.fs/\∀v,p.2.data≠.cell v
 hok:HOk X.prog X.w H s.heap
 len:U.length=X.N.length
section
variable{X:Cx}{U:List (Option V)}{H H':Hp}{s:d_}
theorem Cx.Ok.nofr(ok:X.Ok){b:i_}{o:Obj}(e:X.base.get? b=some o):b∉X.fs:=λhb=>by
 have:=(ok.funs.mem hb).1;rw[e] at this;cases this
theorem Inv.bs(I:Inv X aa U H s):∀b o,X.base.get? b=some o->s.heap.get? b=some o/\H b=none:=λb o e =>
 ⟨I.base.keep b o (I.ok.bs b o e).1 (I.ok.bs b o e).2 (I.ok.nofr e) (I.ok.noex b o e),I.base.free b o (I.ok.bs b o e).1 (I.ok.bs b o e).2 (I.ok.noex b o e)⟩
theorem Inv.bk(I:Inv X aa U H s):∀b o,X.base.get? b=some o->s.heap.get? b=some o:=λb o e=>(I.bs b o e).1
theorem Inv.mod(I:Inv X aa U H s):Mod X.K X.mg X.base:=I.ok.mod
theorem Inv.kIn(I:Inv X aa U H s):X.K.In s.heap:=I.ok.mod.kin.keeps I.bk
theorem Inv.nolimit(I:Inv X aa U H s):s.heap.NoLimit:=I.ok.mod.nolimit.keeps I.bk
theorem Inv.lt(I:Inv X aa U H s):X.env.locals < s.heap.objs.size:=let ⟨_,hn,_⟩:=I.loc;hn.lt
theorem Inv.sz(I:Inv X aa U H s):X.s₀.heap.objs.size<=s.heap.objs.size:=MY I.ok.above (OH I.lt)
theorem Inv.nofs(I:Inv X aa U H s){a:i_}(h:s.heap.objs.size<=a):a∉X.fs:=λhb=>by
 obtain⟨_,o,ho,_⟩:=I.ok.funs.mem hb;exact absurd (H_ (F_ ho) (MY I.sz h)) (NN _)
theorem Inv.cne(I:Inv X aa U H s):∀x c,X.env.cells.lookup x=some c->c≠X.env.locals:=λx c e z=>by
 obtain⟨v,o,ho,hd⟩:=I.cell x c e;obtain⟨m,⟨o',es,ep,bK,bj,_⟩,_⟩:=I.loc;rw[z,bK] at ho;cases ho;rw[bj] at hd;cases hd
theorem Inv.funs(I:Inv X aa U H s):s.heap.FunFrames X.base X.outer:=by
 have all:∀(l:List Env),(∀b∈frs l,b∈X.fs)->X.s₀.heap.FunFrames X.base l->s.heap.FunFrames X.base l:=by
  intro l
  induction l with
  | nil=>intro _ _;trivial
  | cons env r ih =>
   intro hs hl;obtain⟨hk,⟨L,o,hf,hn,ho,hd⟩,hr⟩:=hl;have hL:L∈X.fs:=hs L (by unfold frs;rw[PK,hf];exact g_);obtain⟨sl,e⟩:=I.base.slot L o ho (I.ok.frf L hL) hL λz=>I.ok.exfs L z hL
   exact⟨hk,⟨L,_,hf,hn,e,hd⟩,ih (λb hb=>hs b (by unfold frs;rw[PK,hf];exact j_ _ hb)) hr⟩
 exact all X.outer (λ_ hb=>hb) I.ok.funs
theorem Inv.stack(I:Inv X aa U H s):s.heap.FunFrames X.base X.stack:=by
 rcases I.ok.stk with e | ⟨e,hf⟩
 ·rw[e];exact I.funs
 ·rw[e];obtain⟨m,hn,_⟩:=I.loc;refine .cons (by rw[I.ok.kind];decide) hf hn ?_ I.funs;exact L4.get?_none_of_le (MY I.ok.bsz I.ok.above)
theorem Inv.stkSub(I:Inv X aa U H s):∀b∈frs X.stack,b∈X.env.locals::X.fs:=λb hb=>by
 rcases I.ok.stk with e | ⟨e,hf⟩
 ·rw[e] at hb;exact j_ _ hb
 ·rw[e] at hb;unfold frs at hb;rw[PK,hf] at hb;exact hb
theorem Inv.stkFree(I:Inv X aa U H s):∀b∈frs X.stack,H b=none:=λb hb=>by
 rcases n_.mp (I.stkSub b hb) with e | hb
 ·rw[e];exact I.free
 ·obtain⟨_,o,ho,_⟩:=I.ok.funs.mem hb;exact I.base.free b o ho (I.ok.frf b hb) λz=>I.ok.exfs b z hb
theorem Inv.step(I:Inv X aa U H s)(bB:∀b∈ch,(b∈X.ex\/X.s₀.heap.objs.size<=b)/\b≠X.env.locals/\(∀x c,X.env.cells.lookup x=some c->c≠b)/\∀p∈X.pn++aa,p.1≠b)(keep:∀b o,b≠X.env.locals->b∉X.fs->b∉ch->s.heap.get? b=some o->H b=none->h'.get? b=some o)(slot:∀b o,b≠X.env.locals->b∈X.fs->b∉ch->s.heap.get? b=some o->H b=none->∃sl,h'.get? b=some { o with slots:=sl })(free:∀b o,b∉ch->s.heap.get? b=some o->H b=none->H' b=none)(there:∀b o,b∉ch->s.heap.get? b=some o->∃o',h'.get? b=some o')(tups:∀b xs,H b=some (.tup xs)->H' b=some (.tup xs))(frzs:∀b o u,H b=some (.frz o u)->H' b=some (.frz o u))(tbls:∀b q,H b=some (.tbl q)->H' b=some (.tbl q))(ns:∀m,s.heap.Ns X.env.locals m->h'.Ns X.env.locals m)(hok:HOk X.prog X.w H' h')(hg:P5 g'):
  Inv X aa U H' { s with heap:=h',gens:=g',drawn:=d',toks:=t' }:=by
 have fF:∀b o,X.s₀.heap.get? b=some o->b≠X.env.locals:=λb o e=>LW (H_ (F_ e) I.ok.above)
 have fG:∀b o,X.s₀.heap.get? b=some o->b∉X.ex->b∉ch:=λb o e hx hb=>by
  rcases(bB b hb).1 with z | z
  ·exact hx z
  ·exact absurd (H_ (F_ e) z) (NN _)
 have fX:∀x c,X.env.cells.lookup x=some c->∀v,s.heap.IsCell c v->h'.IsCell c v:=λx c e v ⟨o,ho,hd⟩=>by
  have cW:c∉ch:=λz=>(bB c z).2.2.1 x c e rfl
  by_cases hc:c∈X.fs
  ·obtain⟨sl,q⟩:=slot c o (I.cne x c e) hc cW ho (I.freeC x c e);exact⟨_,q,hd⟩
  ·exact⟨o,keep c o (I.cne x c e) hc cW ho (I.freeC x c e),hd⟩
 refine⟨I.ok,I.os,hg,⟨λb o e n hb hx=>?_,λb o e n hb hx=>?_,λb o e n hx=>?_,λb o e hx=>?_,λb xs e=>tups b xs (I.base.tups b xs e),λb o xs e=>frzs b o xs (I.base.frzs b o xs e),λb ps e=>?_⟩,?_,λx c e=>?_,?_,λx c e=>?_,λp hp=>?_,hok,I.len⟩
 ·exact keep b o (fF b o e) hb (fG b o e hx) (I.base.keep b o e n hb hx) (I.base.free b o e n hx)
 ·obtain⟨sl,e1⟩:=I.base.slot b o e n hb hx;obtain⟨nJ,e2⟩:=slot b _ (fF b o e) hb (fG b o e hx) e1 (I.base.free b o e n hx);exact⟨nJ,e2⟩
 ·obtain⟨o',e1⟩:=I.base.there b o e hx;exact free b o' (fG b o e hx) e1 (I.base.free b o e n hx)
 ·obtain⟨o',e1⟩:=I.base.there b o e hx;exact there b o' (fG b o e hx) e1
 ·exact tbls b ps (I.base.tbls b ps e)
 ·obtain⟨m,hn,hl⟩:=I.loc;refine⟨m,ns m hn,λi x v e1 e2 e3=>?_⟩;obtain⟨u,r,l⟩:=hl i x v e1 e2 e3;refine⟨u,r,?_⟩
  rcases l with l | ⟨k,c,e,z⟩
  ·exact .inl l
  ·exact .inr ⟨k,c,e,fX x c e _ z⟩
 ·obtain⟨v,z⟩:=I.cell x c e;exact⟨v,fX x c e v z⟩
 ·obtain⟨m,⟨o,_,_,ho,_⟩,_⟩:=I.loc;exact free _ o (λz=>(bB _ z).2.1 rfl) ho I.free
 ·obtain⟨v,o,ho,hd⟩:=I.cell x c e;exact free c o (λz=>(bB c z).2.2.1 x c e rfl) ho (I.freeC x c e)
 ·obtain⟨e,n,ne,nf,d⟩:=I.pin p hp;have cW:p.1∉ch:=λz=>(bB p.1 z).2.2.2 p hp rfl
  exact⟨keep p.1 p.2 ne nf cW e n,free p.1 p.2 cW e n,ne,nf,d⟩
theorem Inv.un(I:Inv X aa U H s)(u:Un X.fs [] H H' s.heap h')(hok:HOk X.prog X.w H' h'):Inv X aa U H' { s with heap:=h',toks:=t' }:=by
 obtain⟨m,⟨o,es,ep,ho,r⟩,_⟩:=id I.loc;obtain⟨sl,hL⟩:=u.any ho I.free (by simp)
 exact I.step (g':=s.gens) (d':=s.drawn) (ch:=[]) (λ_ z=>nomatch z) (λb o _ hb _ e n=>u.keep b o e n hb (by simp)) (λb o _ hb _ e n=>u.slot b o e n hb (by simp)) (λb o _ e n=>u.free b o e n (by simp)) (λb o _ e=>u.there b o e (by simp)) u.tups u.frzs u.tbls (λm' hm=>by
  obtain⟨o',es',h9,bK,r'⟩:=hm;rw[ho] at bK;cases bK
  exact⟨_,es',h9,hL,r'⟩) hok I.bare
theorem Inv.call(I:Inv X aa U H s)(u:Un (frs X.stack) ch H H' s.heap h')(hok:HOk X.prog X.w H' h')(hg:P5 g')(bB:∀b∈ch,(b∈X.ex\/X.s₀.heap.objs.size<=b)/\b≠X.env.locals/\(∀x c,X.env.cells.lookup x=some c->c≠b)/\∀p∈X.pn++aa,p.1≠b):
  Inv X aa U H' { s with heap:=h',gens:=g',drawn:=d',toks:=t' }:=by
 obtain⟨m,⟨o,es,ep,ho,r⟩,_⟩:=id I.loc;obtain⟨sl,hL⟩:=u.any ho I.free λz=>(bB _ z).2.1 rfl
 exact I.step (ch:=ch) bB (λb o hL hb hc e n=>u.keep b o e n (λz=>(n_.mp (I.stkSub b z)).elim hL hb) hc) (λb o _ _ hc e n=>u.any e n hc) (λb o hc e n=>u.free b o e n hc) (λb o hc e=>u.there b o e hc) u.tups u.frzs u.tbls (λm' hm=>by
  obtain⟨o',es',h9,bK,r'⟩:=hm;rw[ho] at bK;cases bK
  exact⟨_,es',h9,hL,r'⟩) hok hg
theorem Inv.turned{it:i_}(I:Inv X aa U H s)(k:∀b o,b≠it->s.heap.get? b=some o->h'.get? b=some o)(hn:H it=none)(hL:it≠X.env.locals)(h1:it∈X.ex\/X.s₀.heap.objs.size<=it)(h2:∀x c,X.env.cells.lookup x=some c->c≠it)(h3:∀p∈X.pn++aa,p.1≠it):Inv X aa U H { s with heap:=h',toks:=t' }:=by
 have kX:∀b u,H b=some u->b≠it:=λb u e z=>by rw[z,hn] at e;cases e
 refine I.step (g':=s.gens) (d':=s.drawn) (ch:=[it]) (λb hb=>?_) (λb o _ _ hc e _=>k b o (λz=>hc (by simp[z])) e) (λb o _ _ hc e _=>⟨o.slots,k b o (λz=>hc (by simp[z])) e⟩) (λ_ _ _ _ n=>n)
  (λb o hc e=>⟨o,k b o (λz=>hc (by simp[z])) e⟩) (λ_ _ e=>e) (λ_ _ _ e=>e) (λ_ _ e=>e) (λm hm=>?_) (λb u e=>?_) I.bare
 ·have e:b=it:=by simpa using hb
  subst e;exact⟨h1,hL,h2,h3⟩
 ·obtain⟨o,es,ep,ho,r⟩:=hm;exact⟨o,es,ep,k _ o (LU hL) ho,r⟩
 ·refine(I.hok b u e).stay (λc v hc q=>k c v ?_ q) (λ_ q=>q) (λ_ _ q=>q) λ_ _ _ q=>q
  rcases hc with z | z
  ·rw[z];exact kX b u e
  ·exact kX c _ z
theorem Inv.tok(I:Inv X aa U H s)(t:Nat):Inv X aa U H { s with toks:=t }:=I.un (h':=s.heap) (t':=t) Un.refl I.hok
theorem Inv.kept(I:Inv X aa U H s)(k:∀b u,s.heap.get? b=some u->h'.get? b=some u):Inv X aa U H { s with heap:=h',toks:=t' }:=I.un (Un.kept k) (I.hok.kept k)
theorem Inv.laid{a:i_}{o:HO}(I:Inv X aa U H s)(k:∀b u,s.heap.get? b=some u->h'.get? b=some u)(hp:s.heap.objs.size<=a)(new:ObjOk X.prog X.w (upd H a o) h' a o):
  Inv X aa U (upd H a o) { s with heap:=h',toks:=t' }:=I.un (Un.laid k hp (I.hok.fresh hp)) (I.hok.laid k hp new)
theorem Inv.write{x e:i_}{o:HO}(I:Inv X aa U H s)(mu:Mut (H x))(he:e=x\/H e=some (.own x))(k:∀b u,b≠e->s.heap.get? b=some u->h'.get? b=some u)(fE:∃u,h'.get? e=some u)(new:ObjOk X.prog X.w (upd H x o) h' x o):Inv X aa U (upd H x o) { s with heap:=h',toks:=t' }:=I.un (Un.write mu he k fE) (I.hok.write mu he k fE new)
theorem Inv.pins_of(I:Inv X aa U H s)(h:∀p∈fY,s.heap.get? p.1=some p.2/\H p.1=none/\p.1≠X.env.locals/\p.1∉X.fs/\∀v,p.2.data≠.cell v):Inv X fY U H s:=
 ⟨I.ok,I.os,I.bare,I.base,I.loc,I.cell,I.free,I.freeC,λp hp=>(Mc.mp hp).elim (λz=>I.pin p (Ph _ z)) (h p),I.hok,I.len⟩
theorem yU(hN:N.Nodup){i:Nat}{x:Str}(a:N[i]?=some x)(b:N[j]?=some x):i=j:=by
 obtain⟨h1,e1⟩:=D_.mp a;obtain⟨h2,e2⟩:=D_.mp b;exact(List.getElem_inj hN).mp (e1.trans e2.symm)
theorem zW{M:Model}{E:b_->d_->Prop}{i:Nat}{x:Str}{v:V}{u:b_}{Q:Unit->d_->Prop}(I:Inv X aa U H s)(hN:X.N.Nodup)(hi:X.N[i]?=some x)(hx:Loc X.env.scope x)(r:RelV v u)(h:∀s',Inv X aa (U.set i (some v)) H s'->(∃a,L4.SameBut a s.heap s'.heap/\(a=X.env.locals\/X.env.cells.lookup x=some a))->Q () s')(hf:X.fn x=true\/X.env.scope.names.lookup x=some .local):z_ M A (storeName X.env x u) Q E s:=by
 obtain⟨m,hn,hl⟩:=id I.loc;have kY:(X.env.scope.kind == .class||(X.env.scope.kind == .module&&X.env.locals != X.env.globals))=false:=by rw[I.ok.kind];rfl
 have jk:i < U.length:=by rw[I.len];exact(D_.mp hi).1
 have cne:=I.cne
 have cX:∀{a:i_}{h':L4},(∃o,s.heap.get? a=some o/\H a=none)->L4.SameBut a s.heap h'->HOk X.prog X.w H h':=λ{a h'} ha hs b ob e=>by
  obtain⟨_,_,dM⟩:=ha;refine(I.hok b ob e).stay (λc w' hc q=>(hs.2 c ?_).trans q) (λ_ q=>q) (λ_ _ q=>q) λ_ _ _ q=>q
  rintro rfl
  rcases hc with rfl | hc
  ·rw[dM] at e;cases e
  ·rw[dM] at hc;cases hc
 rcases hx with hk | hk
 ·refine wpAny_storeName_local hk hn (λh' eK hs=>?_) kY;obtain⟨oL,_,_,nK,_⟩:=id hn;refine h _ ⟨I.ok,I.os,I.bare,⟨λb o e n hb hx=>?_,λb o e n hb hx=>?_,I.base.free,λb o e hx=>?_,I.base.tups,I.base.frzs,I.base.tbls⟩,⟨_,eK,λj y v' e1 e2 e3=>?_⟩,λy c e=>?_,I.free,I.freeC,λp hp=>?_,cX ⟨oL,nK,I.free⟩ hs,by simpa using I.len⟩ ⟨_,hs,.inl rfl⟩
  ·exact(hs.2 b (LW (H_ (F_ e) I.ok.above))).trans (I.base.keep b o e n hb hx)
  ·obtain⟨sl,e1⟩:=I.base.slot b o e n hb hx;exact⟨sl,(hs.2 b (LW (H_ (F_ e) I.ok.above))).trans e1⟩
  ·obtain⟨o',e1⟩:=I.base.there b o e hx;exact⟨o',(hs.2 b (LW (H_ (F_ e) I.ok.above))).trans e1⟩
  ·by_cases hj:j=i
   ·subst hj;rw[hi] at e1;cases e1;rw[N0 jk] at e2;cases e2;exact⟨u,r,.inl ⟨hk,by simp⟩⟩
   ·rw[Ng (LU hj)] at e2;obtain⟨u',r',q⟩:=hl j y v' e1 e2 e3;refine⟨u',r',?_⟩
    rcases q with⟨k,e⟩ | ⟨k,c,e,z⟩
    ·refine .inl ⟨k,?_⟩;have:y≠x:=λe=>hj (yU hN e1 (e▸hi))
     simp[this,e]
    ·exact .inr ⟨k,c,e,z.sameBut hs (cne y c e)⟩
  ·obtain⟨w',z⟩:=I.cell y c e;exact⟨w',z.sameBut hs (cne y c e)⟩
  ·obtain⟨e,n,ne,nf,d⟩:=I.pin p hp;exact⟨(hs.2 p.1 ne).trans e,n,ne,nf,d⟩
 ·have jC:X.fn x=true:=by
   rcases hf with z | z
   ·exact z
   ·rw[z] at hk;cases hk
  obtain⟨c,hc⟩:=I.ok.has x (.inl hk);obtain⟨w',z⟩:=I.cell x c hc;refine wpAny_storeName_cell I.ok.kind hk hc z (λh' bX hs=>?_);obtain⟨oc,kZ,k6⟩:=id z;refine h { s with heap:=h' } ⟨I.ok,I.os,I.bare,⟨λb o e n hb hx=>?_,λb o e n hb hx=>?_,I.base.free,λb o e hx=>?_,I.base.tups,I.base.frzs,I.base.tbls⟩,⟨m,hn.sameBut hs (LU (cne x c hc)),λj y v' e1 e2 e3=>?_⟩,λy c' e=>?_,I.free,I.freeC,λp hp=>?_,cX ⟨oc,kZ,I.freeC x c hc⟩ hs,by simpa using I.len⟩ ⟨c,hs,.inr hc⟩
  ·exact(hs.2 b (LW (H_ (F_ e) (I.ok.cab x c jC hc)))).trans (I.base.keep b o e n hb hx)
  ·obtain⟨sl,e1⟩:=I.base.slot b o e n hb hx;exact⟨sl,(hs.2 b (LW (H_ (F_ e) (I.ok.cab x c jC hc)))).trans e1⟩
  ·obtain⟨o',e1⟩:=I.base.there b o e hx;exact⟨o',(hs.2 b (LW (H_ (F_ e) (I.ok.cab x c jC hc)))).trans e1⟩
  ·by_cases hj:j=i
   ·subst hj;rw[hi] at e1;cases e1;rw[N0 jk] at e2;cases e2;exact⟨u,r,.inr ⟨.inl hk,c,hc,bX⟩⟩
   ·rw[Ng (LU hj)] at e2;obtain⟨u',r',q⟩:=hl j y v' e1 e2 e3;refine⟨u',r',?_⟩
    rcases q with q | ⟨k,c',e,z'⟩
    ·exact .inl q
    ·refine .inr ⟨k,c',e,z'.sameBut hs ?_⟩;rintro rfl;exact hj (yU hN e1 (I.ok.inj _ _ _ e hc▸hi))
  ·by_cases jD:c'=c
   ·subst jD;exact⟨_,bX⟩
   ·obtain⟨w2,z2⟩:=I.cell y c' e;exact⟨w2,z2.sameBut hs jD⟩
  ·obtain⟨e,n,ne,nf,d⟩:=I.pin p hp;refine⟨(hs.2 p.1 ?_).trans e,n,ne,nf,d⟩;intro q;rw[q,kZ] at e;have q':oc=p.2:=L0 e;exact d w' (by rw[←q'];exact k6)
theorem Am{M:Model}{E:b_->d_->Prop}{i:Nat}{x:Str}{v:V}{u:b_}{Q:Unit->d_->Prop}(I:Inv X aa U H s)(hN:X.N.Nodup)(hi:X.N[i]?=some x)(hx:Loc X.env.scope x)(r:RelV v u)(h:∀s',Inv X aa (U.set i (some v)) H s'->Q () s')(hf:X.fn x=true\/X.env.scope.names.lookup x=some .local):z_ M A (storeName X.env x u) Q E s:=
 zW I hN hi hx r (λs' I' _=>h s' I') hf
theorem Inv.call'(I:Inv X aa U H s)(ho:s'.os=s.os)(u:Un (frs X.stack) ch H H' s.heap s'.heap)(hok:HOk X.prog X.w H' s'.heap)(hg:P5 s'.gens)(bB:∀b∈ch,(b∈X.ex\/X.s₀.heap.objs.size<=b)/\b≠X.env.locals/\(∀x c,X.env.cells.lookup x=some c->c≠b)/\∀p∈X.pn++aa,p.1≠b):Inv X aa U H' s':=by
 obtain⟨h',g',d',t',o'⟩:=s';have e:o'=s.os:=ho;subst e;exact I.call (g':=g') (t':=t') (d':=d') u hok hg bB
end
abbrev XK:=b_->Option i_->Hp->Prop
abbrev St:=List (Option V)
abbrev VK:=V->Hp->Prop
abbrev TE:=St->Hp->VK->Prop
abbrev TT:=St->Hp->(Bool->Hp->Prop)->Prop
abbrev TA:=St->Hp->(List V->Hp->Prop)->Prop
structure Ends where
 nx:St->Hp->Prop
 rt:VK
 bk:St->Hp->Prop:=λ_ _=>False
 ct:St->Hp->Prop:=λ_ _=>False
abbrev TS:=Ends->St->Hp->Prop
def EP(X:Cx)(aa:List (i_×Obj))(U:St)(Q:VK)(u:b_)(s':d_):Prop:=∃v H',Inv X aa U H' s'/\RelV v u/\Q v H'
def TP(X:Cx)(aa:List (i_×Obj))(U:St)(Q:Bool->Hp->Prop)(b:Bool)(s':d_):Prop:=∃H',Inv X aa U H' s'/\Q b H'
def AP(X:Cx)(aa:List (i_×Obj))(U:St)(Q:List V->Hp->Prop)(us:List b_)(s':d_):Prop:=∃vs H',Inv X aa U H' s'/\Vals vs us/\Q vs H'
def SP(X:Cx)(aa:List (i_×Obj))(D:Ends)(f:Flow)(s':d_):Prop:=
 match f with
 | .next=>∃au H',Inv X aa au H' s'/\D.nx au H'
 | .brk=>∃au H',Inv X aa au H' s'/\D.bk au H'
 | .cont=>∃au H',Inv X aa au H' s'/\D.ct au H'
 | .ret u=>∃v au H',Inv X aa au H' s'/\RelV v u/\D.rt v H'
def PE(X:Cx)(e:L8)(t:TE):Prop:=
 ∀(aa:List (i_×Obj)) (s:d_) (U:St) (H:Hp) (Q:VK),Inv X aa U H s->t U H Q->z_ (m_ X.prog X.w) X.A (Mm e X.env) (EP X aa U Q) X.xe s
def PT(X:Cx)(e:L8)(t:TT):Prop:=
 ∀(aa:List (i_×Obj)) (s:d_) (U:St) (H:Hp) (Q:Bool->Hp->Prop),Inv X aa U H s->t U H Q->z_ (m_ X.prog X.w) X.A (S' e X.env (Mm e X.env)) (TP X aa U Q) X.xe s
def PW(X:Cx)(e:L8)(t:TT):Prop:=
 ∀(bu:Sem b_) (aa:List (i_×Obj)) (s:d_) (U:St) (H:Hp) (Q:Bool->Hp->Prop),Inv X aa U H s->t U H Q->z_ (m_ X.prog X.w) X.A (S' e X.env bu) (TP X aa U Q) X.xe s
def PA(X:Cx)(es:List L8)(t:TA):Prop:=
 ∀(pos:Pos) (aa:List (i_×Obj)) (s:d_) (U:St) (H:Hp) (Q:List V->Hp->Prop),Inv X aa U H s->t U H Q->z_ (m_ X.prog X.w) X.A (spliced (Mp pos (f_ es X.env))) (AP X aa U Q) X.xe s
def PS(X:Cx)(st:Nc)(t:TS):Prop:=
 ∀(aa:List (i_×Obj)) (s:d_) (U:St) (H:Hp) (D:Ends),Inv X aa U H s->t D U H->z_ (m_ X.prog X.w) X.A (exec st X.env) (SP X aa D) X.xe s
def PSs(X:Cx)(st:List Nc)(t:TS):Prop:=
 ∀(aa:List (i_×Obj)) (s:d_) (U:St) (H:Hp) (D:Ends),Inv X aa U H s->t D U H->z_ (m_ X.prog X.w) X.A (execs st X.env) (SP X aa D) X.xe s
theorem thn{α:Type}{t:Sem α}{Q Q':α->d_->Prop}{M:Model}{E:b_->d_->Prop}{s:d_}(h:z_ M A t Q E s)(hQ:∀a s,Q a s->Q' a s):z_ M A t Q' E s:=Mz h hQ λ_ _ x=>x
section
variable {X:Cx}
noncomputable def tVar(i:Nat):TE:=λU H Q=>∃v,U[i]?=some (some v)/\Q v H
noncomputable def tC(v:V):TE:=λ_ H Q=>Q v H
theorem IH{i:Nat}{x:Str}(hN:X.N[i]?=some x)(hv:Vis X.env.scope x)(hd:(x == ("__debug__":Str))=false:=by decide)(aW:(x == ("__classdict__":Str))=false:=by decide):PE X (.Name x pos) (tVar i):=by
 intro aa s U H Q I h;obtain⟨v,e,h⟩:=h;obtain⟨m,hn,hl⟩:=I.loc;obtain⟨u,r,l⟩:=hl i x v hN e hv;have fin:EP X aa U Q u s:=⟨v,H,I,r,h⟩
 rcases l with⟨hk,hm⟩ | ⟨hk,c,hc,cf⟩
 ·exact S_ (wpAny_loadName_local I.ok.kind hk hn hm fin) hd
 ·rcases hk with hk | hk
  ·exact S_ (wpAny_loadName_cell I.ok.kind hk hc cf fin) hd
  ·exact S_ (wpAny_loadName_free I.ok.kind hk hc cf fin aW) hd
theorem IU{i j pos}:PE X (.Constant (.int i) j pos) (tC (.int i)):=λ_ _ _ H _ I h=>wpAny_Constant_int ⟨.int i,H,I.tok _,⟨_,rfl⟩,h⟩
theorem Fi{b j pos}:PE X (.Constant (.bool b) j pos) (tC (.bl b)):=λ_ _ _ H _ I h=>Constant_bool ⟨.bl b,H,I,rfl,h⟩
theorem DO{j pos}:PE X (.Constant .none j pos) (tC .non):=λ_ _ _ H _ I h=>Constant_none ⟨.non,H,I,rfl,h⟩
theorem Ch{x j pos}:PE X (.Constant (.str x) j pos) (tC (.str x)):=λ_ _ _ H _ I h=>Calls.Constant_str ⟨.str x,H,I.tok _,⟨_,rfl⟩,h⟩
def Gl(X:Cx)(x:Str):Prop:=X.env.kindOf x=some .globalImplicit
theorem Hm{E:b_->d_->Prop}{s:d_}{U:St}{H:Hp}{x:Str}{u:b_}{Q:b_->d_->Prop}(I:Inv X aa U H s)(hg:Gl X x)(hm:X.mg x=some u)(h:Q u s)(hd:(x == ("__debug__":Str))=false:=by decide):z_ (m_ X.prog X.w) X.A (Mm (.Name x pos) X.env) Q E s:=
 PL I.ok.kind hg (Calls.loadGlobal_global (by rw[I.ok.glob];exact I.mod.glob.keeps I.bk) hm h) hd
theorem rC{E:b_->d_->Prop}{s:d_}{U:St}{H:Hp}{x:Str}{u:b_}{Q:b_->d_->Prop}(I:Inv X aa U H s)(hg:Gl X x)(hm:X.mg x=none)(hv:NZ x=some u)(h:Q u s)(hn:x ≠ "__name__":=by decide)(hd:(x == ("__debug__":Str))=false:=by decide):z_ (m_ X.prog X.w) X.A (Mm (.Name x pos) X.env) Q E s:=by
 obtain⟨mb,h1,h2⟩:=I.mod.blt;exact PL I.ok.kind hg (Calls.loadGlobal_builtin (by rw[I.ok.glob];exact I.mod.glob.keeps I.bk) hm (by rw[I.ok.blt];exact h1.keeps I.bk) ((h2 x hn).trans hv) h) hd
variable{a b:L8}{ta tb:TE}
def PC(X:Cx)(op:CmpOp)(a b:L8)(t:TE):Prop:=
 ∀(aa:List (i_×Obj)) (s:d_) (U:St) (H:Hp) (Q:VK),Inv X aa U H s->t U H Q →
  z_ (m_ X.prog X.w) X.A (Mm a X.env) (λv aw=>z_ (m_ X.prog X.w) X.A (Mm b X.env) (λu cY=>z_ (m_ X.prog X.w) X.A (MS op v u) (EP X aa U Q) X.xe cY) X.xe aw) X.xe s
noncomputable def tB(t:TE):TT:=λU H Q=>t U H λx H1=>∃c,x=.bl c/\Q c H1
theorem DH{t:TE}(h:PC X op a b t)(h1:Nm op b=false):PT X (.Compare a [op] [b] pos) (tB t):=by
 intro aa s U H Q I hw;refine Rh (thn (h aa s U H _ I hw) λv s1 h1=>thn h1 λu s2 h2=>thn h2 λc s3 ⟨x,H1,I1,r1,q1⟩=>?_) h1;obtain⟨d,rfl,q⟩:=q1;cases r1;exact Mx ⟨H1,I1,q⟩
theorem Db{t:TE}(h:PE X e t)(he:∀bu,S' e X.env bu=(do let v ←bu;TH e.pos;OI [v] (truthy v)):=by intros;rfl):PT X e (tB t):=by
 intro aa s U H Q I hw;refine isTrue_plain (thn (h aa s U H _ I hw) λv s1 ⟨x,H1,I1,r1,q1⟩=>?_) (he _);obtain⟨d,rfl,q⟩:=q1;cases r1;exact Mx ⟨H1,I1,q⟩
variable{tA ic:TT}
noncomputable def tAnd(t u:TT):TT:=λU H Q=>t U H λc H1=>if c=true then u U H1 Q else Q false H1
noncomputable def tOr(t u:TT):TT:=λU H Q=>t U H λc H1=>if c=true then Q true H1 else u U H1 Q
noncomputable def tNot(t:TT):TT:=λU H Q=>t U H λc H1=>Q (!c) H1
theorem Ii(ha:PT X a tA):PW X (.BoolOp .And [a] pos) tA:=by
 intro wh aa s U H Q I h;refine isTrue_and (thn (ha aa s U H Q I h) λc s1 e=>?_);cases c with
 | true=>exact isTrue_and_nil e
 | false=>exact e
theorem Fx(ha:PT X a tA):PW X (.BoolOp .Or [a] pos) tA:=by
 intro wh aa s U H Q I h;refine isTrue_or (thn (ha aa s U H Q I h) λc s1 e=>?_);cases c with
 | false=>exact isTrue_or_nil e
 | true=>exact e
theorem B8(ha:PT X a tA)(hb:PW X (.BoolOp .And (b::aB) pos) ic):PW X (.BoolOp .And (a::b::aB) pos) (tAnd tA ic):=by
 intro wh aa s U H Q I h;refine isTrue_and (thn (ha aa s U H _ I h) λc s1 ⟨H1,I1,q1⟩=>?_);cases c with
 | true=>exact hb wh aa s1 U H1 Q I1 q1
 | false=>exact⟨H1,I1,q1⟩
theorem HG(ha:PT X a tA)(hb:PW X (.BoolOp .Or (b::aB) pos) ic):PW X (.BoolOp .Or (a::b::aB) pos) (tOr tA ic):=by
 intro wh aa s U H Q I h;refine isTrue_or (thn (ha aa s U H _ I h) λc s1 ⟨H1,I1,q1⟩=>?_);cases c with
 | true=>exact⟨H1,I1,q1⟩
 | false=>exact hb wh aa s1 U H1 Q I1 q1
theorem FH(ha:PT X a tA):PT X (.UnaryOp .Not a pos) (tNot tA):=by
 intro aa s U H Q I h;exact isTrue_not (ha aa s U H (λc H1=>Q (!c) H1) I h)
noncomputable def tAndV(ta tb:TE):TE:=λU H Q=>ta U H λx H1=>∃c,x=.bl c/\if c=true then tb U H1 Q else Q (.bl false) H1
theorem HQ{op}{t:TE}(h:PE X a t):PE X (.BoolOp op [a] pos) t:=λaa s U H Q I hw=>BoolOp_one (h aa s U H Q I hw)
theorem Il(ha:PE X a ta)(hb:PE X (.BoolOp .And (b::aB) pos) tb):PE X (.BoolOp .And (a::b::aB) pos) (tAndV ta tb):=by
 intro aa s U H Q I h;refine BoolOp_and (thn (ha aa s U H _ I h) λv s1 ⟨x,H1,I1,r1,q1⟩=>?_);obtain⟨c,rfl,q1⟩:=q1;cases r1;refine Mx ?_;cases c with
 | true=>exact hb aa s1 U H1 Q I1 q1
 | false=>exact⟨.bl false,H1,I1,rfl,q1⟩
noncomputable def tIf(t:TT)(ta tb:TE):TE:=λU H Q=>t U H λc H1=>if c=true then ta U H1 Q else tb U H1 Q
theorem E5{c:L8}(hc:PT X c tA)(ha:PE X a ta)(hb:PE X b tb):PE X (.IfExp c a b pos) (tIf tA ta tb):=by
 intro aa s U H Q I h;refine wpAny_IfExp (thn (hc aa s U H _ I h) λd s1 ⟨H1,I1,q1⟩=>?_);cases d with
 | true=>exact ha aa s1 U H1 Q I1 q1
 | false=>exact hb aa s1 U H1 Q I1 q1
end
def SqL(K:PySem.W.Frag)(H:Hp)(a:i_)(xs:List V):Prop:=
 Rd H a (.lst xs) ∨
  ∃(o:Obj) (af:Array b_) (n:Nat),K.lookup a=some o/\o.cls=.type "list"/\o.dict=none/\o.data=.seq af n/\af.size<=v_/\Vals xs af.toList
def SqT(K:PySem.W.Frag)(H:Hp)(a:i_)(xs:List V):Prop:=
 Rd H a (.tup xs) ∨
  ∃(o:Obj) (af:Array b_) (n:Nat),K.lookup a=some o/\o.cls=.type "tuple"/\o.data=.seq af n/\af.size<=v_/\Vals xs af.toList
noncomputable def absV:b_->Option V
 | .none=>some .non
 | .bool b=>some (.bl b)
 | .int i _=>some (.int i)
 | .str x _=>some (.str x)
 | .bytes b _=>some (.byt b)
 | .float b _=>some (.flt b)
 | .ref a=>some (.ref a)
 | .type n=>some (.ty n)
 | _=>none
theorem RelV.abs{x:V}{u:b_}(r:RelV x u):absV u=some x:=by
 cases x with
 | non=>cases r;rfl
 | bl _=>cases r;rfl
 | int _=>obtain⟨t,rfl⟩:=r;rfl
 | str _=>obtain⟨t,rfl⟩:=r;rfl
 | byt _=>obtain⟨t,rfl⟩:=r;rfl
 | flt _=>obtain⟨t,rfl⟩:=r;rfl
 | ref _=>cases r;rfl
 | ty _=>cases r;rfl
theorem RelV.inj{x y:V}{u:b_}(r:RelV x u)(q:RelV y u):x=y:=L0 (r.abs.symm.trans q.abs)
theorem Vals.inj:∀{xs ys:List V}{us:List b_},Vals xs us->Vals ys us->xs=ys
 | _,_,_,.nil,.nil=>rfl
 | _,_,_,.cons r t,.cons r' t'=>by rw[r.inj r',Vals.inj t t']
section
variable{X:Cx}{U:St}{H:Hp}{s:d_}{a:i_}{xs ys:List V}
theorem SqL.of{K:PySem.W.Frag}(h:H a=some (.lst xs)):SqL K H a xs:=.inl (.inl h)
theorem SqT.of{K:PySem.W.Frag}(h:H a=some (.tup xs)):SqT K H a xs:=.inl (.inl h)
theorem Inv.list(I:Inv X aa U H s)(h:SqL X.K H a xs):∃af:List b_,Vals xs af/\PlainL s.heap a af.toArray/\xs.length<=v_:=by
 rcases h with h | ⟨o,af,n,hk,hc,hd,hs,hz,r⟩
 ·obtain⟨z,af,n,r,e⟩:=h.ok I.hok;exact⟨af,r,⟨_,n,e,rfl,rfl,rfl⟩,z⟩
 ·refine⟨af.toList,r,⟨o,n,I.kIn a o hk,hc,hd,by simpa using hs⟩,?_⟩;have e:=r.length;simp only[LS] at e;omega
theorem Inv.tuple(I:Inv X aa U H s)(h:SqT X.K H a xs):∃af:List b_,Vals xs af/\TC s.heap a af.toArray/\xs.length<=v_:=by
 rcases h with h | ⟨o,af,n,hk,hc,hs,hz,r⟩
 ·obtain⟨z,af,r,p⟩:=h.ok I.hok;exact⟨af,r,p,z⟩
 ·refine⟨af.toList,r,⟨o,I.kIn a o hk,hc,n,by simpa using hs⟩,?_⟩;have e:=r.length;simp only[LS] at e;omega
theorem Inv.list_inj(I:Inv X aa U H s)(h:SqL X.K H a xs)(h':SqL X.K H a ys):xs=ys:=by
 obtain⟨af,r,⟨o,n,e,_,_,d⟩,_⟩:=I.list h;obtain⟨its',r',⟨o',n',e',_,_,d'⟩,_⟩:=I.list h';rw[e] at e';cases e';rw[d] at d';injection d' with d1 _
 have:af=its':=by simpa using congrArg toList d1
 subst this;exact r.inj r'
theorem Inv.tuple_inj(I:Inv X aa U H s)(h:SqT X.K H a xs)(h':SqT X.K H a ys):xs=ys:=by
 obtain⟨af,r,⟨o,e,_,n,d⟩,_⟩:=I.tuple h;obtain⟨its',r',⟨o',e',_,n',d'⟩,_⟩:=I.tuple h';rw[e] at e';cases e';rw[d] at d';injection d' with d1 _
 have:af=its':=by simpa using congrArg toList d1
 subst this;exact r.inj r'
end
noncomputable abbrev Cx.wish(X:Cx)(E:b_->d_->Prop):Cx:={ X with xe:=E }
noncomputable abbrev Cx.nox(X:Cx):Cx:=X.wish λ_ _=>False
theorem Cx.Ok.wish{X:Cx}(ok:X.Ok)(E:b_->d_->Prop):(X.wish E).Ok:=
 ⟨ok.mod,ok.kind,ok.glob,ok.blt,ok.above,ok.inj,ok.has,ok.cab,ok.hd,ok.frames,ok.stk,ok.exf,ok.bs,ok.bsz,ok.noex,ok.exfs,ok.funs,ok.frf,ok.tb⟩
theorem Cx.Ok.unwish{X:Cx}{E:b_->d_->Prop}(ok:(X.wish E).Ok):X.Ok:=
 ⟨ok.mod,ok.kind,ok.glob,ok.blt,ok.above,ok.inj,ok.has,ok.cab,ok.hd,ok.frames,ok.stk,ok.exf,ok.bs,ok.bsz,ok.noex,ok.exfs,ok.funs,ok.frf,ok.tb⟩
section
variable{X:Cx}{U:St}{H:Hp}{s:d_}{E:b_->d_->Prop}
theorem Inv.wish(I:Inv X aa U H s)(E:b_->d_->Prop):Inv (X.wish E) aa U H s:=⟨I.ok.wish E,I.os,I.bare,I.base,I.loc,I.cell,I.free,I.freeC,I.pin,I.hok,I.len⟩
theorem Inv.unwish(I:Inv (X.wish E) aa U H s):Inv X aa U H s:=⟨I.ok.unwish,I.os,I.bare,I.base,I.loc,I.cell,I.free,I.freeC,I.pin,I.hok,I.len⟩
theorem SP.unwish{D:Ends}{f:Flow}(h:SP (X.wish E) aa D f s'):SP X aa D f s':=by
 cases f with
 | next=>obtain⟨au,H',I,q⟩:=h;exact⟨au,H',I.unwish,q⟩
 | brk=>obtain⟨au,H',I,q⟩:=h;exact⟨au,H',I.unwish,q⟩
 | cont=>obtain⟨au,H',I,q⟩:=h;exact⟨au,H',I.unwish,q⟩
 | ret u=>obtain⟨v,au,H',I,r,q⟩:=h;exact⟨v,au,H',I.unwish,r,q⟩
theorem PSs.nox{st:List Nc}{t:TS}(h:PSs X.nox st t):PSs X st t:=λaa s U H D I hw =>
 Mz (h aa s U H D (I.wish _) hw) (λ_ _ q=>q.unwish) λ_ _ z=>TJ z
end
section
variable{X:Cx}{st:Nc}{aB:List Nc}{t u:TS}{te:TE}
noncomputable def tNext:TS:=λD U H=>D.nx U H
noncomputable def tSeq(t u:TS):TS:=λD U H=>t { D with nx:=u D } U H
theorem Ef:PSs X [] tNext:=λ_ _ U H _ I h=>Rb ⟨U,H,I,h⟩
theorem EH(h1:PS X st t)(h2:PSs X aB u):PSs X (st::aB) (tSeq t u):=by
 intro aa s U H D I h;refine wpAny_execs_cons (thn (h1 aa s U H { D with nx:=u D } I h) λf s1 q=>?_);cases f with
 | next =>
  obtain⟨au,H',I',q⟩:=q;exact h2 aa s1 au H' D I' q
 | ret v=>exact q
 | brk=>exact q
 | cont=>exact q
theorem CY(h1:PS X st t):PSs X [st] t:=by
 intro aa s U H D I h;refine wpAny_execs_cons (thn (h1 aa s U H D I h) λf s1 q=>?_);cases f with
 | next=>exact Rb q
 | ret v=>exact q
 | brk=>exact q
 | cont=>exact q
theorem Inv.quiet{U:St}{H:Hp}{s:d_}(I:Inv X aa U H s):interactive X.env=false:=by simp[interactive,I.ok.kind]
noncomputable def tDrop(te:TE):TS:=λD U H=>te U H λ_ H1=>D.nx U H1
theorem y4(he:PE X e te)(hs:NO e none pos.line X.env=pure false:=by rfl):PS X (.Expr e pos) (tDrop te):=by
 intro aa s U H D I h;exact wpAny_Expr_any (thn (he aa s U H _ I h) λv s1 ⟨x,H1,I1,r1,q1⟩=>⟨U,H1,I1,q1⟩) I.quiet hs
noncomputable def tRet(te:TE):TS:=λD U H=>te U H D.rt
theorem xl(he:PE X e te):PS X (.Return (some e) pos) (tRet te):=by
 intro aa s U H D I h;exact wpAny_Return_some (thn (he aa s U H _ I h) λv s1 ⟨x,H1,I1,r1,q1⟩=>⟨x,U,H1,I1,r1,q1⟩)
noncomputable def tIfS(c:TT)(t u:TS):TS:=λD U H=>c U H λb H1=>if b=true then t D U H1 else u D U H1
theorem FR{c:L8}{a b:List Nc}{tc:TT}(hc:PT X c tc)(ha:PSs X a t)(hb:PSs X b u):PS X (.If c a b pos) (tIfS tc t u):=by
 intro aa s U H D I h;refine wpAny_If (thn (hc aa s U H _ I h) λd s1 ⟨H1,I1,q1⟩=>?_);cases d with
 | true=>exact ha aa s1 U H1 D I1 q1
 | false=>exact hb aa s1 U H1 D I1 q1
end
abbrev TG:=V->St->Hp->(St->Hp->Prop)->Prop
abbrev TGs:=List V->St->Hp->(St->Hp->Prop)->Prop
def PG(X:Cx)(ig:L8)(t:TG):Prop:=
 ∀(aa:List (i_×Obj)) (s:d_) (U:St) (H:Hp) (v:V) (u:b_) (Q:St->Hp->Prop),Inv X aa U H s->RelV v u->t v U H Q →
  z_ (m_ X.prog X.w) X.A (PM ig X.env u) (λ_ s'=>∃au H',Inv X aa au H' s'/\Q au H') X.xe s
def PGs(X:Cx)(ts:List L8)(t:TGs):Prop:=
 ∀(aa:List (i_×Obj)) (s:d_) (U:St) (H:Hp) (vs:List V) (us:List b_) (Q:St->Hp->Prop),Inv X aa U H s->Vals vs us->t vs U H Q →
  z_ (m_ X.prog X.w) X.A (assignInOrder ((Nr ts X.env).map (·.2)) us) (λ_ s'=>∃au H',Inv X aa au H' s'/\Q au H') X.xe s
abbrev TSet:=V->V->V->Hp->(Hp->Prop)->Prop
def PSet(X:Cx)(t:TSet):Prop:=
 ∀(aa:List (i_×Obj)) (s:d_) (U:St) (H:Hp) (o i v:V) (ov iv u:b_) (Q:Hp->Prop),Inv X aa U H s->RelV o ov->RelV i iv->RelV v u->t o i v H Q →
  z_ (m_ X.prog X.w) X.A (TK ov iv u) (λ_ s'=>∃H',Inv X aa U H' s'/\Q H') X.xe s
section
variable{X:Cx}
noncomputable def gName(i:Nat):TG:=λv U H Q=>Q (U.set i (some v)) H
theorem Gq{i:Nat}{x:Str}(hN:X.N.Nodup)(hi:X.N[i]?=some x)(hx:Loc X.env.scope x)(hf:X.fn x=true\/X.env.scope.names.lookup x=some .local):PG X (.Name x pos) (gName i):=by
 intro aa s U H v u Q I r h;exact Sl (Am I hN hi hx r (λs' I'=>⟨_,H,I',h⟩) hf)
noncomputable def gNil:TGs:=λvs U H Q=>vs=[]/\Q U H
noncomputable def gCons(t:TG)(u:TGs):TGs:=λvs U H Q=>∃v r,vs=v::r/\t v U H λau H'=>u r au H' Q
theorem FP:PGs X [] gNil:=by
 intro aa s U H vs us Q I r h;obtain⟨e,h⟩:=h;subst e;cases r;exact assignInOrder_nil ⟨U,H,I,h⟩
theorem Kc{es:List L8}{t:TG}{u:TGs}(h1:PG X e t)(h2:PGs X es u)(hs:(Nr (e::es) X.env).map (·.2)=PM e X.env::(Nr es X.env).map (·.2):=by rfl):PGs X (e::es) (gCons t u):=by
 intro aa s U H vs us Q I r h;obtain⟨v,vr,e1,h⟩:=h;subst e1;cases r with
 | cons r rr =>
  rw[hs];refine assignInOrder_cons (thn (h1 aa s U H _ _ _ I r h) λ_ s1 ⟨dN,H1,I1,q1⟩=>?_);exact h2 aa s1 dN H1 _ _ Q I1 rr q1
noncomputable def gTup(K:PySem.W.Frag)(n:Nat)(t:TGs):TG:=λv U H Q=>∃a xs,v=.ref a/\SqT K H a xs/\xs.length=n/\t xs U H Q
theorem IV{es:List L8}{k:Nat}{t:TGs}(hc:X.calm=true)(h:PGs X es t)(hn:(Nr es X.env).length=n:=by rfl)(jE:(Nr es X.env).findIdx? (·.1)=none:=by rfl):PG X (.Tuple es k pos) (gTup X.K n t):=by
 intro aa s U H v u Q I r hw;obtain⟨a,xs,e1,hq,hl,hw⟩:=hw;subst e1;cases r;obtain⟨af,rv,ht,hz⟩:=I.tuple hq;refine assign_Tuple_tuple (I.ok.hd hc) ht (by simp[hn,←hl,rv.length]) jE λh' hx=>?_
 have I1:Inv X aa U H { s with heap:=h' }:=I.kept (t':=s.toks) λb o e=>hx b o (LW (F_ e)) e
 exact h aa _ U H xs _ Q I1 (by simpa using rv) hw
noncomputable def gSub(to ti:TE)(t:TSet):TG:=λv U H Q=>to U H λo H1=>ti U H1 λi H2=>t o i v H2 λH3=>Q U H3
theorem CC{o i:L8}{to ti:TE}{t:TSet}(ho:PE X o to)(hi:PE X i ti)(hs:PSet X t)(ha:∀v,PM (.Subscript o i pos) X.env v=(do
   let ov ←OI [v] (Mm o X.env)
   let iv ←OI [v,ov] (Mm i X.env)
   TH pos
   OI [v,ov,iv] (TK ov iv v)
   release [v,ov,iv] []):=by intros;rfl):PG X (.Subscript o i pos) (gSub to ti t):=by
 intro aa s U H v u Q I r h;rw[ha];refine a_ (LX (thn (ho aa s U H _ I h) λov s1 ⟨x,H1,I1,r1,q1⟩=>?_));refine a_ (LX (thn (hi aa s1 U H1 _ I1 q1) λiv s2 ⟨y,H2,I2,r2,q2⟩=>?_));refine a_ (RX (a_ (LX (thn (hs aa s2 U H2 x y v ov iv u _ I2 r1 r2 r q2) λ_ s3 ⟨H3,I3,q3⟩=>?_))));exact wpAny_release ⟨U,H3,I3,q3⟩
noncomputable def tAsg(te:TE)(g:TG):TS:=λD U H=>te U H λx H1=>g x U H1 D.nx
theorem yL{te:TE}{g:TG}(he:PE X e te)(hg:PG X tg g)(hs:RY [tg] e pos.line X.env=pure false:=by rfl)(hw:RZ [tg] e X.env=pure none:=by rfl)(h1:(Nr [tg] X.env).map (·.2)=[PM tg X.env]:=by rfl):PS X (.Assign [tg] e pos) (tAsg te g):=by
 intro aa s U H D I h;refine wpAny_Assign_stores (thn (he aa s U H _ I h) λv s1 ⟨x,H1,I1,r1,q1⟩=>?_) hs hw;rw[h1];exact thn (hg aa s1 U H1 x v _ I1 r1 q1) λ_ s2 q=>q
theorem xx{i:Nat}{x:Str}{te:TE}(hN:X.N.Nodup)(hi:X.N[i]?=some x)(hx:Loc X.env.scope x)(he:PE X e te)(hs:NO e (some (.Name x aA)) pos.line X.env=pure false:=by rfl)(hf:X.fn x=true\/X.env.scope.names.lookup x=some .local):
  PS X (.Assign [.Name x aA] e pos) (tAsg te (gName i)):=by
 intro aa s U H D I h;refine wpAny_Assign_Name (thn (he aa s U H _ I h) λv s1 ⟨y,H1,I1,r1,q1⟩=>?_) hs;exact Am I1 hN hi hx r1 (λs2 I2=>⟨_,H1,I2,q1⟩) hf
end
structure It where
 go:Nat->Hp->Prop
 yld:Nat->Hp->V->Hp->Prop
 stop:Nat->Hp->Prop
def FpOk(X:Cx)(aa:List (i_×Obj))(H:Hp)(b:i_):Prop:=
 H b=none/\b≠X.env.locals/\b∉X.fs/\(b∈X.ex\/X.s₀.heap.objs.size<=b)/\(∀x c,X.env.cells.lookup x=some c->c≠b)/\∀p∈X.pn++aa,p.1≠b
theorem Inv.fpOk{X:Cx}{U:St}{H H':Hp}{s:d_}{b:i_}(I:Inv X aa U H s)(hb:s.heap.objs.size<=b)(hn:H' b=none):FpOk X aa H' b:=by
 refine⟨hn,Om (H_ I.lt hb),I.nofs hb,.inr (MY I.sz hb),λx c e z=>?_,λp hp z=>?_⟩
 ·obtain⟨v,q⟩:=I.cell x c e;exact absurd (H_ q.lt (by rw[z];exact hb)) (NN _)
 ·exact absurd (H_ (F_ (I.pin p hp).1) (by rw[z];exact hb)) (NN _)
structure Turn(P:B_)(w:J_)(K:PySem.W.Frag)(tg:L8)(J:It)(fp:List i_)(it:i_)(tn:Nat->L4->Prop):Prop where
 mem:it∈fp
 obj:∀i h,tn i h->∀b∈fp,∃o,h.get? b=some o/\∀v,o.data≠.cell v
 keep:∀i h h',tn i h->(∀b∈fp,∀o,h.get? b=some o->h'.get? b=some o)->tn i h'
 item:∀(X:Cx),X.prog=P->X.w=w->X.K=K->X.calm=true->∀(i:Nat) (aa:List (i_×Obj)) (s:d_) (U:St) (H:Hp) (E:b_->d_->Prop),Inv X aa U H s->(∀b∈fp,FpOk X aa H b)->tn i s.heap->J.go i H →
  z_ (m_ P w) X.A (Nx (.ref it)) (λr s1=>∃u,r=some u ∧
   z_ (m_ P w) X.A (Pi tg (.ref it) u) (λ_ s2=>∃x H',Inv X aa U H' s2/\RelV x u/\J.yld i H x H'/\tn (i+1) s2.heap/\∀b∈fp,H' b=none) E s1) E s
 done:∀(X:Cx),X.prog=P->X.w=w->X.K=K->X.calm=true->∀(i:Nat) (aa:List (i_×Obj)) (s:d_) (U:St) (H:Hp) (E:b_->d_->Prop),Inv X aa U H s->(∀b∈fp,FpOk X aa H b)->tn i s.heap->J.stop i H →
  z_ (m_ P w) X.A (Nx (.ref it)) (λr s1=>r=none/\Inv X aa U H s1) E s
 self:∀(A:Ni) (i:Nat) (s:d_) (Q:b_->d_->Prop) (E:b_->d_->Prop),tn i s.heap->Q (.ref it) s->z_ (m_ P w) A (R9 (.ref it)) Q E s
abbrev TI:=St->Hp->(It->Hp->Prop)->Prop
def PIE(X:Cx)(aa:List (i_×Obj))(U:St)(tg:L8)(R:It->Hp->Prop)(ii:b_)(s2:d_):Prop:=
 ∃(it:i_) (fp:List i_) (tn:Nat->L4->Prop) (J:It) (H':Hp),ii=.ref it/\Inv X aa U H' s2/\Turn X.prog X.w X.K tg J fp it tn/\tn 0 s2.heap/\(∀b∈fp,FpOk X aa H' b)/\R J H'
def PI(X:Cx)(tg iter:L8)(wi:TI):Prop:=
 ∀(aa:List (i_×Obj)) (s:d_) (U:St) (H:Hp) (R:It->Hp->Prop),Inv X aa U H s->wi U H R →
  z_ (m_ X.prog X.w) X.A (Mm iter X.env) (λv s1=>z_ (m_ X.prog X.w) X.A (R9 v) (PIE X aa U tg R) X.xe s1) X.xe s
theorem u4{M:Model}{E:b_->d_->Prop}{s:d_}{it:i_}{u:b_}{o:Obj}{n:String}{vs:Array b_}{Q:Unit->d_->Prop}(ho:s.heap.get? it=some o)(hc:o.cls=.type n)(hd:o.data=.fields vs)(hn:["enumerate", "zip", "dict_itemiterator", "dict_reverseitemiterator", "odict_iterator", "itertools.zip_longest", "itertools.pairwise"].contains n=false)(hQ:Q () s):z_ M A (Pi tg (.ref it) u) Q E s:=by
 unfold Pi
 cases tg<;>first
  | exact e_ hQ
  | (cases u<;>first
    | exact e_ hQ
    | (refine a_ (wpAny_load ho ?_)
       rw[hc,hd];show z_ M A (if(["enumerate", "zip", "dict_itemiterator", "dict_reverseitemiterator", "odict_iterator", "itertools.zip_longest", "itertools.pairwise"].contains n&&vs[0]? == some (Nj _))=true then _ else _) Q E s;rw[if_neg (by intro h;rw[hn,Rm] at h;cases h)]
       exact e_ hQ))
noncomputable def Itl(K:PySem.W.Frag)(a:i_):It:=
 ⟨λi H=>∃xs x,SqL K H a xs/\xs[i]?=some x,λi H x H'=>H'=H/\∀xs,SqL K H a xs->xs[i]?=some x,λi H=>∃xs,SqL K H a xs/\xs.length<=i⟩
noncomputable def Itt(K:PySem.W.Frag)(a:i_):It:=
 ⟨λi H=>∃xs x,SqT K H a xs/\xs[i]?=some x,λi H x H'=>H'=H/\∀xs,SqT K H a xs->xs[i]?=some x,λi H=>∃xs,SqT K H a xs/\xs.length<=i⟩
noncomputable def Itr(lo:Int)(n:Nat):It:=⟨λi _=>i < n,λi H x H'=>H'=H/\x=.int (lo+i),λi _=>n<=i⟩
theorem FI{P:B_}{w:J_}{K:PySem.W.Frag}(a it:i_):Turn P w K tg (Itl K a) [it] it (λi h=>h.IsListIter it a i) where
 mem:=by simp
 obj:=λi h st b hb=>by
  have e:b=it:=by simpa using hb
  subst e;obtain⟨o,e,c,d⟩:=st;exact⟨o,e,λv z=>by rw[d] at z;cases z⟩
 keep:=λi h h' st k=>st.at λo e=>k it (by simp) o e
 item:=by
  intro X hP hw hK hc i aa s U H E I hf st hg;subst hP hw hK;obtain⟨xs,x,hq,hx⟩:=hg;obtain⟨af,rv,p,hz⟩:=I.list hq;obtain⟨u,hu,ru⟩:=rv.get hx;obtain⟨f0,f1,f2,f3,f4,f5⟩:=hf it (by simp);refine wpAny_pyNext_list_item st p.isList (x:=u) (by simpa using hu) λh' ag sb=>?_
  have I1:Inv X aa U H { s with heap:=h' }:=I.turned (t':=s.toks) (λb o hb e=>(sb.2 b hb).trans e) f0 f1 f3 f4 f5;obtain⟨o,e,c,d⟩:=id ag;exact⟨u,rfl,u4 (s:={ s with heap:=h' }) e c d (by decide) ⟨x,H,I1,ru,⟨rfl,λys hy=>by rw[I.list_inj hy hq];exact hx⟩,ag,λb hb=>(hf b hb).1⟩⟩
 done:=by
  intro X hP hw hK hc i aa s U H E I hf st hg;subst hP hw hK;obtain⟨xs,hq,hx⟩:=hg;obtain⟨af,rv,p,hz⟩:=I.list hq;obtain⟨f0,f1,f2,f3,f4,f5⟩:=hf it (by simp);have hl:=rv.length;exact wpAny_pyNext_list_end (I.ok.hd hc) st p.isList (by simp;omega) λh' eb=>⟨rfl,I.turned (t':=s.toks) (λb o hb e=>eb b o hb e) f0 f1 f3 f4 f5⟩
 self:=λ_ _ _ _ _ st h=>wpAny_pyIter_listiter st h
theorem HP{P:B_}{w:J_}{K:PySem.W.Frag}(a it:i_):Turn P w K tg (Itt K a) [it] it (λi h=>h.IsTupleIter it a i) where
 mem:=by simp
 obj:=λi h st b hb=>by
  have e:b=it:=by simpa using hb
  subst e;obtain⟨o,e,c,d⟩:=st;exact⟨o,e,λv z=>by rw[d] at z;cases z⟩
 keep:=λi h h' st k=>st.at λo e=>k it (by simp) o e
 item:=by
  intro X hP hw hK hc i aa s U H E I hf st hg;subst hP hw hK;obtain⟨xs,x,hq,hx⟩:=hg;obtain⟨af,rv,p,hz⟩:=I.tuple hq;obtain⟨u,hu,ru⟩:=rv.get hx;obtain⟨f0,f1,f2,f3,f4,f5⟩:=hf it (by simp);refine wpAny_pyNext_tuple_item st (show s.heap.IsTuple a af.toArray from p) (x:=u) (by simpa using hu) λh' ag sb=>?_
  have I1:Inv X aa U H { s with heap:=h' }:=I.turned (t':=s.toks) (λb o hb e=>(sb.2 b hb).trans e) f0 f1 f3 f4 f5;obtain⟨o,e,c,d⟩:=id ag;exact⟨u,rfl,u4 (s:={ s with heap:=h' }) e c d (by decide) ⟨x,H,I1,ru,⟨rfl,λys hy=>by rw[I.tuple_inj hy hq];exact hx⟩,ag,λb hb=>(hf b hb).1⟩⟩
 done:=by
  intro X hP hw hK hc i aa s U H E I hf st hg;subst hP hw hK;obtain⟨xs,hq,hx⟩:=hg;obtain⟨af,rv,p,hz⟩:=I.tuple hq;obtain⟨f0,f1,f2,f3,f4,f5⟩:=hf it (by simp);have hl:=rv.length;exact wpAny_pyNext_tuple_end (I.ok.hd hc) st (show s.heap.IsTuple a af.toArray from p) (by simp;omega) λh' eb=>⟨rfl,I.turned (t':=s.toks) (λb o hb e=>eb b o hb e) f0 f1 f3 f4 f5⟩
 self:=λ_ _ _ _ _ st h=>wpAny_pyIter_tupleiter st h
theorem CT{P:B_}{w:J_}{K:PySem.W.Frag}(it:i_)(lo:Int)(n:Nat):Turn P w K tg (Itr lo n) [it] it (λi h=>IsRangeIter h it (lo+(i:Nat)*1) ((n:Int) - (i:Nat)) 1) where
 mem:=by simp
 obj:=λi h st b hb=>by
  have e:b=it:=by simpa using hb
  subst e
  exact⟨_,st,λv z=>by
   have z':fields _=RK v:=z
   cases z'⟩
 keep:=λi h h' st k=>k it (by simp) _ st
 item:=by
  intro X hP hw hK hc i aa s U H E I hf st hg;subst hP hw hK;obtain⟨f0,f1,f2,f3,f4,f5⟩:=hf it (by simp);have W:=SU.range (prog:=X.prog) (w:=X.w) (I.ok.hd hc) it lo 1 n;refine W.item i s _ _ hg st λv h' tk hv ag kk=>?_
  obtain⟨t,rfl⟩:=hv;have I1:Inv X aa U H { s with heap:=h',toks:=tk }:=I.turned (λb o hb e=>kk b o (by simpa using hb) e) f0 f1 f3 f4 f5;refine⟨_,rfl,u4 (s:={ s with heap:=h',toks:=tk }) (n:= "range_iterator") ag rfl rfl (by decide) ⟨.int (lo+i),H,I1,⟨t,?_⟩,⟨rfl,rfl⟩,ag,λb hb=>(hf b hb).1⟩⟩;rw[Int.mul_one]
 done:=by
  intro X hP hw hK hc i aa s U H E I hf st hg;subst hP hw hK;obtain⟨f0,f1,f2,f3,f4,f5⟩:=hf it (by simp);exact wpAny_pyNext_range_end (I.ok.hd hc) st (by have:n<=i:=hg;omega) λh' eb=>⟨rfl,I.turned (t':=s.toks) (λb o hb e=>eb b o hb e) f0 f1 f3 f4 f5⟩
 self:=λ_ _ _ _ _ st h=>wpAny_pyIter_rangeiter st h
section
variable{X:Cx}
theorem BC{U:St}{H:Hp}{s:d_}{R:It->Hp->Prop}{E:b_->d_->Prop}{lo hi:Int}{t u v:Tok}(I:Inv X aa U H s)(h1:-(2 ^ 62)<=lo)(h2:lo < 2 ^ 62)(h3:-(2 ^ 62)<=hi)(h4:hi < 2 ^ 62)(q:R (Itr lo (hi - lo).toNat) H):z_ (m_ X.prog X.w) X.A (R9 (.ref s.heap.objs.size)) (PIE X aa U tg R) E { s with heap:=s.heap.push { cls:=.type "range", data:=.fields #[.int lo t,.int hi u,.int 1 v] },toks:=tk }:=by
 refine wpAny_pyIter_range (IsRange.new ..) (small_one h1 h2 h3 h4) ?_;have I1:Inv X aa U H { s with heap:=s.heap.push { cls:=.type "range", data:=.fields #[.int lo t,.int hi u,.int 1 v] },toks:=tk }:=I.kept λb o e=>c_ _ e
 refine⟨(s.heap.push { cls:=.type "range", data:=.fields #[.int lo t,.int hi u,.int 1 v] }).objs.size,[(s.heap.push { cls:=.type "range", data:=.fields #[.int lo t,.int hi u,.int 1 v] }).objs.size],_,_,H,rfl,
  I1.kept (t':=tk) λb o e=>c_ _ e,CT _ lo (hi - lo).toNat,?_,λb hb=>?_,q⟩
 ·have e1:lo+((0:Nat):Int)*1=lo:=by simp
  have e2:(((hi - lo).toNat:Nat):Int) - ((0:Nat):Int)=rangeSize lo hi 1:=by rw[rangeSize_one];split<;>omega
  show IsRangeIter _ _ (lo+((0:Nat):Int)*1) ((((hi - lo).toNat:Nat):Int) - ((0:Nat):Int)) 1;rw[e1,e2];exact s_ _ rfl
 ·have e:b=(s.heap.push { cls:=.type "range", data:=.fields #[.int lo t,.int hi u,.int 1 v] }).objs.size:=by simpa using hb
  subst e;exact I1.fpOk (A_ _) (I1.hok.fresh (A_ _))
noncomputable def iRng1(ta:TA):TI:=λU H R=>ta U H λvs H1=>∃j:Int,vs=[.int j]/\-(2 ^ 62)<=j/\j < 2 ^ 62/\R (Itr 0 j.toNat) H1
noncomputable def iRng2(ta:TA):TI:=λU H R=>ta U H λvs H1=>∃i j:Int,vs=[.int i,.int j]/\(-(2 ^ 62)<=i/\i < 2 ^ 62/\-(2 ^ 62)<=j/\j < 2 ^ 62)/\R (Itr i (j - i).toNat) H1
theorem Ge{a:L8}{ta:TA}{p:Pos}(hg:Gl X "range")(hm:X.mg "range"=none)(ha:PA X [a] ta)(hs:f_ [a] X.env=[(false,Mm a X.env)]:=by rfl):PI X tg (.Call (.Name "range" p) [a] [] pos) (iRng1 ta):=by
 intro aa s U H R I h;refine Tb (rC I hg hm Tc (LZ (thn (ha pos aa s U H _ I h) λus s1 ⟨vs,H1,I1,r1,q1⟩=>?_) hs rfl));obtain⟨j,e,q1,q2,q⟩:=q1;subst e;cases r1 with
 | cons r rr =>
  cases rr;obtain⟨t,rfl⟩:=r;exact call_range_1 (BC I1 (by omega) (by omega) q1 q2 (by simpa using q))
theorem CN{a b:L8}{ta:TA}{p:Pos}(hg:Gl X "range")(hm:X.mg "range"=none)(ha:PA X [a,b] ta)(hs:f_ [a,b] X.env=[(false,Mm a X.env),(false,Mm b X.env)]:=by rfl)(bO:f_ [b] X.env=[(false,Mm b X.env)]:=by rfl):
  PI X tg (.Call (.Name "range" p) [a,b] [] pos) (iRng2 ta):=by
 intro aa s U H R I h;refine Tb (rC I hg hm Tc (LZ (thn (ha pos aa s U H _ I h) λus s1 ⟨vs,H1,I1,r1,q1⟩=>?_) (by rw[hs,bO]) (by rw[bO];rfl)));obtain⟨i,j,e,⟨q1,q2,q3,q4⟩,q⟩:=q1;subst e;cases r1 with
 | cons r rr =>
  cases rr with
  | cons r' rr =>
   cases rr;obtain⟨t,rfl⟩:=r;obtain⟨t',rfl⟩:=r';exact call_range_2 (BC I1 q1 q2 q3 q4 q)
noncomputable def tFor(wi:TI)(g:TG)(tb:TS):TS:=λD U H=>wi U H λJ H1=>∃W:Nat->Nat->St->Hp->Prop,(∃m,W 0 m U H1)/\∀i m U H,W i m U H →
 (J.stop i H/\D.nx U H)\/(J.go i H/\∃N:St->Hp->Prop,(∀au H',N au H'->∃m',m' < m/\W (i+1) m' au H')/\∀x H',J.yld i H x H'->g x U H' λba H2=>tb { D with nx:=N,ct:=N,bk:=D.nx } ba H2)
noncomputable def pinsAt(fp:List i_)(h:L4):List (i_×Obj):=fp.filterMap λb=>(h.get? b).map λo=>(b,o)
theorem uV{b:i_}{o:Obj}(hb:b∈fp)(e:h.get? b=some o):(b,o)∈pinsAt fp h:=PN.mpr ⟨b,hb,by rw[e];rfl⟩
theorem DB{p:i_×Obj}(hp:p∈pinsAt fp h):p.1∈fp/\h.get? p.1=some p.2:=by
 obtain⟨b,hb,e⟩:=PN.mp hp;cases q:h.get? b with
 | none=>rw[q] at e;cases e
 | some o =>
  rw[q] at e;have e':(b,o)=p:=L0 e;subst e';exact⟨hb,q⟩
theorem Inv.pinned{U:St}{H:Hp}{s:d_}(I:Inv X aa U H s)(hf:∀b∈fp,FpOk X aa H b)(ho:∀b∈fp,∃o,s.heap.get? b=some o/\∀v,o.data≠.cell v):Inv X (aa++pinsAt fp s.heap) U H s:=
 I.pins_of λp hp=>(Mc.mp hp).elim (λz=>I.pin p (Mv _ z)) λz=>by
  obtain⟨hb,e⟩:=DB z;obtain⟨f0,f1,f2,_⟩:=hf p.1 hb;obtain⟨o,e',d⟩:=ho p.1 hb;rw[e] at e';cases e';exact⟨e,f0,f1,f2,d⟩
theorem Inv.unpinned{pl:List (i_×Obj)}{U:St}{H:Hp}{s:d_}(I:Inv X (aa++pl) U H s):Inv X aa U H s:=I.pins_of λp hp=>I.pin p (Mv _ (Ph _ hp))
theorem Im{body:List Nc}{wi:TI}{g:TG}{tb:TS}(hp:PassesOwn (m_ X.prog X.w) X.A X.env X.xe)(hc:X.calm=true)(hi:PI X tg iter wi)(hg:PG X tg g)(hb:PSs X body tb)(hs:∀x,Nd iter X.env x=pure x:=by intros;rfl):PS X (.For tg iter body [] pos) (tFor wi g tb):=by
 intro aa s U H D I h;refine wpAny_For (thn (hi aa s U H _ I h) λv s1 h1=>thn h1 λii s2 h2=>?_) hs;obtain⟨it,fp,tn,J,H2,e,I2,T,bP,f2,W,⟨m0,w0⟩,turn⟩:=h2;subst e
 -- what stays true of the iterator's objects through the aX
 have cZ:∀{H':Hp},(∀b∈fp,H' b=none)->∀b∈fp,FpOk X aa H' b:=λhn b hb=>⟨hn b hb,(f2 b hb).2⟩
 refine codeAny_forLoop_any (λn s'=>∃i au H',Inv X aa au H' s'/\tn i s'.heap/\(∀b∈fp,H' b=none)/\W i n au H') ?_ m0 ⟨0,U,H2,I2,bP,λb hb=>(f2 b hb).1,w0⟩;rintro n s3 ⟨i,fZ,H3,I3,cS,k7,w3⟩
 rcases turn i n fZ H3 w3 with⟨stop,qn⟩ | ⟨go,N,hN,step⟩
 ·refine Ov hp (thn (T.done X rfl rfl rfl hc i aa s3 fZ H3 X.xe I3 (cZ k7) cS stop) λr s4 ⟨hr,I4⟩=>?_);subst hr;exact Rb ⟨fZ,H3,I4,qn⟩
 ·refine Ov hp (thn (T.item X rfl rfl rfl hc i aa s3 fZ H3 X.xe I3 (cZ k7) cS go) λr s4 ⟨u,hr,h4⟩=>?_);subst hr;refine Ov hp (thn h4 λ_ s5 ⟨x,H5,I5,r5,y5,fH,ik⟩=>?_);have nM:=I5.pinned (cZ ik) (T.obj _ _ fH);refine Ov hp (thn (hg _ s5 fZ H5 x u _ nM r5 (step x H5 y5)) λ_ s6 ⟨nN,H6,I6,q6⟩=>?_);refine Ov hp (thn (hb _ s6 nN H6 _ I6 q6) λf s7 q7=>?_)
  have Sm:∀{c6:St}{H7:Hp},Inv X (aa++pinsAt fp s5.heap) c6 H7 s7->N c6 H7->∃m,m < n/\∃i au H',Inv X aa au H' s7/\tn i s7.heap/\(∀b∈fp,H' b=none)/\W i m au H':=λ{c6 H7} I7 n7=>by
   obtain⟨m',hm,w7⟩:=hN c6 H7 n7;refine⟨m',hm,i+1,c6,H7,I7.unpinned,T.keep _ _ _ fH λb hb o e=>(I7.pin (b,o) (Mv _ (Mv _ (uV hb e)))).1,λb hb=>?_,w7⟩;obtain⟨o,e,d⟩:=T.obj _ _ fH b hb;exact(I7.pin (b,o) (Mv _ (Mv _ (uV hb e)))).2.1
  cases f with
  | next=>obtain⟨c6,H7,I7,n7⟩:=q7;exact Sm I7 n7
  | cont=>obtain⟨c6,H7,I7,n7⟩:=q7;exact Sm I7 n7
  | brk=>obtain⟨c6,H7,I7,q7⟩:=q7;exact⟨c6,H7,I7.unpinned,q7⟩
  | ret v=>obtain⟨x7,c6,H7,I7,r7,q7⟩:=q7;exact⟨x7,c6,H7,I7.unpinned,r7,q7⟩
end
abbrev R2:=V->V->Hp->VK->Prop
def OpR(X:Cx)(f:b_->b_->Sem b_)(r:R2):Prop:=
 ∀(aa:List (i_×Obj)) (s:d_) (U:St) (H:Hp) (x y:V) (v u:b_) (Q:VK),Inv X aa U H s->RelV x v->RelV y u->r x y H Q →
  z_ (m_ X.prog X.w) X.A (f v u) (EP X aa U Q) X.xe s
def UnR(X:Cx)(f:b_->Sem b_)(r:V->Hp->VK->Prop):Prop:=
 ∀(aa:List (i_×Obj)) (s:d_) (U:St) (H:Hp) (x:V) (v:b_) (Q:VK),Inv X aa U H s->RelV x v->r x H Q →
  z_ (m_ X.prog X.w) X.A (f v) (EP X aa U Q) X.xe s
def CallR(X:Cx)(f:b_)(r:List V->Hp->VK->Prop):Prop:=
 ∀(aa:List (i_×Obj)) (s:d_) (U:St) (H:Hp) (xs:List V) (us:List b_) (Q:VK),Inv X aa U H s->Vals xs us->r xs H Q →
  z_ (m_ X.prog X.w) X.A (call f us) (EP X aa U Q) X.xe s
noncomputable def tOp(r:R2)(ta tb:TE):TE:=λU H Q=>ta U H λx H1=>tb U H1 λy H2=>r x y H2 Q
noncomputable def tUn(r:V->Hp->VK->Prop)(ta:TE):TE:=λU H Q=>ta U H λx H1=>r x H1 Q
noncomputable def rI(C:Int->Int->Prop)(g:Int->Int->V):R2:=λx y H Q=>∃i j,x=.int i/\y=.int j/\C i j/\Q (g i j) H
noncomputable def rI0(g:Int->Int->V):R2:=λx y H Q=>∃i j,x=.int i/\y=.int j/\Q (g i j) H
def rU(g:Int->V):V->Hp->VK->Prop:=λx H Q=>∃i,x=.int i/\Q (g i) H
section
variable{X:Cx}{a b c:L8}{ta tb tc:TE}
theorem binT(ha:PE X a ta)(hb:PE X b tb){s:d_}{U:St}{H:Hp}{R:V->V->Hp->Prop}(I:Inv X aa U H s)(h:ta U H λx H1=>tb U H1 λy H2=>R x y H2){Q:b_->d_->Prop}{f:b_->b_->Sem b_}(hf:∀v u s2 x y H2,Inv X aa U H2 s2->RelV x v->RelV y u->R x y H2->z_ (m_ X.prog X.w) X.A (f v u) Q X.xe s2):
  z_ (m_ X.prog X.w) X.A (Mm a X.env) (λv aw=>z_ (m_ X.prog X.w) X.A (Mm b X.env) (λu cY=>z_ (m_ X.prog X.w) X.A (f v u) Q X.xe cY) X.xe aw) X.xe s:=by
 refine thn (ha aa s U H _ I h) λv s1 ⟨x,H1,I1,r1,q1⟩=>?_
 refine thn (hb aa s1 U H1 _ I1 q1) λu s2 ⟨y,H2,I2,r2,q2⟩=>?_
 exact hf v u s2 x y H2 I2 r1 r2 q2
theorem Bi{op:Operator}{r:R2}(ho:OpR X (NP op) r)(ha:PE X a ta)(hb:PE X b tb):PE X (.BinOp a op b pos) (tOp r ta tb):=by
 intro aa s U H Q I h;exact wpAny_BinOp (binT ha hb I h λv u s2 x y H2 I2 rx ry q=>ho aa s2 U H2 x y v u Q I2 rx ry q)
theorem FZ{op:UnaryOp}{r:V->Hp->VK->Prop}(ho:UnR X (unaryOp op) r)(ha:PE X a ta):PE X (.UnaryOp op a pos) (tUn r ta):=by
 intro aa s U H Q I h;exact UnaryOp_ (thn (ha aa s U H _ I h) λv s1 ⟨x,H1,I1,r1,q1⟩=>ho aa s1 U H1 x v Q I1 r1 q1)
theorem opI{f:b_->b_->Sem b_}{C:Int->Int->Prop}{g:Int->Int->Int}(Sn:∀(i j:Int) (t u:Tok) (s:d_) (Q:b_->d_->Prop) (E:b_->d_->Prop),C i j->Q (.int (g i j) s.toks) { s with toks:=s.toks+1 }->z_ (m_ X.prog X.w) X.A (f (.int i t) (.int j u)) Q E s):
  OpR X f (rI C λi j=>.int (g i j)):=by
 intro aa s U H x y v u Q I rx ry h;obtain⟨i,j,rfl,rfl,hc,q⟩:=h;obtain⟨t,rfl⟩:=rx;obtain⟨t',rfl⟩:=ry;exact Sn i j t t' s _ _ hc ⟨.int (g i j),H,I.tok _,⟨_,rfl⟩,q⟩
theorem opI0{f:b_->b_->Sem b_}{g:Int->Int->Int}(Sn:∀(i j:Int) (t u:Tok) (s:d_) (Q:b_->d_->Prop) (E:b_->d_->Prop),Q (.int (g i j) s.toks) { s with toks:=s.toks+1 }->z_ (m_ X.prog X.w) X.A (f (.int i t) (.int j u)) Q E s):
  OpR X f (rI0 λi j=>.int (g i j)):=by
 intro aa s U H x y v u Q I rx ry h;obtain⟨i,j,rfl,rfl,q⟩:=h;obtain⟨t,rfl⟩:=rx;obtain⟨t',rfl⟩:=ry;exact Sn i j t t' s _ _ ⟨.int (g i j),H,I.tok _,⟨_,rfl⟩,q⟩
theorem opB0{f:b_->b_->Sem b_}{g:Int->Int->Bool}(Sn:∀(i j:Int) (t u:Tok) (s:d_) (Q:b_->d_->Prop) (E:b_->d_->Prop),Q (.bool (g i j)) s->z_ (m_ X.prog X.w) X.A (f (.int i t) (.int j u)) Q E s):
  OpR X f (rI0 λi j=>.bl (g i j)):=by
 intro aa s U H x y v u Q I rx ry h;obtain⟨i,j,rfl,rfl,q⟩:=h;obtain⟨t,rfl⟩:=rx;obtain⟨t',rfl⟩:=ry;exact Sn i j t t' s _ _ ⟨.bl (g i j),H,I,rfl,q⟩
def CPow(i j:Int):Prop:=0<=j/\j<=1000000/\i.natAbs < 2 ^ 64
def CMul(i j:Int):Prop:=(-(2 ^ 64) < i/\i < 2 ^ 64)\/(-(2 ^ 64) < j/\j < 2 ^ 64)
theorem CMul.ok{i j:Int}(h:CMul i j):IntMulOk i j:=by
 rcases h with⟨h1,h2⟩ | ⟨h1,h2⟩
 ·exact .of_left (intBits_le_64 h1 h2)
 ·exact .of_right (intBits_le_64 h1 h2)
theorem FU:OpR X (NP .Add) (rI0 λi j=>.int (i+j)):=opI0 λ_ _ _ _ _ _ _ q=>add_int q
theorem FK:OpR X (NP .Sub) (rI0 λi j=>.int (i - j)):=opI0 λ_ _ _ _ _ _ _ q=>sub_int q
theorem Fu:OpR X (NP .Mult) (rI CMul λi j=>.int (i*j)):=opI λ_ _ _ _ _ _ _ hc q=>mul_int q hc.ok
theorem Ht:OpR X (NP .Mod) (rI (λ_ j=>0 < j) λi j=>.int (i % j)):=opI λi j _ _ _ _ _ hc q=>by
 have h1:(0:Int) < j:=hc;exact mod_int' (by omega) (by rw[Int.fmod_eq_emod_of_nonneg i (by omega)];exact q)
theorem DF:OpR X (NP .Pow) (rI CPow λi j=>.int (i ^ j.toNat)):=opI λ_ _ _ _ _ _ _ hc q=>pow_int_small hc.1 hc.2.1 hc.2.2 q
theorem unI{f:b_->Sem b_}{g:Int->Int}(Sn:∀(i:Int) (t:Tok) (s:d_) (Q:b_->d_->Prop) (E:b_->d_->Prop),Q (.int (g i) s.toks) { s with toks:=s.toks+1 }->z_ (m_ X.prog X.w) X.A (f (.int i t)) Q E s):
  UnR X f (rU λi=>.int (g i)):=by
 intro aa s U H x v Q I rx h;obtain⟨i,rfl,q⟩:=h;obtain⟨t,rfl⟩:=rx;exact Sn i t s _ _ ⟨.int (g i),H,I.tok _,⟨_,rfl⟩,q⟩
theorem Gc:UnR X (unaryOp .USub) (rU λi=>.int (-i)):=unI λ_ _ _ _ _ q=>neg_int q
end
section
variable{X:Cx}{a b c:L8}{ta tb tc:TE}
theorem y6{U:St}{H:Hp}{s:d_}{Q:VK}{k k':Bool}(I:Inv X aa U H s)(q:Q (.bl k) H)(e:k=k'):EP X aa U Q (.bool k') s:=by
 subst e;exact⟨.bl k,H,I,rfl,q⟩
theorem xz:OpR X (MS .Lt) (rI0 λi j=>.bl (decide (i < j))):=opB0 λ_ _ _ _ _ _ _ q=>lt_int q
theorem Dt:OpR X (MS .LtE) (rI0 λi j=>.bl (decide (i<=j))):=opB0 λ_ _ _ _ _ _ _ q=>le_int q
theorem Hu:OpR X (MS .Gt) (rI0 λi j=>.bl (decide (j < i))):=opB0 λ_ _ _ _ _ _ _ q=>gt_int q
theorem BE:OpR X (MS .GtE) (rI0 λi j=>.bl (decide (j<=i))):=opB0 λ_ _ _ _ _ _ _ q=>ge_int q
theorem F4:OpR X (MS .Is) (λx y H Q=>y=.non/\Q (.bl (decide (x=.non))) H):=by
 intro aa s U H x y v u Q I rx ry h;obtain⟨rfl,q⟩:=h;cases ry;refine is_none_gen (y6 I q ?_)
 cases x<;>first
  | (cases rx;rfl)
  | (obtain⟨t,rfl⟩:=rx;rfl)
theorem Hq:OpR X (MS .IsNot) (λx y H Q=>y=.non/\Q (.bl (!decide (x=.non))) H):=by
 intro aa s U H x y v u Q I rx ry h;obtain⟨rfl,q⟩:=h;cases ry;refine isnot_none_gen (y6 I q ?_)
 cases x<;>first
  | (cases rx;rfl)
  | (obtain⟨t,rfl⟩:=rx;rfl)
theorem OpR.or{f:b_->b_->Sem b_}{r r':R2}(h:OpR X f r)(h':OpR X f r'):OpR X f (λx y H Q=>r x y H Q\/r' x y H Q):=by
 intro aa s U H x y v u Q I rx ry q
 rcases q with q | q
 ·exact h aa s U H x y v u Q I rx ry q
 ·exact h' aa s U H x y v u Q I rx ry q
theorem nomark(b:L8)(h:op≠.In:=by decide)(h2:op≠.NotIn:=by decide):Nm op b=false:=by
 have e1:(op == CmpOp.In)=false:=by cases op<;>first | rfl | exact absurd rfl h
 have e2:(op == CmpOp.NotIn)=false:=by cases op<;>first | rfl | exact absurd rfl h2
 cases b<;>simp[Nm,e1,e2]
theorem Hd{r:R2}(ho:OpR X (MS op) r)(ha:PE X a ta)(hb:PE X b tb)(hm:Nm op b=false):PE X (.Compare a [op] [b] pos) (tOp r ta tb):=by
 intro aa s U H Q I h;exact wpAny_Compare1 (binT ha hb I h λv u s2 x y H2 I2 rx ry q=>ho aa s2 U H2 x y v u Q I2 rx ry q) hm
noncomputable def tTest(t:TE):TT:=λU H Q=>t U H λx H'=>∃k,x=.bl k/\Q k H'
theorem Bv{r:R2}(ho:OpR X (MS op) r)(ha:PE X a ta)(hb:PE X b tb)(hm:Nm op b=false):PT X (.Compare a [op] [b] pos) (tTest (tOp r ta tb)):=by
 intro aa s U H Q I h
 refine Rh (thn (ha aa s U H _ I h) λv s1 ⟨x,H1,I1,r1,q1⟩=>thn (hb aa s1 U H1 _ I1 q1) λu s2 ⟨y,H2,I2,r2,q2⟩ =>
  thn (ho aa s2 U H2 x y v u _ I2 r1 r2 q2) λc s3 ⟨z,H3,I3,r3,k,e,q3⟩=>?_) hm
 subst e;cases r3;exact Mx ⟨H3,I3,q3⟩
theorem line63:(v_:Nat) < 2 ^ 63:=by rw[Mq];decide
theorem DZ:OpR X (NP .Add) (λx y H Q=>∃i j,x=.str i/\y=.str j/\i.length+j.length<=v_/\Q (.str (i++j)) H):=by
 intro aa s U H x y v u Q I rx ry h;obtain⟨i,j,rfl,rfl,hz,q⟩:=h;obtain⟨t,rfl⟩:=rx;obtain⟨t',rfl⟩:=ry;exact add_str (λt' tk=>⟨.str (i++j),H,I.tok _,⟨_,rfl⟩,q⟩) hz
theorem vals1{x:V}(r:Vals [x] us):∃u,us=[u]/\RelV x u:=by
 cases r with
 | cons r1 r2=>cases r2;exact⟨_,rfl,r1⟩
theorem vals2{x y:V}(r:Vals [x,y] us):∃u w',us=[u,w']/\RelV x u/\RelV y w':=by
 cases r with
 | cons r1 r2 =>
  cases r2 with
  | cons r3 r4=>cases r4;exact⟨_,_,rfl,r1,r3⟩
theorem Iv(hc:X.calm=true):CallR X (.builtin "max") (λxs H Q=>∃i j,xs=[.int i,.int j]/\Q (.int (if j > i then j else i)) H):=by
 intro aa s U H xs us Q I r h;obtain⟨i,j,rfl,q⟩:=h;obtain⟨u,w',rfl,⟨t,rfl⟩,⟨t',rfl⟩⟩:=vals2 r;refine max_two_ints (I.ok.hd hc) λh' tk k=>⟨_,H,I.kept k,?_,q⟩
 by_cases hj:j > i
 ·rw[if_pos hj,if_pos hj];exact⟨_,rfl⟩
 ·rw[if_neg hj,if_neg hj];exact⟨_,rfl⟩
theorem Er(hc:X.calm=true):CallR X (.builtin "min") (λxs H Q=>∃i j,xs=[.int i,.int j]/\Q (.int (if j < i then j else i)) H):=by
 intro aa s U H xs us Q I r h;obtain⟨i,j,rfl,q⟩:=h;obtain⟨u,w',rfl,⟨t,rfl⟩,⟨t',rfl⟩⟩:=vals2 r;refine min_two_ints (I.ok.hd hc) λh' tk k=>⟨_,H,I.kept k,?_,q⟩
 by_cases hj:j < i
 ·rw[if_pos hj,if_pos hj];exact⟨_,rfl⟩
 ·rw[if_neg hj,if_neg hj];exact⟨_,rfl⟩
end
structure Room(k:Nat)(A:Ni):Prop where
 hd:A.handled=none
 dp:A.depth+3*k+5 < Ro
 un:A.units+16*k+200 < NQ
 gd:A.guards=some []
theorem Room.mono{k:Nat}(r:Room k A)(h:j<=k):Room j A:=⟨r.hd,by have:=r.dp;omega,by have:=r.un;omega,r.gd⟩
theorem Room.deeper{k:Nat}(r:Room (k+1) A)(env:Env):Room k (A.deeper env):=
 ⟨r.hd,by have:=r.dp;show A.depth+1+3*k+5 < _;omega,by have:=r.un;show A.units+3+16*k+200 < _;omega,r.gd⟩
theorem Room.in1{k:Nat}(r:Room (k+1) A):Room k A.in1:=
 ⟨r.hd,by have:=r.dp;show A.depth+3*k+5 < _;omega,by have:=r.un;show A.units+1+16*k+200 < _;omega,r.gd⟩
theorem Room.depth{k:Nat}(r:Room k A):A.depth < Ro:=by have:=r.dp;omega
theorem Room.units{k:Nat}(r:Room k A):A.units+64 < NQ:=by have:=r.un;omega
noncomputable def tNil:TA:=λ_ H Q=>Q [] H
noncomputable def tCons(ta:TE)(tr:TA):TA:=λU H Q=>ta U H λx H1=>tr U H1 λxs H2=>Q (x::xs) H2
section
variable{X:Cx}{es:List L8}{te:TE}{t:TA}
theorem vG:PA X [] tNil:=λ_ _ _ _ H Q I h=>NA ⟨[],H,I,.nil,h⟩
theorem tH(ha:PE X e te)(hr:PA X es t)(hs:f_ (e::es) X.env=(false,Mm e X.env)::f_ es X.env:=by rfl):PA X (e::es) (tCons te t):=by
 intro pos aa s U H Q I h;rw[hs];show z_ _ _ (spliced ((false,Mm e X.env)::Mp pos (f_ es X.env))) _ _ s;refine Nt (thn (ha aa s U H _ I h) λu s1 ⟨x,H1,I1,r1,q1⟩=>?_);exact thn (hr pos aa s1 U H1 _ I1 q1) λus s2 ⟨xs,H2,I2,r2,q2⟩=>⟨x::xs,H2,I2,.cons r1 r2,q2⟩
noncomputable def tTup(t:TA):TE:=λU H Q=>t U H λxs H1=>xs.length<=v_/\∀p,H1 p=none->Q (.ref p) (upd H1 p (.tup xs))
noncomputable def tLst(t:TA):TE:=λU H Q=>t U H λxs H1=>xs.length<=v_/\∀p,H1 p=none->Q (.ref p) (upd H1 p (.lst xs))
theorem El{x1}(h:PA X es t):PE X (.Tuple es x1 pos) (tTup t):=by
 intro aa s U H Q I hq;refine wpAny_Tuple_spliced (thn (h pos aa s U H _ I hq) λus s1 ⟨xs,H1,I1,r,z,q⟩=>⟨by rw[←r.length];exact z,?_⟩);have hf:H1 s1.heap.objs.size=none:=I1.hok.fresh (A_ _);refine⟨.ref s1.heap.objs.size,upd H1 s1.heap.objs.size (.tup xs),I1.laid (t':=s1.toks) (λb u e=>c_ _ e) (A_ _) ?_,rfl,q _ hf⟩;exact⟨z,us,r,⟨_,s_ _ rfl,rfl,_,rfl⟩⟩
theorem Jg(h:PA X es t):PE X (.List es pos) (tLst t):=by
 intro aa s U H Q I hq;refine wpAny_List_spliced (thn (h pos aa s U H _ I hq) λus s1 ⟨xs,H1,I1,r,z,q⟩=>⟨by rw[←r.length];exact z,?_⟩);have hf:H1 s1.heap.objs.size=none:=I1.hok.fresh (A_ _);refine⟨.ref s1.heap.objs.size,upd H1 s1.heap.objs.size (.lst xs),I1.laid (t':=s1.toks) (λb u e=>c_ _ e) (A_ _) ?_,rfl,q _ hf⟩;exact⟨z,us,0,r,s_ _ rfl⟩
end
abbrev Sp:=List V->Hp->VK->XK->Prop
abbrev CXT:=List Env->Hp->d_->XK->b_->d_->Prop
structure Env0(P:B_)(w:J_)(K:PySem.W.Frag)(mg:Str->Option b_)(base:L4)(A:Ni)(outer:List Env)(s:d_)(H:Hp):Prop where
 frames:A.frames=some outer
 mod:Mod K mg base
 bs:∀b o,base.get? b=some o->s.heap.get? b=some o/\H b=none
 bsz:base.objs.size<=s.heap.objs.size
 funs:s.heap.FunFrames base outer
 frf:∀b∈frs outer,H b=none
 hok:HOk P w H s.heap
 bare:P5 s.gens
 tb:TabsOk K H
def CE(outer:List Env)(P:B_)(w:J_)(H:Hp)(s:d_)(Q:VK)(u:b_)(s':d_):Prop:=
 ∃v H',s'.os=s.os/\P5 s'.gens/\Un (frs outer) [] H H' s.heap s'.heap/\HOk P w H' s'.heap/\RelV v u/\Q v H'
def CR(CX:CXT)(outer:List Env)(P:B_)(w:J_)(H:Hp)(s:d_)(Q:VK)(E:XK)(r:SO)(s':d_):Prop:=
 match r with
 | .ok (.ret u)=>CE outer P w H s Q u s'
 | .ok _=>False
 | .error e=>CX outer H s E e s'
structure FnOk(P:B_)(w:J_)(K:PySem.W.Frag)(mg:Str->Option b_)(base:L4)(CX:CXT)(k:Nat)(f:i_)(fd:PP)(ps:List Str)(sp:Sp):Prop where
 len:∀vs H Q E,sp vs H Q E->vs.length=ps.length
 run:∀(A:Ni) (outer:List Env) (s:d_) (H:Hp) (args:Args) (us:List b_) (vs:List V) (Q:VK) (E:XK),Room k A->Env0 P w K mg base A outer s H->So s fd args (ps.zip us)->Vals vs us->sp vs H Q E →
  Nw (m_ P w) A (.call (.ref f) args) (CR CX outer P w H s Q E) s
theorem Env0.in1{P:B_}{w:J_}{K:PySem.W.Frag}{outer:List Env}{s:d_}{H:Hp}(e:Env0 P w K mg base A outer s H):
  Env0 P w K mg base A.in1 outer s H:=⟨e.frames,e.mod,e.bs,e.bsz,e.funs,e.frf,e.hok,e.bare,e.tb⟩
section
variable{X:Cx}{U:St}{H:Hp}{s:d_}
theorem Inv.env0(I:Inv X aa U H s):Env0 X.prog X.w X.K X.mg X.base X.A X.stack s H:=
 ⟨I.ok.frames,I.ok.mod,I.bs,MY I.ok.bsz I.sz,I.stack,I.stkFree,I.hok,I.bare,λc P h=>I.base.tbls P _ (I.ok.tb c P h)⟩
theorem Inv.after{Q:VK}{u:b_}(I:Inv X aa U H s)(h:CE X.stack X.prog X.w H s Q u s'):EP X aa U Q u s':=by
 obtain⟨v,H',os,bare,un,hok,r,q⟩:=h;obtain⟨hh,g,d,t,gj⟩:=s';obtain rfl:gj=s.os:=os;exact⟨v,H',I.call (h':=hh) (g':=g) (d':=d) (t':=t) (ch:=[]) un hok bare (λb z=>absurd z (by simp)),r,q⟩
end
noncomputable def tCall(sp:Sp)(dX:List V)(E:XK)(t:TA):TE:=λU H Q=>t U H λvs H1=>sp (vs++dX) H1 Q E
def Binds(K:PySem.W.Frag)(fd:PP)(ps:List Str)(ds:List b_):Prop:=
 ∀(s:d_) (us:List b_),K.In s.heap->(us++ds).length=ps.length->So s fd ⟨us,[]⟩ (ps.zip (us++ds))
theorem Binds.all{K:PySem.W.Frag}(h:∀us:List b_,us.length=ps.length->NB fd ⟨us,[]⟩=pure (ps.zip us)):Binds K fd ps []:=λs us _ hl=>by
 rw[M5] at hl ⊢;exact .of_eq (h us hl)
def Passes(CX:CXT)(X:Cx)(E:XK):Prop:=∀(aa:List (i_×Obj)) (U:St) (H:Hp) (s:d_) (e:b_) (s':d_),Inv X aa U H s->CX X.stack H s E e s'->X.xe e s'
section
variable{X:Cx}{CX:CXT}{k:Nat}{C:i_}{sp:Sp}{dX:List V}{ds:List b_}{E:XK}{x m:Str}{p:Pos}{o:L8}{es:List L8}{ta:TE}{t:TA}
theorem DX{U:St}{H:Hp}{s:d_}{Q:VK}{vs:List V}(F:FnOk X.prog X.w X.K X.mg X.base CX k f fd ps sp)(hr:Room k X.A)(hb:Binds X.K fd ps ds)(hd:Vals dX ds)(hx:Passes CX X E)(I:Inv X aa U H s)(r:Vals vs us)(h:sp (vs++dX) H Q E):z_ (m_ X.prog X.w) X.A (call (.ref f) us) (EP X aa U Q) X.xe s:=by
 have r2:Vals (vs++dX) (us++ds):=r.append hd;have hl:(us++ds).length=ps.length:=by rw[←r2.length];exact F.len _ _ _ _ h
 refine R' (Oc (F.run X.A X.stack s H ⟨us,[]⟩ (us++ds) (vs++dX) Q E hr I.env0 (hb s us I.kIn hl) r2 h) λr s' hq=>?_);cases r with
 | error e=>exact hx aa U H s e s' I hq
 | ok fl =>
  cases fl with
  | ret u=>exact I.after hq
  | next=>exact TJ hq
  | brk=>exact TJ hq
  | cont=>exact TJ hq
theorem uf(F:FnOk X.prog X.w X.K X.mg X.base CX k f fd ps sp)(hr:Room k X.A)(hg:Gl X x)(hm:X.mg x=some (.ref f))(hk:QN X.K (.ref f)=true)(hb:Binds X.K fd ps ds)(hd:Vals dX ds)(hx:Passes CX X E)(ha:PA X (e::es) t)(bL:(x == ("__debug__":Str))=false:=by decide)(he:f_ (e::es) X.env=(false,Mm e X.env)::f_ es X.env:=by rfl)(aC:(Mp pos (f_ es X.env)).any (·.1)=false:=by rfl):
  PE X (.Call (.Name x p) (e::es) [] pos) (tCall sp dX E t):=by
 intro aa s U H Q I h;refine M6 (Hm I hg hm ?_ bL);refine PySem.W.callWith_K (h₀:=X.base) I.ok.mod.kin hk (thn (ha pos aa s U H _ I h) λus s1 ⟨vs,H1,I1,r,q⟩=>⟨I1.kIn,?_⟩) he aC;exact DX F hr hb hd hx I1 r q
end
structure FnScope(N P:List Str)(sc:OG):Prop where
 kind:sc.kind=.function
 co:sc.isCoroutine=false
 gen:sc.isGenerator=false
 nd:N.Nodup
 pre:N.take P.length=P
 par:∀x∈P,sc.names.lookup x=some .local\/sc.names.lookup x=some .cell
 nofree:∀y∈sc.names,y.2≠.free
theorem zD{kindOf:Str->Option MP}{x:Str}:∀{binds:List (Str×b_)}{m:Str->Option b_},(∀v,(x,v)∉binds)->Td kindOf binds m x=m x
 | [],_,_=>rfl
 | (n,v)::r,m,h=>by
  unfold Td;rw[zD λw hw=>h w (j_ _ hw)];split
  ·have:x≠n:=by rintro rfl;exact h v g_
   simp[this]
  ·rfl
theorem zh{kindOf:Str->Option MP}{x:Str}:∀{binds:List (Str×b_)}{m:Str->Option b_},(∀v,(x,v)∉binds)->Te kindOf binds m x=m x
 | [],_,_=>rfl
 | (n,v)::r,m,h=>by
  unfold Te;rw[zh λw hw=>h w (j_ _ hw)];split
  ·rfl
  ·have:x≠n:=by rintro rfl;exact h v g_
   simp[this]
theorem BJ{kindOf:Str->Option MP}{x:Str}{v:b_}:∀{P:List Str}{vs:List b_}{i:Nat}{m:Str->Option b_},P.Nodup->P[i]?=some x->vs[i]?=some v->kindOf x=some .local →
  Td kindOf (P.zip vs) m x=some v
 | [],_,_,_,_,h,_,_=>by simp at h
 | _::_,[],_,_,_,_,h,_=>by simp at h
 | p::P,w::vs,0,m,nd,h1,h2,hk=>by
  simp at h1 h2;subst h1;subst h2;show Td kindOf ((p,w)::P.zip vs) m p=_;unfold Td;rw[zD λv hv=>(Ox.mp nd).1 (Tf hv).1,if_pos hk];simp
 | p::P,w::vs,i+1,m,nd,h1,h2,hk=>by
  show Td kindOf ((p,w)::P.zip vs) m x=_;unfold Td;exact BJ (i:=i) (Ox.mp nd).2 (by simpa using h1) (by simpa using h2) hk
theorem zc{kindOf:Str->Option MP}{x:Str}{v:b_}:∀{P:List Str}{vs:List b_}{i:Nat}{m:Str->Option b_},P.Nodup->P[i]?=some x->vs[i]?=some v->kindOf x≠some .local →
  Te kindOf (P.zip vs) m x=some v
 | [],_,_,_,_,h,_,_=>by simp at h
 | _::_,[],_,_,_,_,h,_=>by simp at h
 | p::P,w::vs,0,m,nd,h1,h2,hk=>by
  simp at h1 h2;subst h1;subst h2;show Te kindOf ((p,w)::P.zip vs) m p=_;unfold Te;rw[zh λv hv=>(Ox.mp nd).1 (Tf hv).1,if_neg hk];simp
 | p::P,w::vs,i+1,m,nd,h1,h2,hk=>by
  show Te kindOf ((p,w)::P.zip vs) m x=_;unfold Te;exact zc (i:=i) (Ox.mp nd).2 (by simpa using h1) (by simpa using h2) hk
noncomputable def start(N:List Str)(vs:List V):St:=vs.map some++Mw (N.length - vs.length) none
noncomputable def cxOf(CX:CXT)(P:B_)(w:J_)(K:PySem.W.Frag)(mg:Str->Option b_)(base:L4)(N:List Str)(qual:Str)(scope:OG)(f:i_)(cd:b_)(A:Ni)(outer:List Env)(s:d_)(H:Hp)(E:XK):Cx where
 prog:=P
 w:=w
 K:=K
 mg:=mg
 base:=base
 A:=A.deeper (PQ qual scope s.heap.objs.size f cd)
 N:=N
 s₀:=s
 H₀:=H
 env:=PQ qual scope s.heap.objs.size f cd
 outer:=outer
 stack:=PQ qual scope s.heap.objs.size f cd::outer
 ex:=[]
 calm:=true
 fn:=λ_=>true
 pn:=[]
 xe:=λe s'=>z_ (m_ P w) (A.deeper (PQ qual scope s.heap.objs.size f cd)) (leaving (PQ qual scope s.heap.objs.size f cd) e) (λ_ fI=>CX outer H s E e fI) (λe' fI=>CX outer H s E e' fI) s'
theorem An{sc:OG}{x:Str}(h:sc.names.lookup x=some .cell):∃c,(cellsFrom n sc.names []).lookup x=some c:=by
 have q:=PySem.W.cellsFrom_some sc.names n [] (.inl h);exact Oo.mp q
theorem Cu{CX:CXT}{P:B_}{w:J_}{K:PySem.W.Frag}{outer:List Env}{s s1:d_}{H:Hp}{E:XK}{vs:List V}(S:FnScope N ps scope)(hd:A.handled=none)(e0:Env0 P w K mg base A outer s H)(hl:vs.length=ps.length)(r:Vals vs us)(x:InCallC s s.heap.objs.size (Td (PQ qual scope s.heap.objs.size f cd).kindOf (ps.zip us) λ_=>none) (cellsFrom (s.heap.objs.size+1) scope.names []) (Te (PQ qual scope s.heap.objs.size f cd).kindOf (ps.zip us) λ_=>none) s1):
  Inv (cxOf CX P w K mg base N qual scope f cd A outer s H E) [] (start N vs) H s1:=by
 have aC:ps.length<=N.length:=by have:=congrArg length S.pre;rw[L5] at this;omega
 obtain⟨h1,tk,rfl,hk⟩:=x.done;have jF:∀b:i_,b∉(cxOf CX P w K mg base N qual scope f cd A outer s H E).ex:=λb z=>absurd (show b∈([]:List i_) from z) (by simp)
 refine⟨⟨e0.mod,S.kind,rfl,rfl,A_ _,λy z c h1 h2=>?_,λy hy=>?_,λy c _ h=>?_,λ_=>hd,Ni.frames_deeper e0.frames,.inr ⟨rfl,rfl⟩,λb z=>absurd z (jF b),e0.bs,e0.bsz,λb _ _=>jF b,λb z=>absurd z (jF b),e0.funs,e0.frf,e0.tb⟩,
  rfl,e0.bare,Un.kept hk,⟨_,x.toInCall.ns,λi y v h1 h2 h3=>?_⟩,λy c h=>⟨_,x.cell y c h⟩,e0.hok.fresh (A_ _),λy c h=>?_,λp hp=>absurd (show p∈([]:List (i_×Obj)) from hp) (by simp),e0.hok.kept hk,?_⟩
 ·exact name_of_addr x.apart (PySem.mem_of_lookup h1) (PySem.mem_of_lookup h2)
 ·have hy:scope.names.lookup y=some .cell\/scope.names.lookup y=some .free:=hy
  rcases hy with hy | hy
  ·exact An hy
  ·exact absurd rfl (S.nofree _ (PySem.mem_of_lookup hy))
 ·exact OH (x.above y c (PySem.mem_of_lookup h))
 ·have hi:i < vs.length:=by
   unfold start at h2;by_cases hi:i < vs.length
   ·exact hi
   ·rw[MO (by simpa using hi)] at h2;rw[NR] at h2;split at h2<;>cases h2
  have ha:vs[i]?=some v:=by
   unfold start at h2;rw[MT (by simpa using hi),E_] at h2;cases e:vs[i]? with
   | none=>rw[e] at h2;cases h2
   | some a=>rw[e] at h2;cases h2;rfl
  obtain⟨u,hu,rv⟩:=r.get ha
  have hp:ps[i]?=some y:=by
   rw[←S.pre,List.getElem?_take_of_lt (by omega)];exact h1
  have k9:ps.Nodup:=by rw[←S.pre];exact S.nd.sublist (P6 _ _)
  refine⟨u,rv,?_⟩
  rcases S.par y (Mf hp) with k | k
  ·exact .inl ⟨k,BJ k9 hp hu k⟩
  ·obtain⟨c,e⟩:=An (n:=s.heap.objs.size+1) k;refine .inr ⟨.inl k,c,e,?_⟩;have q:=x.cell y c e;rw[zc k9 hp hu (by show scope.names.lookup y≠_;rw[k];decide)] at q;exact q
 ·exact e0.hok.fresh (OH (x.above y c (PySem.mem_of_lookup h)))
 ·unfold start;show _=N.length;rw[LY,x_,L7];omega
theorem yz{CX:CXT}{P:B_}{w:J_}{K:PySem.W.Frag}{k:Nat}{name:Str}{body:List Nc}{dV kV bQ ay:b_}{sp:Sp}(lk:K.lookup f=some ⟨oc,od,.func (Rp name qual params body scope dV kV bQ pm an ay ct),c7⟩)(aW:codeIn K ay qual=true)(S:FnScope N ps scope)(len:∀vs H Q E,sp vs H Q E->vs.length=ps.length)(c8:∀(A:Ni) (outer:List Env) (s:d_) (H:Hp) (vs:List V) (Q:VK) (E:XK),Room k (A.deeper (PQ qual scope s.heap.objs.size f ay))->sp vs H Q E →
   ∃t,PSs (cxOf CX P w K mg base N qual scope f ay A outer s H E) body t/\t { nx:=λ_ H'=>Q .non H',rt:=Q } (start N vs) H):
  FnOk P w K mg base CX (k+1) f (Rp name qual params body scope dV kV bQ pm an ay ct) ps sp:=by
 refine⟨len,λA outer s H args us vs Q E hr e0 hb r dD=>?_⟩;have hl:=len _ _ _ _ dD;have KX:K.In s.heap:=e0.mod.kin.keeps λb o e=>(e0.bs b o e).1
 have lim:s.heap.NoLimit:=e0.mod.nolimit.keeps λb o e=>(e0.bs b o e).1
 have gm:∀y∈ps.zip us,scope.names.lookup y.1=some .local\/(scope.names.lookup y.1=some .cell/\((cellsFrom (s.heap.objs.size+1) scope.names []).lookup y.1).isSome=true):=λ⟨n,v⟩ hy=>by
  rcases S.par n (Tf hy).1 with q | q
  ·exact .inl q
  ·exact .inr ⟨q,PySem.W.cellsFrom_some _ _ _ (.inl q)⟩
 refine codeAny_call_function hr.depth (KX _ _ lk) rfl S.co S.gen rfl (PySem.W.codeRec_of KX aW) (hb _ _ _ _ ?_);refine wpAny_newFunctionEnv_cells S.kind gm λenv he s1 x=>?_
 subst he;refine⟨lim.keeps x.toInCall.keep,codeAny_func ?_⟩;obtain⟨t,ht,hq⟩:=c8 A outer s H vs Q E (hr.deeper _) dD;have I:Inv (cxOf CX P w K mg base N qual scope f ay A outer s H E) [] (start N vs) H s1:=Cu S hr.hd e0 hl r x;refine Mz (ht [] s1 (start N vs) H _ I hq) (λfl s' hs=>?_) λe s' hs=>hs
 have fin:∀{au:St}{H':Hp}{v:V}{u:b_},Inv (cxOf CX P w K mg base N qual scope f ay A outer s H E) [] au H' s'->RelV v u->Q v H'->CE outer P w H s Q u s':=
  λ{au H' v u} J rv q=>⟨v,H',J.os,J.bare,J.base,J.hok,rv,q⟩
 cases fl with
 | ret u =>
  obtain⟨v,au,H',J,rv,q⟩:=hs;exact fin J rv q
 | next =>
  obtain⟨au,H',J,q⟩:=hs;exact fin (v:=V.non) (u:=b_.none) J rfl q
 | brk =>
  obtain⟨_,_,_,q⟩:=hs;exact TJ q
 | cont =>
  obtain⟨_,_,_,q⟩:=hs;exact TJ q
section
variable{X:Cx}{x:Str}{p:Pos}{es:List L8}{t:TA}{id T:String}{r:List V->Hp->VK->Prop}
noncomputable def tCB(r:List V->Hp->VK->Prop)(t:TA):TE:=λU H Q=>t U H λvs H1=>r vs H1 Q
theorem ya(hc:CallR X (.builtin id) r)(hg:Gl X x)(hm:X.mg x=none)(hv:NZ x=some (.builtin id))(ha:PA X (e::es) t)(hn:x ≠ "__name__":=by decide)(bL:(x == ("__debug__":Str))=false:=by decide)(he:f_ (e::es) X.env=(false,Mm e X.env)::f_ es X.env:=by rfl)(aC:(Mp pos (f_ es X.env)).any (·.1)=false:=by rfl):PE X (.Call (.Name x p) (e::es) [] pos) (tCB r t):=by
 intro aa s U H Q I h;refine M6 (rC I hg hm hv ?_ hn bL);exact OU (thn (ha pos aa s U H _ I h) λus s1 ⟨vs,H1,I1,r1,q1⟩=>hc aa s1 U H1 vs us Q I1 r1 q1) he aC
theorem IC(hc:CallR X (.type T) r)(hg:Gl X x)(hm:X.mg x=none)(hv:NZ x=some (.type T))(ha:PA X (e::es) t)(hn:x ≠ "__name__":=by decide)(bL:(x == ("__debug__":Str))=false:=by decide)(he:f_ (e::es) X.env=(false,Mm e X.env)::f_ es X.env:=by rfl)(aC:(Mp pos (f_ es X.env)).any (·.1)=false:=by rfl):PE X (.Call (.Name x p) (e::es) [] pos) (tCB r t):=by
 intro aa s U H Q I h;refine M6 (rC I hg hm hv ?_ hn bL);exact LZ (thn (ha pos aa s U H _ I h) λus s1 ⟨vs,H1,I1,r1,q1⟩=>hc aa s1 U H1 vs us Q I1 r1 q1) he aC
end
end L2
variable{xs ws zs:List L2.V}{o:L2.HO}{X:L2.Cx}{U:L2.St}{te tb tl:L2.TE}{H' H2 I I' G I0:L2.Hp}{ta:L2.TA}{sp:L2.Sp}{aj:List (List L2.Key×L2.V)}{ks:List L2.Key}{v0 vc:L2.V}{J:L2.It}{fh:L2.R2}
namespace HT
open PySem PyProof.Rows
section
variable{prog:B_}{w:J_}{E:b_->d_->Prop}{s:d_}
theorem GK{t b:i_}{ws:List b_}{Q:b_->d_->Prop}(ht:TC s.heap t vs.toArray)(hb:TC s.heap b ws.toArray)(hv:vs≠[])(h1:ws=[]->Q (.ref t) s)(h2:ws≠[]->Q (.ref s.heap.objs.size) { s with heap:=s.heap.push { cls:=.type "tuple", data:=.seq (vs++ws).toArray } })(hsz:vs.length+ws.length<=v_):z_ (m_ prog w) A (NP .Add (.ref t) (.ref b)) Q E s:=by
 obtain⟨⟨cls,dd,data,sl⟩,ho,hc,n,hd⟩:=id ht;obtain⟨⟨lc,im,data2,io⟩,eM,c9,n2,de⟩:=id hb;simp only at hc hd c9 de;subst hc hd c9 de;have e:vs.toArray++ws.toArray=(vs++ws).toArray:=by simp
 by_cases hw:ws=[]
 ·exact Sq ⟨_,ho,rfl⟩ ⟨_,eM,rfl⟩ Qn R0 Rq Rc (Qo _ _)
   (tuple_addW1 t b vs.toArray ws.toArray n n2 dd im sl io (by simpa using hv) (by simp[hw])) ⟨ho,eM,h1 hw⟩
 ·refine Sq ⟨_,ho,rfl⟩ ⟨_,eM,rfl⟩ Qn R0 Rq Rc (Qo _ _)
   (tuple_addW2 t b vs.toArray ws.toArray n n2 dd im sl io (by simpa using hv) (by simpa using hw) (by rw[l_,l_];exact hsz)) ⟨ho,eM,?_⟩
  rw[e];exact h2 hw
noncomputable def sIx(n d:Nat):Option Int->Nat
 | none=>d
 | some v=>if v < 0 then(v+(n:Int)).toNat else min v.toNat n
theorem Dj(n d:Nat)(hd:d<=n)(o:Option Int):sIx n d o<=n:=by
 cases o with
 | none=>exact hd
 | some v =>
  show(if v < 0 then(v+(n:Int)).toNat else min v.toNat n)<=n;by_cases hv:v < 0
  ·rw[if_pos hv];omega
  ·rw[if_neg hv];exact Nat.min_le_right _ _
theorem Ad(v:Int)(n d:Nat):(if v < 0 then max (v+(n:Int)) 0 else min v (n:Int))=((sIx n d (some v):Nat):Int):=by
 show(if v < 0 then max (v+(n:Int)) 0 else min v (n:Int))=(((if v < 0 then(v+(n:Int)).toNat else min v.toNat n):Nat):Int);by_cases hv:v < 0
 ·simp only[if_pos hv];omega
 ·simp only[if_neg hv];omega
theorem DD(lo hi:Option Int)(n:Nat):SV lo hi 1 (n:Int)=(((sIx n 0 lo:Nat):Int),((sIx n n hi:Nat):Int)):=by
 have h1:¬((1:Int) < 0):=by omega
 unfold SV;simp only[h1,if_false];refine Prod.ext ?_ ?_
 ·cases lo with
  | none=>rfl
  | some v=>exact Ad v n 0
 ·cases hi with
  | none=>rfl
  | some v=>exact Ad v n n
theorem HS(i j:Nat):Rr (i:Int) (j:Int) 1=j - i:=by
 unfold Rr;have h1:(1:Int) > 0:=by omega
 simp only[h1,if_true,Int.ediv_one];split<;>omega
theorem AX{v:b_}{o:Option Int}{Q:Option Int->d_->Prop}(p:R_ v o)(h:Q o s):z_ (m_ prog w) A (Nk.Slice.slicePartIndex v) Q E s:=by
 cases p with
 | none=>exact slicePart_none h
 | int i t=>exact slicePart_int h
theorem Jt{sl:i_}{lo:Option Int}{Q:Int×Int×Nat->d_->Prop}(hs:s.heap.IsSliceOf sl vl vu .none)(pl:R_ vl lo)(pu:R_ vu hi)(h:Q (((sIx n 0 lo:Nat):Int),1,sIx n n hi - sIx n 0 lo) s):z_ (m_ prog w) A (sliceApplied (.ref sl) (pure (n:Int))) Q E s:=by
 obtain⟨os,gr,lf,fJ⟩:=id hs;unfold sliceApplied Nk.Slice.sliceFields;refine a_ (a_ (MU gr fJ (x:=vl) rfl (a_ (MU gr fJ (x:=vu) rfl (a_ (MU gr fJ (x:=.none) rfl (e_ ?_)))))));refine a_ (slicePart_none ?_);show z_ _ _ (if((1:Int) == 0)=true then _ else _) _ _ s;rw[if_neg (by decide)];refine a_ (AX pl (a_ (AX pu (a_ (e_ ?_)))));show z_ _ _ (match SV lo hi 1 (n:Int) with | (lo,hi)=>pure (lo,(1:Int),Rr lo hi 1)) _ _ s;rw[DD lo hi n];show z_ _ _ (pure (((sIx n 0 lo:Nat):Int),(1:Int),Rr ((sIx n 0 lo:Nat):Int) ((sIx n n hi:Nat):Int) 1)) _ _ s;rw[HS];exact e_ h
theorem HM(xs:Array b_)(i k:Nat):((Nq k).filterMap λ(m:Nat)=>xs[((i:Int)+(m:Int)*1).toNat]?).toArray=((xs.toList.drop i).take k).toArray:=by
 have e:(λ(m:Nat)=>xs[((i:Int)+(m:Int)*1).toNat]?)=λm=>xs[i+m]?:=by
  funext m
  have:((i:Int)+(m:Int)*1).toNat=i+m:=by omega
  rw[this]
 rw[e];have:=pick_run xs i k;rw[List.filterMap_map] at this;have e2:((λx=>xs[x]?)∘λx=>i+x)=λm=>xs[i+m]?:=rfl
 rw[e2] at this;rw[this]
theorem Fn{t sl:i_}{lo:Option Int}{Q:b_->d_->Prop}(ht:TC s.heap t items)(hs:s.heap.IsSliceOf sl vl vu .none)(pl:R_ vl lo)(pu:R_ vu hi)(hw:¬(sIx items.size 0 lo=0/\sIx items.size items.size hi=items.size))(h:Q (.ref s.heap.objs.size) { s with heap:=s.heap.push { cls:=.type "tuple", data:=.seq ((items.toList.drop (sIx items.size 0 lo)).take (sIx items.size items.size hi - sIx items.size 0 lo)).toArray } })(hsz:items.size<=v_):z_ (m_ prog w) A (S6 (.ref t) (.ref sl)) Q E s:=by
 have dO:sizeOk (.seq ((items.toList.drop (sIx items.size 0 lo)).take (sIx items.size items.size hi - sIx items.size 0 lo)).toArray):=by
  show((items.toList.drop (sIx items.size 0 lo)).take (sIx items.size items.size hi - sIx items.size 0 lo)).toArray.size<=v_;rw[l_,L5,ME,LS];omega
 have hj:sIx items.size items.size hi<=items.size:=Dj _ _ (A_ _) hi;obtain⟨os,gr,lf,fJ⟩:=id hs;have nO:s.TypeIs (.ref sl) "slice":=⟨os,gr,lf⟩;unfold S6
 try with_reducible refine LX ?_
 first | refine a_ (e_ ?_) | skip
 refine a_ (wpAny_sequenceKey ht.typeIs (by decide) ?_)
 refine a_ (Mk (name:=NC "__getitem__") ht.typeIs NL
  (Mn NL ht.typeIs entry_tuple_getitem ?_ (args_tuple_getitem _ _)))
 show z_ _ _ (Nk.Tuple.tupleItemsOf (.ref t) >>= _) _ _ s;refine a_ (tupleItemsOf_ ht ?_);refine a_ (QP nO ?_);rw[if_pos (by decide)];refine a_ (Jt hs pl pu ?_)
 have ir:¬((((sIx items.size 0 lo:Nat):Int) == 0&&(1:Int) == 1&&(sIx items.size items.size hi - sIx items.size 0 lo) == items.size)=true):=by
  intro q;rw[M',M'] at q;have q1:((sIx items.size 0 lo:Nat):Int)=0:=eq_of_beq q.1.1;have q2:sIx items.size items.size hi - sIx items.size 0 lo=items.size:=eq_of_beq q.2;exact hw ⟨by omega,by omega⟩
 show z_ _ _ (if(((sIx items.size 0 lo:Nat):Int) == 0&&(1:Int) == 1&&(sIx items.size items.size hi - sIx items.size 0 lo) == items.size)=true then _ else _) _ _ s;rw[if_neg ir,HM]
 first
  | exact a_ (m:=Sa _) (Ma (e_ ⟨_,rfl,e_ h⟩) dO)
  | exact a_ (m:=Sa _) (Ma (a_ (e_ (e_ ⟨_,rfl,e_ h⟩))) dO)
  | exact a_ (a_ (m:=Sa _) (Ma (e_ (e_ ⟨_,rfl,e_ h⟩)) dO))
  | exact a_ (a_ (m:=Sa _) (Ma (e_ ⟨_,rfl,e_ h⟩) dO))
end
end HT
namespace L2
open PySem PySem.Spec PyProof.Rows
abbrev TO:=St->Hp->(Option Int->Hp->Prop)->Prop
def PO(X:Cx)(e:Option L8)(t:TO):Prop:=
 ∀(aa:List (i_×Obj)) (s:d_) (U:St) (H:Hp) (Q:Option Int->Hp->Prop),Inv X aa U H s->t U H Q →
  z_ (m_ X.prog X.w) X.A (evalPart e X.env) (λu s'=>∃o H',Inv X aa U H' s'/\R_ u o/\Q o H') X.xe s
noncomputable def tNoPart:TO:=λ_ H Q=>Q none H
noncomputable def tPart(t:TE):TO:=λU H Q=>t U H λx H1=>∃i,x=.int i/\Q (some i) H1
section
variable{lo hi:Option L8}{tl th:TO}
theorem CH:PO X none tNoPart:=by
 intro aa s U H Q I h;rw[R4];exact e_ ⟨none,H,I,.none,h⟩
theorem Eg(h:PE X e te):PO X (some e) (tPart te):=by
 intro aa s U H Q I hw;rw[evalPart_some];refine thn (h aa s U H _ I hw) λu s1 ⟨x,H1,I1,r1,q1⟩=>?_
 obtain⟨i,rfl,q⟩:=q1;obtain⟨t,rfl⟩:=r1;exact⟨some i,H1,I1,.int i t,q⟩
def SlR(X:Cx)(r:V->Option Int->Option Int->Hp->VK->Prop):Prop:=
 ∀(aa:List (i_×Obj)) (s:d_) (U:St) (H:Hp) (x:V) (v vl vu:b_) (lo hi:Option Int) (sl:i_) (Q:VK),Inv X aa U H s->RelV x v->s.heap.IsSliceOf sl vl vu .none->R_ vl lo->R_ vu hi->r x lo hi H Q →
  ∃T id,Tg (.type T) "__getitem__"=pure (some (.builtin id))/\s.TypeIs v T/\z_ (m_ X.prog X.w) X.A (S6 v (.ref sl)) (EP X aa U Q) X.xe s
theorem SlR.or{r r':V->Option Int->Option Int->Hp->VK->Prop}(h:SlR X r)(h':SlR X r'):SlR X (λx lo hi H Q=>r x lo hi H Q\/r' x lo hi H Q):=by
 intro aa s U H x v vl vu lo hi sl Q I rx hs pl pu q
 rcases q with q | q
 ·exact h aa s U H x v vl vu lo hi sl Q I rx hs pl pu q
 ·exact h' aa s U H x v vl vu lo hi sl Q I rx hs pl pu q
noncomputable def tSl(r:V->Option Int->Option Int->Hp->VK->Prop)(te:TE)(tl th:TO):TE:=λU H Q=>te U H λx H1=>tl U H1 λl H2=>th U H2 λu H3=>r x l u H3 Q
theorem DY{r:V->Option Int->Option Int->Hp->VK->Prop}(hr:SlR X r)(he:PE X e te)(hl:PO X lo tl)(hu:PO X hi th):PE X (.Subscript e (.Slice lo hi none p2) pos) (tSl r te tl th):=by
 intro aa s U H Q I h;refine Ti (thn (he aa s U H _ I h) λv s1 ⟨x,H1,I1,r1,q1⟩=>?_);refine wpAny_Slice (thn (hl aa s1 U H1 _ I1 q1) λvl s2 ⟨l,H2,I2,pl,q2⟩=>thn (hu aa s2 U H2 _ I2 q2) λvu s3 ⟨u,H3,I3,pu,q3⟩=>?_);rw[R4];refine e_ ?_;have I4:Inv X aa U H3 { s3 with heap:=s3.heap.push { cls:=.type "slice", data:=.fields #[vl,vu,.none] } }:=I3.kept (t':=s3.toks) λb ob q=>c_ _ q
 obtain⟨T,id,hT,ht,hg⟩:=hr aa { s3 with heap:=s3.heap.push { cls:=.type "slice", data:=.fields #[vl,vu,.none] } } U H3 x v vl vu l u s3.heap.objs.size Q I4 r1 (L4.IsSliceOf.new ..) pl pu q3;show z_ (m_ X.prog X.w) X.A (R5 e (.Slice lo hi none p2) v (.ref s3.heap.objs.size)) (EP X aa U Q) X.xe { s3 with heap:=s3.heap.push { cls:=.type "slice", data:=.fields #[vl,vu,.none] } };exact tail_any (ops:=[.ref s3.heap.objs.size,v]) ht hT hg (by with_unfolding_all rfl)
noncomputable def cutV(xs:List V)(lo hi:Option Int):List V:=(xs.drop (HT.sIx xs.length 0 lo)).take (HT.sIx xs.length xs.length hi - HT.sIx xs.length 0 lo)
theorem B5(xs:List V)(lo hi:Option Int):(cutV xs lo hi).length<=xs.length:=by
 unfold cutV;rw[L5,ME];omega
def rSlT(K:PySem.W.Frag):V->Option Int->Option Int->Hp->VK->Prop:=λx lo hi H Q=>∃a xs,x=.ref a/\SqT K H a xs ∧
 ¬(HT.sIx xs.length 0 lo=0/\HT.sIx xs.length xs.length hi=xs.length)/\∀p,H p=none->Q (.ref p) (upd H p (.tup (cutV xs lo hi)))
theorem JZ:SlR X (rSlT X.K):=by
 intro aa s U H x v vl vu lo hi sl Q I rx hs pl pu h;obtain⟨a,xs,rfl,hx,hw,q⟩:=h;cases rx;obtain⟨af,r,ht,hz⟩:=I.tuple hx;have aM:af.toArray.size=xs.length:=by rw[l_];exact r.length.symm
 refine⟨"tuple", _,NL.lookup,ht.typeIs,?_⟩;refine HT.Fn ht hs pl pu (by rw[aM];exact hw) ?_ (by rw[aM];exact hz);rw[aM];refine⟨.ref s.heap.objs.size,_,I.laid (t':=s.toks) (o:=.tup (cutV xs lo hi)) (λb ob q=>c_ _ q) (A_ _) ?_,rfl,q _ (I.hok.fresh (A_ _))⟩;exact⟨MY (B5 xs lo hi) hz,_,(r.drop (HT.sIx xs.length 0 lo)).take (HT.sIx xs.length xs.length hi - HT.sIx xs.length 0 lo),TC.new _ _⟩
noncomputable def rCatT(K:PySem.W.Frag):R2:=λx y H Q=>∃a b xs ys,x=.ref a/\y=.ref b/\SqT K H a xs/\SqT K H b ys/\xs≠[]/\xs.length+ys.length<=v_ ∧
 (ys=[]->Q (.ref a) H)/\(ys≠[]->∀p,H p=none->Q (.ref p) (upd H p (.tup (xs++ys))))
theorem Vals.nil_iff(r:Vals xs us):us=[]↔xs=[]:=by
 cases r with
 | nil=>simp
 | cons _ _=>simp
theorem Fv:OpR X (NP .Add) (rCatT X.K):=by
 intro aa s U H x y v u Q I rx ry h;obtain⟨a,b,xs,ys,rfl,rfl,ha,hb,hx,hz,q1,q2⟩:=h;cases rx;cases ry;obtain⟨af,r1,p1,_⟩:=I.tuple ha;obtain⟨cb,r2,p2,_⟩:=I.tuple hb;refine HT.GK p1 p2 (λz=>hx (r1.nil_iff.mp z)) (λz=>⟨.ref a,H,I,rfl,q1 (r2.nil_iff.mp z)⟩) (λz=>?_) (by rw[←r1.length,←r2.length];exact hz);refine⟨.ref s.heap.objs.size,_,I.laid (t':=s.toks) (o:=.tup (xs++ys)) (λb ob q=>c_ _ q) (A_ _) ?_,rfl,q2 (λw=>z (r2.nil_iff.mpr w)) _ (I.hok.fresh (A_ _))⟩;exact⟨by rw[LY];exact hz,_,r1.append r2,TC.new _ _⟩
end
noncomputable def ixN(n:Nat)(i:Int):Option Nat:=if 0<=i then(if i < n then some i.toNat else none) else if -(n:Int)<=i then some (i+n).toNat else none
noncomputable def atI{α:Type}(xs:List α)(i:Int):Option α:=(ixN xs.length i).bind λj=>xs[j]?
theorem BG{i:Int}(h:ixN n i=some j):seqIndex? i n=some j/\j < n/\-(n:Int)<=i/\i < n:=by
 unfold ixN at h;by_cases h0:0<=i
 ·rw[if_pos h0] at h;by_cases h1:i < n
  ·rw[if_pos h1] at h;have e:i.toNat=j:=L0 h;exact⟨by rw[SW h0 h1,e],by omega,by omega,h1⟩
  ·rw[if_neg h1] at h;cases h
 ·rw[if_neg h0] at h;by_cases h1:-(n:Int)<=i
  ·rw[if_pos h1] at h;have e:(i+n).toNat=j:=L0 h;exact⟨by rw[seqIndex_neg (by omega) h1,e],by omega,h1,by omega⟩
  ·rw[if_neg h1] at h;cases h
theorem AA{α:Type}{xs:List α}{i:Int}{v:α}(h:atI xs i=some v):∃j,seqIndex? i xs.length=some j/\xs[j]?=some v/\j < xs.length/\-(xs.length:Int)<=i/\i < xs.length:=by
 unfold atI at h;cases e:ixN xs.length i with
 | none=>rw[e] at h;cases h
 | some j =>
  rw[e] at h;obtain⟨h1,h2,h3,h4⟩:=BG e;exact⟨j,h1,h,h2,h3,h4⟩
theorem Gr{α:Type}(xs:List α)(v:α):atI (xs++[v]) (-1)=some v:=by
 have hl:(xs++[v]).length=xs.length+1:=by simp
 have e:ixN (xs++[v]).length (-1)=some xs.length:=by
  unfold ixN;rw[hl,if_neg (by decide),if_pos (by omega)]
  congr 1
  omega
 unfold atI;rw[e];show(xs++[v])[xs.length]?=some v;simp
def PlainIx(b:L8):Prop:=∀o i,subscripted b false o i=operate [o,i] (S6 o i)
def IxR(X:Cx)(r:R2):Prop:=
 ∀(value cg:L8) (aa:List (i_×Obj)) (s:d_) (U:St) (H:Hp) (x y:V) (v u:b_) (Q:VK),Inv X aa U H s->RelV x v->RelV y u->r x y H Q →
  subscripted cg false v u=operate [v,u] (S6 v u)->z_ (m_ X.prog X.w) X.A (R5 value cg v u) (EP X aa U Q) X.xe s
def MtR(X:Cx)(id:String)(r:V->List V->Hp->VK->Prop):Prop:=
 ∀(aa:List (i_×Obj)) (s:d_) (U:St) (H:Hp) (x:V) (xs:List V) (v:b_) (us:List b_) (Q:VK),Inv X aa U H s->RelV x v->Vals xs us->r x xs H Q →
  z_ (m_ X.prog X.w) X.A (call (.builtin id) (v::us)) (EP X aa U Q) X.xe s
section
variable{a b:L8}{ta:TE}
theorem IxR.or{r r':R2}(h:IxR X r)(h':IxR X r'):IxR X (λx y H Q=>r x y H Q\/r' x y H Q):=by
 intro value cg aa s U H x y v u Q I rx ry q hs
 rcases q with q | q
 ·exact h value cg aa s U H x y v u Q I rx ry q hs
 ·exact h' value cg aa s U H x y v u Q I rx ry q hs
theorem zp{r:R2}(hr:IxR X r)(ha:PE X a ta)(hb:PE X b tb)(hs:PlainIx b):PE X (.Subscript a b pos) (tOp r ta tb):=by
 intro aa s U H Q I h;exact Ti (binT ha hb I h λv u s2 x y H2 I2 rx ry q=>hr a b aa s2 U H2 x y v u Q I2 rx ry q (hs _ _))
noncomputable def rIxL(K:PySem.W.Frag):R2:=λx y H Q=>∃p xs i v,x=.ref p/\y=.int i/\SqL K H p xs/\atI xs i=some v/\Q v H
noncomputable def rIxT(K:PySem.W.Frag):R2:=λx y H Q=>∃p xs i v,x=.ref p/\y=.int i/\SqT K H p xs/\atI xs i=some v/\Q v H
theorem z5:IxR X (rIxL X.K):=by
 intro value cg aa s U H x y v u Q I rx ry h hs;obtain⟨p,xs,i,z,rfl,rfl,hq,he,q⟩:=h;cases rx;obtain⟨t,rfl⟩:=ry;obtain⟨af,r,pl,hz⟩:=I.list hq;obtain⟨j,h1,h2,h3,h4,h5⟩:=AA he;obtain⟨w,ew,jG⟩:=r.get h2;have hl:=r.length;have hn:=line63;have fin:EP X aa U Q w s:=⟨z,H,I,jG,q⟩;by_cases h0:0<=i
 ·have hj:i.toNat=j:=by
   rw[SW h0 h5] at h1;exact L0 h1
  exact item_listR pl.isList h0 (by omega) (by rw[hj];simpa using ew) fin hs
 ·have hj:(i+(af.toArray.size:Int)).toNat=j:=by
   rw[seqIndex_neg (by omega) h4] at h1;rw[l_,←hl];exact L0 h1
  exact QQ (x:=w) pl.isList.typeIs P7.lookup
   (wpAny_getItem_list_neg (Q:=λr s'=>r=w/\EP X aa U Q r s') pl.isList (by omega) (by rw[l_]<;>omega) (by omega) (by rw[hj];simpa using ew) ⟨rfl,fin⟩) hs
theorem Ib:IxR X (rIxT X.K):=by
 intro value cg aa s U H x y v u Q I rx ry h hs;obtain⟨p,xs,i,z,rfl,rfl,hq,he,q⟩:=h;cases rx;obtain⟨t,rfl⟩:=ry;obtain⟨af,r,pl,hz⟩:=I.tuple hq;obtain⟨j,h1,h2,h3,h4,h5⟩:=AA he;obtain⟨w,ew,jG⟩:=r.get h2;have hl:=r.length;have hn:=line63;have fin:EP X aa U Q w s:=⟨z,H,I,jG,q⟩
 exact QQ (x:=w) pl.typeIs slot_tuple_getitem.lookup
  (getItem_tuple (j:=j) (Q:=λr s'=>r=w/\EP X aa U Q r s') pl (by omega) (by omega) (by rw[l_,←hl];exact h1) (by simpa using ew) ⟨rfl,fin⟩) hs
theorem Cj(af:List b_)(n j:Nat)(u:b_):M_ (·.setIfInBounds j u) { cls:=.type "list", data:=.seq af.toArray n }={ cls:=.type "list", data:=.seq (af.set j u).toArray n }:=by
 simp[M_]
theorem Inv.lst{H:Hp}{s:d_}{p:i_}(I:Inv X aa U H s)(h:H p=some (.lst xs)):
  ∃(af:List b_) (n:Nat),Vals xs af/\s.heap.get? p=some { cls:=.type "list", data:=.seq af.toArray n }/\xs.length<=v_:=by
 obtain⟨z,af,n,r,e⟩:=I.hok p _ h;exact⟨af,n,r,e,z⟩
theorem Inv.lstUpd{H:Hp}{s:d_}{p:i_}{ys:List V}{n':Nat}{f:Obj->Obj}(I:Inv X aa U H s)(h:H p=some (.lst xs))(ho:s.heap.get? p=some { cls:=.type "list", data:=.seq af.toArray n })(hf:f { cls:=.type "list", data:=.seq af.toArray n }={ cls:=.type "list", data:=.seq its'.toArray n' })(r:Vals ys its')(hz:ys.length<=v_)(t:Nat):
  Inv X aa U (upd H p (.lst ys)) { s with heap:=s.heap.update p f,toks:=t }:=by
 have e:(s.heap.update p f).get? p=some { cls:=.type "list", data:=.seq its'.toArray n' }:=by
  rw[L3 f ho (by rw[hf]<;>rfl),hf]
 refine I.write (x:=p) (e:=p) (by rw[h];trivial) (.inl rfl) (λb u hb q=>(C_ _ _ (LU hb)).trans q) ⟨_,e⟩ ?_;exact⟨hz,its',n',r,e⟩
def rSetL:V->V->V->Hp->(Hp->Prop)->Prop:=λo i v H Q=>∃p xs k j,o=.ref p/\i=.int k/\H p=some (.lst xs)/\ixN xs.length k=some j/\Q (upd H p (.lst (xs.set j v)))
theorem CU:PSet X rSetL:=by
 intro aa s U H o i v ov iv u Q I ro ri rv h;obtain⟨p,xs,k,j,rfl,rfl,hp,hj,q⟩:=h;cases ro;obtain⟨t,rfl⟩:=ri;obtain⟨af,n,r,ho,hz⟩:=I.lst hp;obtain⟨h1,h2,h3,h4⟩:=BG hj;have hl:=r.length;have hn:=line63
 have I':Inv X aa U (upd H p (.lst (xs.set j v))) { s with heap:=s.heap.update p (M_ (·.setIfInBounds j u)) }:=
  I.lstUpd hp ho (Cj af n j u) (r.set rv j) (by rw[Oy];exact hz) s.toks
 by_cases h0:0<=k
 ·have hk:k.toNat=j:=by
   rw[SW h0 h4] at h1;exact L0 h1
  exact PySem.W.ki_setAt ho h0 (by omega) (by rw[l_,←hl];exact h4) (by rw[hk];exact⟨_,I',q⟩)
 ·have hk:(k+(af.toArray.size:Int)).toNat=j:=by
   rw[seqIndex_neg (by omega) h3] at h1;rw[l_,←hl];exact L0 h1
  exact PySem.W.ki_setBack ho (by omega) (by rw[l_,←hl];exact h3) (by omega) (by rw[hk];exact⟨_,I',q⟩)
theorem FA(lo hi:Option Int)(n:Nat):(OB lo hi none n).1=((HT.sIx n 0 lo:Nat):Int)/\(OB lo hi none n).2.1=((HT.sIx n n hi:Nat):Int)/\(OB lo hi none n).2.2=1:=by
 refine⟨?_,?_,rfl⟩
 ·cases lo with
  | none=>simp[OB,HT.sIx]
  | some i =>
   simp only[OB,HT.sIx,getD_none,show(1:Int) > 0 by decide,if_true];by_cases h:i < 0
   ·simp only[h,if_true]<;>omega
   ·simp only[h,if_false]<;>omega
 ·cases hi with
  | none=>simp[OB,HT.sIx]
  | some i =>
   simp only[OB,HT.sIx,getD_none,show(1:Int) > 0 by decide,if_true];by_cases h:i < 0
   ·simp only[h,if_true]<;>omega
   ·simp only[h,if_false]<;>omega
theorem DG(af:List b_)(lo hi:Option Int):slicePick af.toArray lo hi none=((af.drop (HT.sIx af.length 0 lo)).take (HT.sIx af.length af.length hi - HT.sIx af.length 0 lo)).toArray:=by
 obtain⟨h1,h2,h3⟩:=FA lo hi af.toArray.size;unfold slicePick;rw[h1,h2,h3];simp only[sliceRange_one,pick_run,l_]<;>rfl
def rSlL(K:PySem.W.Frag):V->Option Int->Option Int->Hp->VK->Prop:=λx lo hi H Q=>∃a xs,x=.ref a/\SqL K H a xs/\∀p,H p=none->Q (.ref p) (upd H p (.lst (cutV xs lo hi)))
theorem GF:SlR X (rSlL X.K):=by
 intro aa s U H x v vl vu lo hi sl Q I rx hs pl pu h;obtain⟨a,xs,rfl,hx,q⟩:=h;cases rx;obtain⟨af,r,ht,hz⟩:=I.list hx;have aM:=r.length;refine⟨"list", _,P7.lookup,ht.isList.typeIs,?_⟩;refine Qh ht.isList hs pl pu .none (by simp) ?_ (by rw[l_]<;>omega);rw[DG,←aM];refine⟨.ref s.heap.objs.size,_,I.laid (t':=s.toks) (o:=.lst (cutV xs lo hi)) (λb ob q=>c_ _ q) (A_ _) ?_,rfl,q _ (I.hok.fresh (A_ _))⟩;exact⟨MY (B5 xs lo hi) hz,_,0,(r.drop (HT.sIx xs.length 0 lo)).take (HT.sIx xs.length xs.length hi - HT.sIx xs.length 0 lo),s_ _ rfl⟩
theorem BS:CallR X (.builtin "len") (λxs H Q=>∃p ys,xs=[.ref p]/\(SqL X.K H p ys\/SqT X.K H p ys)/\Q (.int ys.length) H):=by
 intro aa s U H xs us Q I r h;obtain⟨p,ys,rfl,hq,q⟩:=h;obtain⟨u,rfl,rx⟩:=vals1 r;cases rx;have hn:=line63
 rcases hq with hq | hq
 ·obtain⟨af,r',pl,hz⟩:=I.list hq;have aM:=r'.length;exact Calls.call_len_list pl.isList (by simp only[l_]<;>omega) ⟨.int ys.length,H,I.tok _,⟨s.toks+1,by rw[l_,aM]⟩,q⟩
 ·obtain⟨af,r',pl,hz⟩:=I.tuple hq;have aM:=r'.length;exact len_tuple pl (by simp only[l_]<;>omega) ⟨.int ys.length,H,I.tok _,⟨s.toks+1,by rw[l_,aM]⟩,q⟩
theorem CD:CallR X (.type "list") (λxs H Q=>∃p ys,xs=[.ref p]/\(SqL X.K H p ys\/SqT X.K H p ys)/\∀l,H l=none->Q (.ref l) (upd H l (.lst ys))):=by
 intro aa s U H xs us Q I r h;obtain⟨p,ys,rfl,hq,q⟩:=h;obtain⟨u,rfl,rx⟩:=vals1 r;cases rx
 have fin:∀(af:List b_),Vals ys af->ys.length<=v_->∀(h':L4) (c':Nat),(∀b o',s.heap.get? b=some o'->h'.get? b=some o') →
   h'.get? s.heap.objs.size=some { cls:=.type "list", dict:=none,data:=.seq af.toArray c',slots:=#[] }->EP X aa U Q (.ref s.heap.objs.size) { s with heap:=h' }:=λaf r' hz h' c' kp e =>
  ⟨.ref s.heap.objs.size,_,I.laid (t':=s.toks) kp (A_ _) (show ObjOk X.prog X.w _ h' _ (.lst ys) from⟨hz,af,c',r',e⟩),rfl,q _ (I.hok.fresh (A_ _))⟩
 rcases hq with hq | hq
 ·obtain⟨af,r',pl,hz⟩:=I.list hq;have aM:=r'.length;obtain⟨o,ho,hc,n,hd⟩:=pl.isList;exact call_list_seq p (.inl rfl) ho hc hd (λh' c' kp e=>fin af r' hz h' c' kp e) (by simp only[l_]<;>omega)
 ·obtain⟨af,r',pl,hz⟩:=I.tuple hq;have aM:=r'.length;obtain⟨o,ho,hc,n,hd⟩:=pl;exact call_list_seq p (.inr rfl) ho hc hd (λh' c' kp e=>fin af r' hz h' c' kp e) (by simp only[l_]<;>omega)
def tyV(K:PySem.W.Frag)(T:String)(x:V)(H:Hp):Prop:=match x with
 | .str _=>T = "str"
 | .int _=>T = "int"
 | .ref p=>(T = "list"/\∃xs,SqL K H p xs)\/(T = "tuple"/\∃o,K.lookup p=some o/\o.cls=.type "tuple"/\o.dict=none) ∨
   (T = "dict"/\((∃aj,H p=some (.dK aj))\/∃aj,H p=some (.dT aj)))\/(T = "set"/\∃S n,H p=some (.set S n))
 | _=>False
theorem IZ{H:Hp}{s:d_}{T:String}{x:V}{v:b_}(I:Inv X aa U H s)(r:RelV x v)(ty:tyV X.K T x H):
  s.TypeIs v T/\∀a,v=.ref a->∃ob,s.heap.get? a=some ob/\ob.dict=none:=by
 cases x with
 | str z =>
  obtain⟨t,rfl⟩:=r
  cases(show T = "str" from ty)
  exact⟨typeIs_str s z t,λ_ e=>nomatch e⟩
 | int i =>
  obtain⟨t,rfl⟩:=r
  cases(show T = "int" from ty)
  exact⟨typeIs_int s i t,λ_ e=>nomatch e⟩
 | ref p =>
  cases r
  rcases ty with⟨rfl,xs,hq⟩ | ⟨rfl,o,hk,hc,hd⟩ | ⟨rfl,hk⟩ | ⟨rfl,S,n,hk⟩
  ·obtain⟨af,_,pl,_⟩:=I.list hq;refine⟨pl.isList.typeIs,λa e=>?_⟩;cases e;obtain⟨o,n,e,c,hd,_⟩:=pl;exact⟨o,e,hd⟩
  ·refine⟨⟨o,I.kIn p o hk,hc⟩,λa e=>?_⟩;cases e;exact⟨o,I.kIn _ o hk,hd⟩
  ·have z:∃o,s.heap.get? p=some o/\o.ExactDict:=by
    rcases hk with⟨aj,hk⟩ | ⟨aj,hk⟩
    ·obtain⟨_,_,_,_,o,_,_,e,ex,_⟩:=I.hok p _ hk;exact⟨o,e,ex⟩
    ·obtain⟨_,_,_,_,o,_,_,e,ex,_⟩:=I.hok p _ hk;exact⟨o,e,ex⟩
   obtain⟨o,e,ex⟩:=z;refine⟨⟨o,e,ex.1⟩,λa e2=>?_⟩;cases e2;exact⟨o,e,ex.2.1⟩
  ·obtain⟨o,_,_,_,e,ex,_⟩:=I.hok p _ hk;refine⟨⟨o,e,ex.1⟩,λa e2=>?_⟩;cases e2;exact⟨o,e,ex.2.1⟩
 | _=>exact TJ ty
noncomputable def tBM(K:PySem.W.Frag)(T:String)(r:V->List V->Hp->VK->Prop)(to:TE)(t:TA):TE:=λU H Q=>to U H λx H1=>tyV K T x H1/\t U H1 λxs H2=>r x xs H2 Q
variable{o:L8}{es:List L8}{to:TE}{t:TA}{name:Str}{T id:String}{r:V->List V->Hp->VK->Prop}
theorem zH(pa:PlainAttrs T)(slot:Slot T name id)(nQ:typeOf (.builtin id)=pure (.type "method_descriptor"))(hm:MtR X id r)(ho:PE X o to)(ha:PA X (e::es) t)(df:R6 o name X.env (Mm o X.env)=Mm o X.env:=by rfl)(cx:((Mp aS (f_ (e::es) X.env)).all (λx=>!x.1)&&(backToKw aS (SX [] X.env)).all (λx=>x.1.isSome)
   &&decide ((e::es).length+([]:List Sr).length+(if([]:List Sr).isEmpty then 0 else 1) < 30))=true:=by rfl)(dg:(bM.endLine == aS.line)=true:=by rfl)(hs:f_ (e::es) X.env=(false,Mm e X.env)::f_ es X.env:=by rfl)(cy:(Mp aS (f_ es X.env)).any (·.1)=false:=by rfl):
  PE X (.Call (.Attribute o name bM) (e::es) [] aS) (tBM X.K T r to t):=by
 intro aa s U H Q I h;refine wpAny_Call_method_late df cx dg rfl (thn (ho aa s U H _ I h) λv s1 ⟨x,H1,I1,r1,ty,q1⟩=>?_);obtain⟨h1,h2⟩:=IZ I1 r1 ty;refine⟨T,id,pa,slot,nQ,h1,h2,?_⟩;have hA:=ha aS aa s1 U H1 _ I1 q1;rw[hs] at hA ⊢;refine Calls.callWith_builtin (by show(false||(Mp aS (f_ es X.env)).any (·.1))=false;rw[cy]<;>rfl) (Calls.evalArgs_plain ?_);exact thn hA λus s2 ⟨vs,H2,I2,r2,q2⟩=>hm aa s2 U H2 x vs v us Q I2 r1 r2 q2
end
def MtM(X:Cx)(id:String)(r:V->List V->Hp->VK->Prop):Prop:=
 ∀(aa:List (i_×Obj)) (s:d_) (U:St) (H:Hp) (x:V) (xs:List V) (v:b_) (us:List b_) (Q:VK),Inv X aa U H s->RelV x v->Vals xs us->r x xs H Q →
  z_ (m_ X.prog X.w) X.A (call (.builtin id) (v::us)) (EP X aa U Q) X.xe s
theorem Vals.one:∀{x:V}{us:List b_},Vals [x] us->∃u,us=[u]/\RelV x u
 | _,_,.cons r .nil=>⟨_,rfl,r⟩
theorem Vals.two:∀{x y:V}{us:List b_},Vals [x,y] us->∃u v,us=[u,v]/\RelV x u/\RelV y v
 | _,_,_,.cons r (.cons q .nil)=>⟨_,_,rfl,r,q⟩
section
variable{H:Hp}{s:d_}{l b:i_}{ys:List V}
theorem Inv.lset{f:Array b_->Array b_}(I:Inv X aa U H s)(hH:H l=some (.lst xs))(e:s.heap.get? l=some { cls:=.type "list", data:=.seq af.toArray n })(hf:f af.toArray=its'.toArray)(hv:Vals ys its')(hz:ys.length<=v_):
  Inv X aa U (upd H l (.lst ys)) { s with heap:=s.heap.update l (M_ f),toks:=t' }:=by
 have q:=PySem.IsL.update e f;rw[hf] at q;refine I.write (x:=l) (e:=l) (by rw[hH];exact trivial) (.inl rfl) (λb' u hb hu=>(C_ s.heap (M_ f) (LU hb)).trans hu) ⟨_,q⟩ ?_;exact⟨hz,its',_,hv,q⟩
theorem Inv.lnew(I:Inv X aa U H s)(hv:Vals ys af)(hz:ys.length<=v_):
  Inv X aa U (upd H s.heap.objs.size (.lst ys)) { s with heap:=s.heap.push { cls:=.type "list", data:=.seq af.toArray },toks:=t' }:=
 I.laid (λ_ _ q=>c_ _ q) (A_ _) ⟨hz,af,0,hv,s_ _ rfl⟩
theorem Inv.fresh(I:Inv X aa U H s):H s.heap.objs.size=none:=I.hok.fresh (A_ _)
theorem Inv.lstM(I:Inv X aa U H s)(hH:H l=some (.lst xs)):xs.length<=v_/\∃(af:List b_) (n:Nat),Vals xs af/\xs.length=af.length/\s.heap.get? l=some { cls:=.type "list", data:=.seq af.toArray n }:=by
 obtain⟨z,af,n,r,e⟩:=I.hok l _ hH;exact⟨z,af,n,r,r.length,e⟩
theorem notLongL(h:n<=v_):SY n=false:=by
 unfold SY;exact decide_eq_false (by omega)
end
section
def rAppend:V->List V->Hp->VK->Prop:=λx vs H Q=>∃l xs y,x=.ref l/\vs=[y]/\H l=some (.lst xs)/\xs.length < v_/\Q .non (upd H l (.lst (xs++[y])))
theorem Br:MtM X "list.append" rAppend:=by
 intro aa s U H x vs v us Q I rx rv h;obtain⟨l,xs,y,rfl,rfl,hH,hz,q⟩:=h;cases rx;obtain⟨u,rfl,ru⟩:=rv.one;obtain⟨z,af,n,r,hl,e⟩:=I.lstM hH;refine call_meets F.slot_list_append ⟨_,e,rfl⟩ F.entry_list_append (F.args_list_append_2 _ _) (PySem.list_append l af.toArray n u (by rw[l_];omega)) ⟨e,?_⟩;refine⟨.non,_,I.lset (its':=af++[u]) hH e (by simp) (r.append (.cons ru .nil)) ?_,rfl,q⟩;rw[LY,Ri];omega
end
end L2
namespace Att
open PySem PySem.W PySem.Calls PyProof.Rows
theorem Ek{P:Params}:∀(ns:List Int) (vs:List b_),WellAll P h vs (ns.map WData.int)->M9 vs ns:=by
 intro ns
 induction ns with
 | nil =>
  intro vs w;rw[map_nil] at w;cases w;exact .nil
 | cons n ns ih =>
  intro vs w;rw[K_] at w;cases w with
  | cons a b =>
   cases a;exact .cons _ _ (ih _ b)
theorem Hf{l:TL}(hn:l.most=some n){P:Params}(fy:l.row.toRowW.claim.pre args=true)(jH:WellAll P h gw args):
  ∃a vs ns,gw=[b_.ref a]/\args=[WData.list (ns.map WData.int)]/\h.get? a=some { cls:=.type "list", data:=.seq vs.toArray }/\M9 vs ns/\ns.length<=n:=by
 have nR:TM.hasAll [] args [.list .int]=true:=(pre_splitW fy).1;have hc:l.pre.holds [] { args:=args }=true:=(pre_splitW fy).2;obtain⟨d,r,rfl,h1,h2⟩:=hasAllW_cons nR;obtain rfl:=hasAllW_nil h2;obtain⟨xs,rfl,h3⟩:=hasW_list h1;obtain⟨ns,rfl⟩:=items_int h3
 have aM:ns.length<=n:=by
  unfold TL.pre at hc
  have h4:(WTm.not (.lt (.lit (.int (n:Int))) (.len (.arg 0)))).holds [] { args:=[.list (ns.map .int)] }=true:=by
   have h4:=(holds_andW hc).1;rw[hn] at h4;exact h4
  have h5:=condW_of h4 (w_not (w_lt w_lit (w_len_list (w_arg rfl))));rw[x_] at h5;refine Qp λq=>?_
  have q':(n:Int) < ((ns.length:Nat):Int):=by omega
  first
   | (rw[decide_eq_true q'] at h5;exact absurd h5 (by decide))
   | (simp at h5;omega)
 cases jH with
 | cons w1 w2 =>
  cases w2;cases w1 with
  | list ho hall=>exact⟨_,_,ns,rfl,rfl,ho,Ek ns _ hall,aM⟩
theorem HJ(l:TL)(args:List WData):l.row.toRowW.claim.post args (.bool true) args=true:=
 postW_of (r:=l.row.toRowW) (X:=(true == true))
  (show TM.has [] (.bool true) .bool=true by first | rfl | decide | simp[TM.has,TM.arms,TM.armsAll])
  (show(WTm.eq .res (.lit (.bool true))).value [] { args:=args,res:=some (.bool true),after:=args }=some (.bool (true == true)) from w_eq_bool (w_res rfl) w_lit) rfl
theorem GG{l:TL}{q:B_}{XP:(Str->Option b_)->L4->Prop}{YP:J_->L4->Prop}{d:DefRec}(hn:l.most=some n)(gy:d.params.defaults=[])(call:∀(w:J_) (s₀ aw:d_) (mg mb:Str->Option b_) (fa:i_) (o:Obj) (pm cd bQ:b_) (a:i_) (vs:List b_) (ns:List Int),
   Ground q cC [] XP w s₀ mg mb aw.heap->YP w aw.heap →
   aw.heap.get? fa=some o->o.data=.func (docDef d.name d.params d.body d.scope pm cd bQ)->aw.heap.CodeRec cd d.name->mg d.name=some (.ref fa) →
   aw.heap.get? a=some { cls:=.type "list", data:=.seq vs.toArray }->M9 vs ns->ns.length<=n->aw.gens=#[] →
   Nw (m_ l.prog w) RL (.call (.ref fa) ⟨[.ref a],[]⟩) (λr s'=>r=.ok (.ret (.bool true))/\OldK aw.heap s'.heap/\s'.os=aw.os/\P5 s'.gens) aw):
  WalkO q cC XP YP l.row.toRowW d [] (λf vs=>PySem.call f vs):=by
 intro w s₀ aw mg mb G Y fa o pm cd bQ dV kV ho hd aW hD gz hg args gw as fy pM lh jH lm;obtain rfl:dV=.none:=Dflts.none hD gy;obtain rfl:kV=.none:=Dflts.noKw hD;obtain⟨a,vs,ns,rfl,rfl,gA,eN,aM⟩:=Hf hn fy jH;refine enter_call (Oc (call w s₀ aw mg mb fa o pm cd bQ a vs ns G Y ho (fd_plain hd) aW gz gA eN aM hg) λr s' hq=>?_);obtain⟨rfl,h2,h3,h4⟩:=hq;exact⟨.inl ⟨.bool true,.bool true,[],rfl,λ_=>rfl,.bool true,HJ l _,λ_=>⟨Nn.nil,λ_ hm=>(nomatch hm)⟩⟩,h2,h3,h4⟩
end Att
namespace L2
open PySem PySem.Spec PyProof.Rows
theorem AL:∀{vs:List b_}{ns:List Int},M9 vs ns->Vals (ns.map V.int) vs
 | _,_,.nil=>.nil
 | _,_,.cons n t h=>.cons ⟨t,rfl⟩ (AL h)
def Only(H:Hp):Prop:=∀b,H b=none\/∃o xs,H b=some (.frz o (.lst xs))
noncomputable def defArgs(s:Nc):Arguments:=match s with
 | .FunctionDef _ a _ _ _ _ _ _ _ _=>a
 | _=>{ posonlyargs:=[],args:=[],vararg:=none,kwonlyargs:=[],kw_defaults:=[],kwarg:=none,defaults:=[] }
noncomputable def defBody(s:Nc):List Nc:=match s with
 | .FunctionDef _ _ b _ _ _ _ _ _ _=>b
 | _=>[]
noncomputable def defScope(s:Nc):OG:=match s with
 | .FunctionDef _ _ _ _ _ _ sc _ _ _=>sc
 | _=>{ kind:=.function,names:=[],isGenerator:=false,isCoroutine:=false }
noncomputable abbrev CX0:CXT:=λ_ _ _ _ _ _=>False
noncomputable abbrev E0:XK:=λ_ _ _=>False
theorem pass0:Passes CX0 X E0:=λ_ _ _ _ _ _ _ h=>h.elim
structure Fun(K:PySem.W.Frag)(x qual:Str)(st:Nc)(f:i_)(fd:PP):Prop where
 ex:∃(oc:b_) (od:Option i_) (kV bQ pm:b_) (an:Option i_) (ay ct:b_) (c7:Array (Option b_)),
  fd=Rp x qual (defArgs st) (defBody st) (defScope st) .none kV bQ pm an ay ct/\K.lookup f=some ⟨oc,od,.func fd,c7⟩/\codeIn K ay qual=true
 kp:QN K (.ref f)=true
section
variable{P:B_}{w:J_}{K:PySem.W.Frag}
theorem Fun.ok{x:Str}{st:Nc}{k:Nat}(F:Fun K x qual st f fd)(S:FnScope N ps (defScope st))(len:∀vs H Q E,sp vs H Q E->vs.length=ps.length)(c8:∀(ay:b_) (A:Ni) (outer:List Env) (s:d_) (H:Hp) (vs:List V) (Q:VK) (E:XK),Room k (A.deeper (PQ qual (defScope st) s.heap.objs.size f ay))->sp vs H Q E →
   ∃t,PSs (cxOf CX0 P w K mg base N qual (defScope st) f ay A outer s H E).nox (defBody st) t/\t { nx:=λ_ H'=>Q .non H',rt:=Q } (start N vs) H):FnOk P w K mg base CX0 (k+1) f fd ps sp:=by
 obtain⟨oc,od,kV,bQ,pm,an,ay,ct,c7,rfl,lk,aW⟩:=F.ex;refine yz lk aW S len λA outer s H vs Q E hr dD=>?_
 obtain⟨t,h,q⟩:=c8 ay A outer s H vs Q E hr dD;exact⟨t,h.nox,q⟩
theorem Fun.binds{x:Str}{st:Nc}(F:Fun K x qual st f fd)(h:∀(kV bQ pm:b_) (an:Option i_) (ay ct:b_) (us:List b_),us.length=ps.length->NB (Rp x qual (defArgs st) (defBody st) (defScope st) .none kV bQ pm an ay ct) ⟨us,[]⟩=pure (ps.zip us)):Binds K fd ps []:=by
 obtain⟨oc,od,kV,bQ,pm,an,ay,ct,c7,rfl,lk,aW⟩:=F.ex;exact .all (h kV bQ pm an ay ct)
theorem EX{x:Str}{st:Nc}{kV bQ ay:b_}(l:K.lookup f=some ⟨oc,od,.func (Rp x qual (defArgs st) (defBody st) (defScope st) .none kV bQ pm an ay ct),c7⟩)(c:codeIn K ay qual=true)(k:QN K (.ref f)=true):Fun K x qual st f (Rp x qual (defArgs st) (defBody st) (defScope st) .none kV bQ pm an ay ct):=⟨⟨oc,od,kV,bQ,pm,an,ay,ct,c7,rfl,l,c⟩,k⟩
end
theorem vE{k:Nat}(hr:Room k A):A.units+1 < NQ:=Oz (Nat.add_le_add_left (by decide:1<=64) _) hr.units
section
theorem pv(i:Nat){x:Str}(hN:X.N[i]?=some x:=by rfl)(hv:visB X.env.scope x=true:=by rfl)(hd:(x == ("__debug__":Str))=false:=by decide)(aW:(x == ("__classdict__":Str))=false:=by decide):PE X (.Name x pos) (tVar i):=IH hN (visI hv) hd aW
end
theorem iteF{A B:Prop}(h:B):if false=true then A else B:=by
 rw[if_neg y_];exact h
theorem iteT{A B:Prop}(h:A):if true=true then A else B:=by
 rw[if_pos rfl];exact h
def Same(H H':Hp):Prop:=∀b o,H b=some o->H' b=some o
theorem Same.refl(H:Hp):Same H H:=λ_ _ h=>h
theorem Same.trans{H H1:Hp}(a:Same H H1)(b:Same H1 H2):Same H H2:=λc o h=>b c o (a c o h)
theorem Same.free{H:Hp}(e:Same H H'){l:i_}(h:H' l=Option.none):H l=Option.none:=by
 cases q:H l with
 | none=>rfl
 | some o =>
  rw[e l o q] at h;cases h
section
variable {κ:Type}[DecidableEq κ]
noncomputable def valV(aj:List (κ×V))(k:κ):Option V:=(aj.find? λkv=>decide (kv.1=k)).map (·.2)
noncomputable def putK(aj:List (κ×V))(k:κ)(v:V):List (κ×V):=
 if(aj.any λkv=>decide (kv.1=k))=true then aj.map (λkv=>if kv.1=k then(kv.1,v) else kv) else aj++[(k,v)]
theorem va{p:κ×V}{r:List (κ×V)}{k:κ}(e:p.1=k):valV (p::r) k=some p.2:=by simp[valV,PR,e]
theorem uP{p:κ×V}{r:List (κ×V)}{k:κ}(e:¬p.1=k):valV (p::r) k=valV r k:=by simp[valV,PR,e]
theorem vw(k:κ):∀aj:List (κ×V),(aj.any λkv=>decide (kv.1=k))=(valV aj k).isSome
 | []=>rfl
 | p::r=>by
  rw[O3];by_cases e:p.1=k
  ·simp only[va e,decide_eq_true e,Bool.true_or,Option.isSome_some]
  ·rw[uP e,decide_eq_false e,Bool.false_or];exact vw k r
theorem y3(aj:List (κ×V))(k:κ)(v:V):(putK aj k v).length<=aj.length+1:=by
 unfold putK;split
 ·rw[x_];omega
 ·rw[LY,Md,List.length_nil];omega
theorem Ft{aj:List (κ×V)}{k:κ}(v:V)(h:valV aj k=none):putK aj k v=aj++[(k,v)]:=by
 unfold putK;rw[vw,h];exact if_neg (by decide)
theorem RelO.isSome_eq{o:Option V}{u:Option b_}(r:RelO o u):o.isSome=u.isSome:=by
 cases o with
 | none=>cases u with
  | none=>rfl
  | some _=>exact(show False from r).elim
 | some _=>cases u with
  | none=>exact(show False from r).elim
  | some _=>rfl
theorem KV.val{aj:List (κ×V)}{vs:List (κ×b_)}(r:KV aj vs)(k:κ):RelO (valV aj k) (Ss vs k):=by
 unfold KV at r
 induction r with
 | nil=>exact QT
 | @cons p q ps qs h t ih =>
  obtain⟨h1,h2⟩:=h;by_cases e:p.1=k
  ·have e':q.1=k:=h1.symm.trans e;have b:Ss (q::qs) k=some q.2:=by simp[Ss,PR,e']
   rw[va e,b];exact h2
  ·have e':¬q.1=k:=λz=>e (h1.trans z)
   have b:Ss (q::qs) k=Ss qs k:=by simp[Ss,PR,e']
   rw[uP e,b];exact ih
theorem KV.any{aj:List (κ×V)}{vs:List (κ×b_)}(r:KV aj vs)(k:κ):(aj.any λkv=>decide (kv.1=k))=vs.any λkv=>decide (kv.1=k):=by
 unfold KV at r
 induction r with
 | nil=>rfl
 | cons h t ih=>rw[O3,O3,ih,h.1]
theorem KV.repl{aj:List (κ×V)}{vs:List (κ×b_)}(r:KV aj vs)(k:κ){y:V}{u:b_}(ry:RelV y u):
  KV (aj.map λkv=>if kv.1=k then(kv.1,y) else kv) (vs.map λkv=>if kv.1=k then(kv.1,u) else kv):=by
 unfold KV at r ⊢
 induction r with
 | nil=>exact .nil
 | @cons p q ps qs h t ih =>
  rw[K_,K_];refine .cons ?_ ih;obtain⟨h1,h2⟩:=h;by_cases e:p.1=k
  ·rw[if_pos e,if_pos (h1.symm.trans e)];exact⟨h1,ry⟩
  ·rw[if_neg e,if_neg (λz=>e (h1.trans z))];exact⟨h1,h2⟩
theorem KV.put{aj:List (κ×V)}{vs:List (κ×b_)}(r:KV aj vs)(k:κ){y:V}{u:b_}(ry:RelV y u):KV (putK aj k y) (stored vs k u):=by
 unfold putK stored;rw[r.any k];by_cases e:(vs.any λkv=>decide (kv.1=k))=true
 ·rw[if_pos e,if_pos e];exact r.repl k ry
 ·rw[if_neg e,if_neg e];exact snoc r ⟨rfl,ry⟩
theorem KV.keys{aj:List (κ×V)}{vs:List (κ×b_)}(r:KV aj vs):aj.map (·.1)=vs.map (·.1):=by
 unfold KV at r
 induction r with
 | nil=>rfl
 | cons h t ih=>rw[K_,K_,ih,h.1]
theorem KV.length{aj:List (κ×V)}{vs:List (κ×b_)}(r:KV aj vs):aj.length=vs.length:=Paired.length r
end
theorem wX{P:B_}{w:J_}{k:Key}{u:b_}(r:RelV (kV k) u):(mixKind P w).is k u=true:=by
 cases k with
 | inl i=>obtain⟨t,e⟩:=(show ∃t,u=b_.int i t from r);subst e;exact Gk P w i t
 | inr x=>obtain⟨t,e⟩:=(show ∃t,u=b_.str x t from r);subst e;exact DK P w x t
theorem zM{P:B_}{w:J_}:∀{ks:List Key}{us:List b_},Vals (ks.map kV) us->ItemsAre (mixKind P w) ks us
 | [],_,r=>by rw[map_nil] at r;cases r;exact .nil
 | k::ks,_,r=>by
  rw[K_] at r;cases r with
  | cons h t=>exact .cons (wX h) (zM t)
abbrev KT(H:Hp):List (List Key×V)->List (List Key×i_×b_)->Prop:=Paired λp q=>p.1=q.1/\H q.2.1=some (.tup (p.1.map kV))/\RelV p.2 q.2.2
theorem KT.val{H:Hp}{xs:List (List Key×i_×b_)}(r:KT H aj xs)(k:List Key):RelO (valV aj k) ((Tj xs k).map (·.2)):=by
 induction r with
 | nil=>exact QT
 | @cons p q ps qs h t ih =>
  obtain⟨h1,_,h2⟩:=h;by_cases e:p.1=k
  ·have e':q.1=k:=h1.symm.trans e;have b:Tj (q::qs) k=some q.2:=by simp[Tj,PR,e']
   rw[va e,b];exact h2
  ·have e':¬q.1=k:=λz=>e (h1.trans z)
   have b:Tj (q::qs) k=Tj qs k:=by simp[Tj,PR,e']
   rw[uP e,b];exact ih
theorem KT.repl{H:Hp}{xs:List (List Key×i_×b_)}(r:KT H aj xs)(k:List Key){y:V}{u:b_}(ry:RelV y u):
  KT H (aj.map λkv=>if kv.1=k then(kv.1,y) else kv) (xs.map (putAt k u)):=by
 induction r with
 | nil=>exact .nil
 | @cons p q ps qs h t ih =>
  rw[K_,K_];refine .cons ?_ ih;obtain⟨h1,h2,h3⟩:=h;unfold putAt;by_cases e:p.1=k
  ·rw[if_pos e,if_pos (h1.symm.trans e)];exact⟨h1,h2,ry⟩
  ·rw[if_neg e,if_neg (λz=>e (h1.trans z))];exact⟨h1,h2,h3⟩
theorem KT.put{H:Hp}{xs:List (List Key×i_×b_)}(r:KT H aj xs)(k:List Key){b:i_}{y:V}{u:b_}(hb:H b=some (.tup (k.map kV)))(ry:RelV y u):
  KT H (putK aj k y) (storedH xs k b u):=by
 have e:(aj.any λkv=>decide (kv.1=k))=(Tj xs k).isSome:=by
  rw[vw,(r.val k).isSome_eq,Su]
 unfold putK storedH;rw[e];by_cases q:(Tj xs k).isSome=true
 ·rw[if_pos q,if_pos q];exact r.repl k ry
 ·rw[if_neg q,if_neg q];exact snoc r ⟨rfl,hb,ry⟩
theorem KT.keeps{H:Hp}{xs:List (List Key×i_×b_)}(r:KT H aj xs)(ht:∀b ys,H b=some (.tup ys)->H' b=some (.tup ys)):KT H' aj xs:=
 Paired.mapP r λ_ _ z=>⟨z.1,ht _ _ z.2.1,z.2.2⟩
section
variable{P:B_}{w:J_}{H:Hp}{a:i_}
theorem BL{u:HO}(ok:HOk P w H h)(e:Rd H a u):ObjOk P w H h a u:=e.ok ok
theorem vt{aj:List (Key×V)}(ok:HOk P w H h)(e:Rd H a (.dK aj)):aj.length<=v_/\(a == NI)=false/\∃vs,KV aj vs/\h.DictOf (mixKind P w) a vs:=
 show ObjOk P w H h a (.dK aj) from BL ok e
theorem Bf{aj:List (Key×V)}(ok:HOk P w H h)(e:H a=some (.dK aj)):aj.length<=v_/\(a == NI)=false/\∃vs,KV aj vs/\h.DictOf (mixKind P w) a vs:=vt ok (.inl e)
theorem wR(ok:HOk P w H h)(e:H a=some (.tup (ks.map kV))):(RI (mixKind P w)).is h ks a:=by
 obtain⟨_,af,r,o,h1,h2,n,h3⟩:=(show ObjOk P w H h a (.tup (ks.map kV)) from ok a _ e);exact⟨o,af.toArray,n,h1,h2,h3,by simpa using zM r⟩
theorem Ao(ok:HOk P w H h)(e:Rd H a (.dT aj)):aj.length<=v_/\(a == NI)=false ∧
  ∃xs,KT H aj xs/\h.DictOfH (RI (mixKind P w)) a xs:=by
 obtain⟨z,y,xs,r,o,es,ep,h1,h2,h3,h4,h5⟩:=(show ObjOk P w H h a (.dT aj) from BL ok e);refine⟨z,y,xs,r,o,es,ep,h1,h2,h3,h4,λx hx=>?_,h5⟩
 have all:∀{l:List (List Key×V)}{m:List (List Key×i_×b_)},KT H l m->∀x∈m,(RI (mixKind P w)).is h x.1 x.2.1:=by
  intro l m q
  induction q with
  | nil=>intro x hx;exact nomatch hx
  | @cons p q ps qs hq t ih =>
   intro x hx
   rcases n_.mp hx with e | hx
   ·subst e;exact wR ok (by rw[←hq.1];exact hq.2.1)
   ·exact ih x hx
 exact all r x hx
theorem Gu(ok:HOk P w H h)(e:H a=some (.dT aj)):aj.length<=v_/\(a == NI)=false ∧
  ∃xs,KT H aj xs/\h.DictOfH (RI (mixKind P w)) a xs:=Ao ok (.inl e)
end
def DGet(H:Hp)(a:i_)(y:V)(r:Option V):Prop:=
 (∃aj k,Rd H a (.dK aj)/\y=kV k/\r=valV aj k)\/∃aj k b,Rd H a (.dT aj)/\y=.ref b/\H b=some (.tup (k.map kV))/\r=valV aj k
def DPut(H:Hp)(a:i_)(y v:V)(H':Hp):Prop:=
 (∃aj k,H a=some (.dK aj)/\y=kV k/\aj.length < v_/\H'=upd H a (.dK (putK aj k v))) ∨
 ∃aj k b,H a=some (.dT aj)/\y=.ref b/\H b=some (.tup (k.map kV))/\aj.length < v_/\H'=upd H a (.dT (putK aj k v))
theorem DPut.k{H:Hp}{a:i_}{aj:List (Key×V)}{k:Key}{v:V}(e:H a=some (.dK aj))(hl:aj.length < v_):DPut H a (kV k) v (upd H a (.dK (putK aj k v))):=.inl ⟨aj,k,e,rfl,hl,rfl⟩
section
variable{H:Hp}{s:d_}{a:i_}{y v:V}{u r:b_}{o:Option V}{E:b_->d_->Prop}
theorem Inv.big(I:Inv X aa U H s):NI < s.heap.objs.size:=by
 have h:My < s.heap.objs.size:=(I.mod.glob.keeps I.bk).lt;exact Rt (by decide) h
theorem Fj{Q:b_->d_->Prop}(hu:A.units+1 < NQ)(I:Inv X aa U H s)(g:DGet H a y o)(ry:RelV y u)(h:∀s',Inv X aa U H s'->Q (.bool (!o.isSome)) s'):
  z_ (m_ X.prog X.w) A (MS .NotIn u (.ref a)) Q E s:=by
 rcases g with⟨aj,k,e,ey,l⟩ | ⟨aj,k,b,e,ey,eb,l⟩
 ·subst ey;obtain⟨z,hd,vs,aN,dd⟩:=vt I.hok e;refine wpAny_notIn_of (wX ry) hd dd.mapOf ?_;rw[←(aN.val k).isSome_eq,←l];exact h _ (I.tok _)
 ·subst ey
  cases(show u=b_.ref b from ry)
  obtain⟨z,hd,xs,aN,dd⟩:=Ao I.hok e;refine wpAny_notIn_heap (Sb hu) (wR I.hok eb) hd dd ?_;have q:=(aN.val k).isSome_eq;rw[Su] at q;rw[←q,←l];exact h _ (I.tok _)
theorem xF{ob:HO}(I:Inv X aa U H s)(mu:Mut (H a))(hs:L4.SameBut a s.heap h')(he:∃q,h'.get? a=some q)(new:ObjOk X.prog X.w (upd H a ob) h' a ob):
  Inv X aa U (upd H a ob) { s with heap:=h',toks:=t' }:=
 I.write (x:=a) (e:=a) mu (.inl rfl) (λb q hb z=>(hs.2 b hb).trans z) he new
theorem CK{P:B_}{w:J_}{aj:List (Key×V)}{vs:List (Key×b_)}(z:aj.length<=v_)(hd:(a == NI)=false)(aN:KV aj vs)(dd:h'.DictOf (mixKind P w) a vs):
  ObjOk P w H' h' a (.dK aj):=⟨z,hd,vs,aN,dd⟩
theorem Ka{Q:Unit->d_->Prop}(hu:A.units+1 < NQ)(I:Inv X aa U H s)(g:DPut H a y v H')(ry:RelV y u)(rv:RelV v r)(h:∀s',Inv X aa U H' s'->Q () s'):
  z_ (m_ X.prog X.w) A (TK (.ref a) u r) Q E s:=by
 rcases g with⟨aj,k,e,ey,l,eH⟩ | ⟨aj,k,b,e,ey,eb,l,eH⟩
 ·subst ey eH;obtain⟨z,hd,vs,aN,dd⟩:=Bf I.hok e;have hz:vs.length<=v_:=by rw[←aN.length];exact z
  have hl:(putK aj k v).length<=v_:=by have:=y3 aj k v;omega
  refine wpAny_setItem_pairs (hsz:=hz) (wX ry) dd λh' iu hs=>h _ ?_
  have he:∃q,h'.get? a=some q:=let ⟨q,_,_,hq,_⟩:=iu;⟨q,hq⟩
  exact xF I (by rw[e];exact QT) hs he (CK hl hd (aN.put k rv) iu)
 ·subst ey eH
  cases(show u=b_.ref b from ry)
  obtain⟨z,hd,xs,aN,dd⟩:=Gu I.hok e;have hz:xs.length<=v_:=by rw[←Paired.length aN];exact z
  have hl:(putK aj k v).length<=v_:=by have:=y3 aj k v;omega
  refine wpAny_setItem_heap (hsz:=hz) (Sb hu) (wR I.hok eb) dd λh' iu hs=>h _ ?_
  obtain⟨q,es,ep,hq,h2,h3,h4,_,h5⟩:=iu;refine xF I (by rw[e];exact QT) hs ⟨q,hq⟩ ⟨hl,hd,_,(aN.put k eb rv).keeps λc ys ec=>?_,q,es,ep,hq,h2,h3,h4,h5⟩;rw[qx (CI ec e (λz=>nomatch z))];exact ec
end
noncomputable def tDNotIn(ty td:TE):TE:=λU H Q=>ty U H λy H1=>td U H1 λx H2=>∃a o,x=.ref a/\DGet H2 a y o/\Q (.bl (!o.isSome)) H2
noncomputable def sDPut(td ty tv:TE):TS:=λD U H=>tv U H λv H1=>td U H1 λx H2=>ty U H2 λy H3=>∃a H4,x=.ref a/\DPut H3 a y v H4/\D.nx U H4
section
variable{o i value:L8}{k8:Pos}{td ty tv:TE}
theorem Ee(hu:X.A.units+1 < NQ)(hi:PE X i ty)(ho:PE X o td):PC X .NotIn i o (tDNotIn ty td):=by
 intro aa s U H Q I h;refine thn (hi aa s U H _ I h) λiv s1 ⟨y,H1,I1,ry,q1⟩=>thn (ho aa s1 U H1 _ I1 q1) λu s2 ⟨x,H2,I2,rx,a,ov,ex,g,q2⟩=>?_
 subst ex;obtain rfl:u=b_.ref a:=rx;exact Fj hu I2 g ry λs3 I3=>⟨.bl (!ov.isSome),H2,I3,rfl,q2⟩
theorem EB(hu:X.A.units+1 < NQ)(ho:PE X o td)(hi:PE X i ty)(hv:PE X value tv)(hs:NO value (some (.Subscript o i aA)) pos.line X.env=pure false):
  PS X (.Assign [.Subscript o i aA] value pos) (sDPut td ty tv):=by
 intro aa s U H D I h;refine wpAny_Assign_Subscript (thn (hv aa s U H _ I h) λr s1 ⟨v,H1,I1,rv,q1⟩=>thn (ho aa s1 U H1 _ I1 q1) λu s2 ⟨x,H2,I2,rx,q2⟩=>thn (hi aa s2 U H2 _ I2 q2) λiv s3 ⟨y,H3,I3,ry,a,H4,ex,g,q3⟩=>?_) hs;subst ex;obtain rfl:u=b_.ref a:=rx;exact Ka hu I3 g ry rv λs4 I4=>⟨U,H4,I4,q3⟩
end
theorem Gv{P:B_}{w:J_}{H:Hp}(h:L4)(hb:NI < h.objs.size):ObjOk P w H (h.push { cls:=.type "dict", data:=.dict #[] }) h.objs.size (.dK []):=
 ⟨Me _,beq_eq_false_iff_ne.mpr (LU (LW hb)),[],.nil,L4.DictOf.new h⟩
noncomputable def tDNewK:TE:=λ_ H Q=>∀p,H p=none->Q (.ref p) (upd H p (.dK []))
section
theorem FF:PE X (.Dict [] [] pos) tDNewK:=λaa s U H Q I h =>
 wpAny_Dict_empty ⟨.ref s.heap.objs.size,_,I.laid (a:=s.heap.objs.size) (o:=.dK []) (t':=s.toks) (λ_ _ q=>c_ _ q) (A_ _) (Gv s.heap I.big),rfl,h _ (I.hok.fresh (A_ _))⟩
end
end L2
set_option maxHeartbeats 4000000
namespace DL
open PySem PySem.Spec PyProof.Rows L2
inductive D where
 | non | bl (b:Bool) | int (i:Int) | str (x:Str) | tup (xs:List D) | lst (xs:List D) | dct (ns:List Int)
def RdK(K:PySem.W.Frag)(I:Hp)(a:i_)(xs:List V):Prop:=Rd I a (.lst xs)\/∃(af:List b_) (n:Nat),K.lookup a=some { cls:=.type "list", data:=.seq af.toArray n }/\Vals xs af/\af.length<=v_
theorem RdK.of{K:PySem.W.Frag}{a:i_}(h:I a=some (.lst xs)):RdK K I a xs:=.inl (.inl h)
theorem RdK.sq{K:PySem.W.Frag}{a:i_}(h:RdK K I a xs):SqL K I a xs:=by
 rcases h with h | ⟨af,n,h1,h2,h3⟩
 ·exact .inl h
 ·exact .inr ⟨_,af.toArray,n,h1,rfl,rfl,rfl,by simpa using h3,by simpa using h2⟩
mutual
def Is(K:PySem.W.Frag)(I:Hp):D->V->Prop
 | .non,v=>v=.non
 | .bl b,v=>v=.bl b
 | .int i,v=>v=.int i
 | .str x,v=>v=.str x
 | .tup ds,v=>∃a xs,v=.ref a/\SqT K I a xs/\IsA K I ds xs
 | .lst ds,v=>∃a xs,v=.ref a/\RdK K I a xs/\IsA K I ds xs
 | .dct ns,v=>∃a o xs,v=.ref a/\I a=some (.frz o (.dK xs))/\xs.map (·.1)=ns.map L_
def IsA(K:PySem.W.Frag)(I:Hp):List D->List V->Prop
 | [],xs=>xs=[]
 | d::ds,xs=>∃x r,xs=x::r/\Is K I d x/\IsA K I ds r
end
section
variable{K:PySem.W.Frag}{H:Hp}
theorem Same.rd{a:i_}(e:Same I I')(h:Rd I a o):Rd I' a o:=by
 rcases h with h | ⟨u,h⟩
 ·exact .inl (e _ _ h)
 ·exact .inr ⟨u,e _ _ h⟩
theorem Same.rdK{a:i_}(e:Same I I')(h:RdK K I a xs):RdK K I' a xs:=by
 rcases h with h | h
 ·exact .inl (Same.rd e h)
 ·exact .inr h
theorem Same.sqT{a:i_}(e:Same I I')(h:SqT K I a xs):SqT K I' a xs:=by
 rcases h with h | h
 ·exact .inl (Same.rd e h)
 ·exact .inr h
mutual
theorem Is.mono(e:Same I I'):∀{d:D}{v:V},Is K I d v->Is K I' d v
 | .non,_,h=>by rw[Is] at h ⊢;exact h
 | .bl _,_,h=>by rw[Is] at h ⊢;exact h
 | .int _,_,h=>by rw[Is] at h ⊢;exact h
 | .str _,_,h=>by rw[Is] at h ⊢;exact h
 | .tup ds,v,h=>by
  rw[Is] at h ⊢;obtain⟨a,xs,e1,e2,e3⟩:=h;exact⟨a,xs,e1,Same.sqT e e2,IsA.mono e e3⟩
 | .lst ds,v,h=>by
  rw[Is] at h ⊢;obtain⟨a,xs,e1,e2,e3⟩:=h;exact⟨a,xs,e1,Same.rdK e e2,IsA.mono e e3⟩
 | .dct ns,v,h=>by
  rw[Is] at h ⊢;obtain⟨a,o,xs,e1,e2,e3⟩:=h;exact⟨a,o,xs,e1,e _ _ e2,e3⟩
theorem IsA.mono(e:Same I I'):∀{ds:List D}{xs:List V},IsA K I ds xs->IsA K I' ds xs
 | [],_,h=>by rw[IsA] at h ⊢;exact h
 | d::ds,xs,h=>by
  rw[IsA] at h ⊢;obtain⟨x,r,e1,e2,e3⟩:=h;exact⟨x,r,e1,Is.mono e e2,IsA.mono e e3⟩
end
theorem IsA.nil:IsA K I [] []:=by rw[IsA]
theorem IsA.cons{d:D}{ds:List D}{x:V}{xs:List V}(h:Is K I d x)(t:IsA K I ds xs):IsA K I (d::ds) (x::xs):=by
 rw[IsA];exact⟨x,xs,rfl,h,t⟩
theorem IsA.nil_inv(h:IsA K I [] xs):xs=[]:=by rw[IsA] at h;exact h
theorem IsA.cons_inv{d:D}{ds:List D}(h:IsA K I (d::ds) xs):∃x r,xs=x::r/\Is K I d x/\IsA K I ds r:=by rw[IsA] at h;exact h
theorem IsA.length:∀{ds:List D}{xs:List V},IsA K I ds xs->ds.length=xs.length
 | [],xs,h=>by rw[h.nil_inv]<;>rfl
 | d::ds,xs,h=>by
  obtain⟨x,r,rfl,_,t⟩:=h.cons_inv;simp[IsA.length t]
theorem IsA.get:∀{ds:List D}{xs:List V}{i:Nat}{d:D},IsA K I ds xs->ds[i]?=some d->∃x,xs[i]?=some x/\Is K I d x
 | [],xs,i,d,h,e=>by simp at e
 | c::ds,xs,0,d,h,e=>by
  obtain⟨x,r,rfl,hx,t⟩:=h.cons_inv;simp at e;subst e;exact⟨x,rfl,hx⟩
 | c::ds,xs,i+1,d,h,e=>by
  obtain⟨x,r,rfl,hx,t⟩:=h.cons_inv;obtain⟨y,e1,e2⟩:=IsA.get (i:=i) t (by simpa using e);exact⟨y,by simpa using e1,e2⟩
theorem IsA.append:∀{ds es:List D}{xs ys:List V},IsA K I ds xs->IsA K I es ys->IsA K I (ds++es) (xs++ys)
 | [],es,xs,ys,h,t=>by rw[h.nil_inv];exact t
 | d::ds,es,xs,ys,h,t=>by
  obtain⟨x,r,rfl,hx,h'⟩:=h.cons_inv;exact IsA.cons hx (IsA.append h' t)
theorem IsA.take:∀{ds:List D}{xs:List V} (n:Nat),IsA K I ds xs->IsA K I (ds.take n) (xs.take n)
 | ds,xs,0,h=>by rw[take_zero,take_zero];exact IsA.nil
 | [],xs,n+1,h=>by rw[h.nil_inv];exact IsA.nil
 | d::ds,xs,n+1,h=>by
  obtain⟨x,r,rfl,hx,h'⟩:=h.cons_inv;rw[RP,RP];exact IsA.cons hx (IsA.take n h')
theorem IsA.drop:∀{ds:List D}{xs:List V} (n:Nat),IsA K I ds xs->IsA K I (ds.drop n) (xs.drop n)
 | ds,xs,0,h=>by rw[Qq,Qq];exact h
 | [],xs,n+1,h=>by rw[h.nil_inv];exact IsA.nil
 | d::ds,xs,n+1,h=>by
  obtain⟨x,r,rfl,hx,h'⟩:=h.cons_inv;rw[OJ,OJ];exact IsA.drop n h'
theorem IsA.set{d:D}{x:V}(q:Is K I d x):∀{ds:List D}{xs:List V} (n:Nat),IsA K I ds xs->IsA K I (ds.set n d) (xs.set n x)
 | [],xs,n,h=>by rw[h.nil_inv];exact IsA.nil
 | c::ds,xs,0,h=>by
  obtain⟨y,r,rfl,hx,h'⟩:=h.cons_inv;exact IsA.cons q h'
 | c::ds,xs,n+1,h=>by
  obtain⟨y,r,rfl,hx,h'⟩:=h.cons_inv;exact IsA.cons hx (IsA.set q n h')
theorem IsA.reverse:∀{ds:List D}{xs:List V},IsA K I ds xs->IsA K I ds.reverse xs.reverse
 | [],xs,h=>by rw[h.nil_inv];exact IsA.nil
 | d::ds,xs,h=>by
  obtain⟨x,r,rfl,hx,h'⟩:=h.cons_inv;rw[Pu,Pu];exact IsA.append (IsA.reverse h') (IsA.cons hx IsA.nil)
theorem IsA.one{d:D}(h:IsA K I [d] xs):∃x,xs=[x]/\Is K I d x:=by
 obtain⟨x,r,rfl,hx,t⟩:=h.cons_inv;rw[t.nil_inv];exact⟨x,rfl,hx⟩
theorem IsA.two{d e:D}(h:IsA K I [d,e] xs):∃x y,xs=[x,y]/\Is K I d x/\Is K I e y:=by
 obtain⟨x,r,rfl,hx,t⟩:=h.cons_inv;obtain⟨y,rfl,hy⟩:=t.one;exact⟨x,y,rfl,hx,hy⟩
theorem qD{i:Int}{v:V}(h:Is K I (.int i) v):v=.int i:=by rw[Is] at h;exact h
theorem rm{i:Bool}{v:V}(h:Is K I (.bl i) v):v=.bl i:=by rw[Is] at h;exact h
theorem rH{i:Str}{v:V}(h:Is K I (.str i) v):v=.str i:=by rw[Is] at h;exact h
theorem rK{v:V}(h:Is K I .non v):v=.non:=by rw[Is] at h;exact h
theorem qK{ds:List D}{v:V}(h:Is K I (.tup ds) v):∃a xs,v=.ref a/\SqT K I a xs/\IsA K I ds xs:=by rw[Is] at h;exact h
theorem qJ{ds:List D}{v:V}(h:Is K I (.lst ds) v):∃a xs,v=.ref a/\RdK K I a xs/\IsA K I ds xs:=by rw[Is] at h;exact h
theorem tN{v:V}(h:Is K I (.dct ns) v):∃a o xs,v=.ref a/\I a=some (.frz o (.dK xs))/\xs.map (·.1)=ns.map L_:=by rw[Is] at h;exact h
theorem Is.dct{a:i_}{o:Obj}{xs:List (Key×V)}(h:I a=some (.frz o (.dK xs)))(q:xs.map (·.1)=ns.map L_):Is K I (.dct ns) (.ref a):=by rw[Is];exact⟨a,o,xs,rfl,h,q⟩
theorem Is.int(i:Int):Is K I (.int i) (.int i):=by rw[Is]
theorem Is.bl(i:Bool):Is K I (.bl i) (.bl i):=by rw[Is]
theorem Is.str(i:Str):Is K I (.str i) (.str i):=by rw[Is]
theorem Is.non:Is K I .non .non:=by rw[Is]
theorem Is.tup{ds:List D}{a:i_}(h:SqT K I a xs)(t:IsA K I ds xs):Is K I (.tup ds) (.ref a):=by rw[Is];exact⟨a,xs,rfl,h,t⟩
theorem Is.lst{ds:List D}{a:i_}(h:RdK K I a xs)(t:IsA K I ds xs):Is K I (.lst ds) (.ref a):=by rw[Is];exact⟨a,xs,rfl,h,t⟩
end
inductive R where
 | val (d:D) | own (ds:List D) | bor (ds:List D) | fro (ds:List D) | dic (aj:List (Int×D))
noncomputable def R.mut:R->Bool
 | .val _=>false
 | .own _=>true
 | .bor _=>true
 | .fro _=>false
 | .dic _=>false
noncomputable def R.ptr:R->Bool
 | .val _=>false
 | .own _=>true
 | .bor _=>true
 | .fro _=>false
 | .dic _=>true
abbrev Gm:=List (Option R)
def Mt(K:PySem.W.Frag)(G I H:Hp)(ds:List D)(v:V):Prop:=∃p xs,v=.ref p/\H p=some (.lst xs)/\I p=none/\G p=none/\IsA K I ds xs
def IsK(K:PySem.W.Frag)(I:Hp)(aj:List (Int×D))(xs:List (Key×V)):Prop:=xs.map (·.1)=aj.map (λq=>L_ q.1)/\IsA K I (aj.map (·.2)) (xs.map (·.2))
theorem IsK.mono{K:PySem.W.Frag}{aj:List (Int×D)}{xs:List (Key×V)}(e:Same I I')(h:IsK K I aj xs):IsK K I' aj xs:=⟨h.1,h.2.mono e⟩
def MtK(K:PySem.W.Frag)(G I H:Hp)(aj:List (Int×D))(v:V):Prop:=∃p xs,v=.ref p/\H p=some (.dK xs)/\I p=none/\G p=none/\IsK K I aj xs
def SlotOk(K:PySem.W.Frag)(G I H:Hp):R->V->Prop
 | .val d,v=>Is K I d v
 | .own ds,v=>Mt K G I H ds v
 | .bor ds,v=>Mt K G I H ds v
 | .fro ds,v=>∃p xs,v=.ref p/\I p=some (.lst xs)/\G p=none/\IsA K I ds xs
 | .dic aj,v=>MtK K G I H aj v
theorem SlotOk.mt{K:PySem.W.Frag}{H:Hp}{r:R}{v:V}(h:SlotOk K G I H r v)(m:r.ptr=true):∃p xs,v=.ref p/\H p=some xs/\I p=none/\G p=none:=by
 cases r with
 | val d=>cases m
 | own ds=>obtain⟨p,xs,e1,e2,e3,e4,_⟩:=h;exact⟨p,_,e1,e2,e3,e4⟩
 | bor ds=>obtain⟨p,xs,e1,e2,e3,e4,_⟩:=h;exact⟨p,_,e1,e2,e3,e4⟩
 | fro ds=>cases m
 | dic ds=>obtain⟨p,xs,e1,e2,e3,e4,_⟩:=h;exact⟨p,_,e1,e2,e3,e4⟩
structure Rep(K:PySem.W.Frag)(B:Nat->Option (Option V))(G I H:Hp)(U:L2.St)(Z:Gm):Prop where
 iH:Same I H
 gH:Same G H
 len:U.length=Z.length
 slot:∀(i:Nat) (r:R),Z[i]?=some (some r)->∃v,U[i]?=some (some v)/\SlotOk K G I H r v
 dist:∀(i j:Nat) (r r':R) (v:V),Z[i]?=some (some r)->Z[j]?=some (some r')->r.ptr=true->r'.ptr=true->U[i]?=some (some v)->U[j]?=some (some v)->i=j
 bor:∀(i:Nat) (ds:List D),Z[i]?=some (some (.bor ds))->U[i]?=B i
structure Grow(G I I':Hp):Prop where
 up:Same I I'
 new:∀b o,I' b=some o->I b=some o\/G b=none
theorem Grow.refl(G I:Hp):Grow G I I:=⟨Same.refl _,λ_ _ h=>.inl h⟩
theorem Grow.trans{I1 I2:Hp}(a:Grow G I I1)(b:Grow G I1 I2):Grow G I I2:=⟨a.up.trans b.up,λc o h=>by
 rcases b.new c o h with h1 | h1
 ·exact a.new c o h1
 ·exact .inr h1⟩
section
variable{K:PySem.W.Frag}{B:Nat->Option (Option V)}{H:Hp}{Z:Gm}
theorem Rep.ext(r:Rep K B G I H U Z)(hI:Same I I')(hH:Same H H')(iH:Same I' H')(new:∀b o,I' b=some o->I b=some o\/H b=none):Rep K B G I' H' U Z where
 iH:=iH
 gH:=r.gH.trans hH
 len:=r.len
 slot:=λi q e=>by
  obtain⟨v,e1,e2⟩:=r.slot i q e;refine⟨v,e1,?_⟩
  have mt:∀ds,Mt K G I H ds v->Mt K G I' H' ds v:=λds h=>by
   obtain⟨p,xs,h1,h2,h3,h4,h5⟩:=h;refine⟨p,xs,h1,hH _ _ h2,?_,h4,h5.mono hI⟩;cases z:I' p with
   | none=>rfl
   | some o =>
    rcases new p o z with z1 | z1
    ·rw[h3] at z1;cases z1
    ·rw[h2] at z1;cases z1
  cases q with
  | val d=>exact Is.mono hI e2
  | dic ds =>
   obtain⟨p,xs,h1,h2,h3,h4,h5⟩:=e2;refine⟨p,xs,h1,hH _ _ h2,?_,h4,h5.mono hI⟩;cases z:I' p with
   | none=>rfl
   | some o =>
    rcases new p o z with z1 | z1
    ·rw[h3] at z1;cases z1
    ·rw[h2] at z1;cases z1
  | own ds=>exact mt ds e2
  | bor ds=>exact mt ds e2
  | fro ds=>obtain⟨p,xs,f1,f2,f3,f4⟩:=e2;exact⟨p,xs,f1,hI _ _ f2,f3,f4.mono hI⟩
 dist:=r.dist
 bor:=r.bor
theorem rf{H:Hp}{p:i_}(h:H p=none)(o:HO):Same H (upd H p o):=λb u q=>by rw[qx (rG q h)];exact q
theorem Bu{I H:Hp}{p:i_}(h:Same I H)(o:HO):Same (upd I p o) (upd H p o):=λb u q=>by
 by_cases e:b=p
 ·subst e;rw[qH] at q ⊢;exact q
 ·rw[qx e] at q ⊢;exact h b u q
theorem Rep.iFree(r:Rep K B G I H U Z){p:i_}(h:H p=none):I p=none:=r.iH.free h
theorem Rep.gFree(r:Rep K B G I H U Z){p:i_}(h:H p=none):G p=none:=r.gH.free h
theorem Rep.alloc(r:Rep K B G I H U Z){p:i_}(h:H p=none)(o:HO):Rep K B G (upd I p o) (upd H p o) U Z:=
 r.ext (rf (r.iFree h) o) (rf h o) (Bu r.iH o) λb u q=>by
  by_cases e:b=p
  ·subst e;exact .inr h
  ·rw[qx e] at q;exact .inl q
theorem Rep.growAlloc(r:Rep K B G I H U Z){p:i_}(h:H p=none)(o:HO):Grow G I (upd I p o):=⟨rf (r.iFree h) o,λb u q=>by
 by_cases e:b=p
 ·subst e;exact .inr (r.gFree h)
 ·rw[qx e] at q;exact .inl q⟩
theorem Rep.fresh(r:Rep K B G I H U Z){p:i_}(h:H p=none)(o:HO):Rep K B G I (upd H p o) U Z:=
 r.ext (Same.refl _) (rf h o) (r.iH.trans (rf h o)) λb u q=>.inl q
def Apart(U:L2.St)(Z:Gm)(p:i_):Prop:=∀(j:Nat) (r:R),Z[j]?=some (some r)->r.ptr=true->U[j]?≠some (some (.ref p))
theorem Rep.apart(r:Rep K B G I H U Z){p:i_}(h:H p=none):Apart U Z p:=λj q e m z=>by
 obtain⟨v,e1,e2⟩:=r.slot j q e;obtain⟨p',xs,h1,h2,_,_⟩:=e2.mt m;rw[e1] at z;subst h1;cases z;rw[h] at h2;cases h2
theorem Rep.freeze(r:Rep K B G I H U Z){p:i_}(h:H p=some (.lst xs))(hi:I p=none)(a:Apart U Z p):Rep K B G (upd I p (.lst xs)) H U Z where
 iH:=λb u q=>by
  by_cases e:b=p
  ·subst e;rw[qH] at q;cases q;exact h
  ·rw[qx e] at q;exact r.iH b u q
 gH:=r.gH
 len:=r.len
 slot:=λi q e=>by
  obtain⟨v,e1,e2⟩:=r.slot i q e;refine⟨v,e1,?_⟩;have up:=rf hi (.lst xs)
  have mt:q.ptr=true->∀ds,Mt K G I H ds v->Mt K G (upd I p (.lst xs)) H ds v:=λm ds h=>by
   obtain⟨p',bb,h1,h2,h3,h4,h5⟩:=h;refine⟨p',bb,h1,h2,?_,h4,h5.mono up⟩;have ne:p'≠p:=λz=>a i q e m (by rw[e1,h1,z])
   rw[qx ne];exact h3
  cases q with
  | val d=>exact Is.mono up e2
  | dic ds =>
   obtain⟨p',bb,h1,h2,h3,h4,h5⟩:=e2;refine⟨p',bb,h1,h2,?_,h4,h5.mono up⟩;have ne:p'≠p:=λz=>a i _ e rfl (by rw[e1,h1,z])
   rw[qx ne];exact h3
  | own ds=>exact mt rfl ds e2
  | bor ds=>exact mt rfl ds e2
  | fro ds=>obtain⟨p,xs,f1,f2,f3,f4⟩:=e2;exact⟨p,xs,f1,up _ _ f2,f3,f4.mono up⟩
 dist:=r.dist
 bor:=r.bor
theorem growFreeze{G I:Hp}{p:i_}(hi:I p=none)(hg:G p=none):Grow G I (upd I p (.lst xs)):=⟨rf hi _,λb u q=>by
 by_cases e:b=p
 ·subst e;exact .inr hg
 ·rw[qx e] at q;exact .inl q⟩
theorem qU{α:Type}{l:List α}{i:Nat}{a b:α}(h:(l.set i a)[j]?=some b):(j=i/\b=a/\i < l.length)\/(j≠i/\l[j]?=some b):=by
 by_cases e:j=i
 ·subst e;by_cases hl:j < l.length
  ·rw[N0 hl] at h;cases h;exact .inl ⟨rfl,rfl,hl⟩
  ·rw[M3 (by rw[Oy];omega)] at h;cases h
 ·rw[Ng (LU e)] at h;exact .inr ⟨e,h⟩
theorem Rep.forget(r:Rep K B G I H U Z)(i:Nat):Rep K B G I H U (Z.set i none) where
 iH:=r.iH
 gH:=r.gH
 len:=by rw[Oy];exact r.len
 slot:=λj q e=>by
  rcases qU e with⟨_,z,_⟩ | ⟨_,z⟩
  ·cases z
  ·exact r.slot j q z
 dist:=λj k q q' v e e'=>by
  rcases qU e with⟨_,z,_⟩ | ⟨_,z⟩
  ·cases z
  rcases qU e' with⟨_,z',_⟩ | ⟨_,z'⟩
  ·cases z'
  exact r.dist j k q q' v z z'
 bor:=λj ds e=>by
  rcases qU e with⟨_,z,_⟩ | ⟨_,z⟩
  ·cases z
  ·exact r.bor j ds z
theorem Rep.learn(r:Rep K B G I H U Z){i:Nat}{q:R}{v:V}(hv:U[i]?=some (some v))(ok:SlotOk K G I H q v)(ha:q.ptr=true->∀p,v=.ref p->∀(j:Nat) (r:R),j≠i->Z[j]?=some (some r)->r.ptr=true->U[j]?≠some (some (.ref p)))(hb:∀ds,q=.bor ds->U[i]?=B i):Rep K B G I H U (Z.set i (some q)) where
 iH:=r.iH
 gH:=r.gH
 len:=by rw[Oy];exact r.len
 slot:=λj q' e=>by
  rcases qU e with⟨rfl,z,_⟩ | ⟨_,z⟩
  ·cases z;exact⟨v,hv,ok⟩
  ·exact r.slot j q' z
 dist:=λj k q1 q2 w e e' m1 m2 s1 s2=>by
  rcases qU e with⟨rfl,z,_⟩ | ⟨n1,z⟩
  ·cases z
   rcases qU e' with⟨rfl,z',_⟩ | ⟨n2,z'⟩
   ·rfl
   ·obtain⟨p,xs,e1,_⟩:=ok.mt m1;rw[hv] at s1;cases s1;exact absurd (e1▸s2) (ha m1 p e1 k q2 n2 z' m2)
  ·rcases qU e' with⟨rfl,z',_⟩ | ⟨n2,z'⟩
   ·cases z';obtain⟨p,xs,e1,_⟩:=ok.mt m2;rw[hv] at s2;cases s2;exact absurd (e1▸s1) (ha m2 p e1 j q1 n1 z m1)
   ·exact r.dist j k q1 q2 w z z' m1 m2 s1 s2
 bor:=λj ds e=>by
  rcases qU e with⟨rfl,z,_⟩ | ⟨_,z⟩
  ·cases z;exact hb ds rfl
  ·exact r.bor j ds z
theorem Rep.store(r:Rep K B G I H U Z){i:Nat}{q:R}{v:V}(hi:i < U.length)(ok:SlotOk K G I H q v)(ha:q.ptr=true->∀p,v=.ref p->Apart U Z p)(hb:∀ds,q≠.bor ds):Rep K B G I H (U.set i (some v)) (Z.set i (some q)):=by
 have r1:Rep K B G I H (U.set i (some v)) (Z.set i none):={
  iH:=r.iH,gH:=r.gH,len:=by rw[Oy,Oy];exact r.len
  slot:=λj q' e=>by
   rcases qU e with⟨_,z,_⟩ | ⟨n,z⟩
   ·cases z
   ·rw[Ng (LU n)];exact r.slot j q' z
  dist:=λj k q1 q2 w e e' m1 m2 s1 s2=>by
   rcases qU e with⟨_,z,_⟩ | ⟨n1,z⟩
   ·cases z
   rcases qU e' with⟨_,z',_⟩ | ⟨n2,z'⟩
   ·cases z'
   rw[Ng (LU n1)] at s1;rw[Ng (LU n2)] at s2;exact r.dist j k q1 q2 w z z' m1 m2 s1 s2
  bor:=λj ds e=>by
   rcases qU e with⟨_,z,_⟩ | ⟨n,z⟩
   ·cases z
   ·rw[Ng (LU n)];exact r.bor j ds z }
 have r2:=r1.learn (i:=i) (q:=q) (v:=v) (by rw[N0 hi]) ok (λm p e j q' n z m' s=>by
  rcases qU z with⟨_,z',_⟩ | ⟨_,z'⟩
  ·cases z'
  ·rw[Ng (LU n)] at s
   exact ha m p e j q' z' m' s) (λds e=>absurd e (hb ds))
 rw[S7] at r2;exact r2
theorem Rep.write(r:Rep K B G I H U Z){i:Nat}{q q':R}{p:i_}{ys:List V}{ds:List D}(hq:Z[i]?=some (some q))(hm:q.ptr=true)(hs:U[i]?=some (some (.ref p)))(h:H p=some (.lst xs))(iw:q'=.own ds\/(q'=.bor ds/\∃es,q=.bor es))(hd:IsA K I ds ys):
  Rep K B G I (upd H p (.lst ys)) U (Z.set i (some q')):=by
 obtain⟨v,e1,e2⟩:=r.slot i q hq;obtain⟨p',bb,h1,h2,h3,h4⟩:=e2.mt hm;have hp:p'=p:=by rw[hs] at e1;subst h1;cases e1;rfl
 subst hp;have cj:∀(j:Nat) (r':R),j≠i->Z[j]?=some (some r')->r'.ptr=true->U[j]?≠some (some (.ref p')):=λj r' n z m s=>n (r.dist j i r' q _ z hq m hm s hs)
 have sI:Same I (upd H p' (.lst ys)):=λb u z=>by
  have ne:b≠p':=λe=>by subst e;rw[h3] at z;cases z
  rw[qx ne];exact r.iH b u z
 have sG:Same G (upd H p' (.lst ys)):=λb u z=>by
  have ne:b≠p':=λe=>by subst e;rw[h4] at z;cases z
  rw[qx ne];exact r.gH b u z
 have r1:Rep K B G I (upd H p' (.lst ys)) U (Z.set i none):={
  iH:=sI,gH:=sG,len:=by rw[Oy];exact r.len
  slot:=λj q1 e=>by
   rcases qU e with⟨_,z,_⟩ | ⟨n,z⟩
   ·cases z
   obtain⟨w,e3,e4⟩:=r.slot j q1 z;refine⟨w,e3,?_⟩
   have mt:q1.ptr=true->∀ds,Mt K G I H ds w->Mt K G I (upd H p' (.lst ys)) ds w:=λm ds hh=>by
    obtain⟨p2,eO,g1,g2,g3,g4,g5⟩:=hh;refine⟨p2,eO,g1,?_,g3,g4,g5⟩;have ne:p2≠p':=λz2=>cj j q1 n z m (by rw[e3,g1,z2])
    rw[qx ne];exact g2
   cases q1 with
   | val d=>exact e4
   | dic ds =>
    obtain⟨p2,eO,g1,g2,g3,g4,g5⟩:=e4;refine⟨p2,eO,g1,?_,g3,g4,g5⟩;have ne:p2≠p':=λz2=>cj j _ n z rfl (by rw[e3,g1,z2])
    rw[qx ne];exact g2
   | own ds=>exact mt rfl ds e4
   | bor ds=>exact mt rfl ds e4
   | fro ds=>exact e4
  dist:=(r.forget i).dist
  bor:=(r.forget i).bor }
 have lq:Mt K G I (upd H p' (.lst ys)) ds (.ref p'):=⟨p',ys,rfl,qH,h3,h4,hd⟩
 have r2:=r1.learn (i:=i) (q:=q') (v:=.ref p') hs (by rcases iw with rfl | ⟨rfl,_⟩<;>exact lq) (λm p2 e j r' n z m' s=>by
  cases e
  rcases qU z with⟨_,z',_⟩ | ⟨_,z'⟩
  ·cases z'
  ·exact cj j r' n z' m' s) (λes e=>by
  rcases iw with rfl | ⟨rfl,es',rfl⟩
  ·cases e
  ·exact r.bor i es' hq)
 rw[S7] at r2;exact r2
end
end DL
variable{c ys ds c0:List DL.D}{d:DL.D}{Z ah:DL.Gm}{F:List DL.D->Option (List DL.D)}{rr:DL.R}{rs:List DL.R}
namespace DL
open PySem PySem.Spec PyProof.Rows L2
noncomputable abbrev M(α:Type):=Gm->Option (α×Gm)
noncomputable def ret{α:Type}(a:α):M α:=λZ=>some (a,Z)
noncomputable def bnd{α β:Type}(m:M α)(f:α->M β):M β:=λZ=>match m Z with
 | some (a,ae)=>f a ae
 | none=>none
noncomputable def lft{α:Type}(o:Option α):M α:=λZ=>match o with
 | some a=>some (a,Z)
 | none=>none
theorem pS{α β:Type}{m:M α}{f:α->M β}{b:β}(h:bnd m f Z=some (b,ah)):∃a ae,m Z=some (a,ae)/\f a ae=some (b,ah):=by
 unfold bnd at h;cases e:m Z with
 | none=>rw[e] at h;cases h
 | some q=>obtain⟨a,ae⟩:=q;rw[e] at h;exact⟨a,ae,rfl,h⟩
theorem qI{α:Type}{o:Option α}{a:α}(h:lft o Z=some (a,ah)):o=some a/\ah=Z:=by
 unfold lft at h;cases o with
 | none=>cases h
 | some b=>cases h;exact⟨rfl,rfl⟩
section
variable (K:PySem.W.Frag)(B:Nat->Option (Option V))
def KD(G I:Hp)(U:L2.St)(ah:Gm)(d:D)(Q:VK):Prop:=∀v H' I',Rep K B G I' H' U ah->Grow G I I'->Is K I' d v->Q v H'
def KO(G I:Hp)(U:L2.St)(ah:Gm)(ds:List D)(Q:VK):Prop:=∀p xs H' I',Rep K B G I' H' U ah->Grow G I I'->H' p=some (.lst xs)->I' p=none->G p=none->Apart U ah p->IsA K I' ds xs->Q (.ref p) H'
def KT(G I:Hp)(U:L2.St)(ah:Gm)(b:Bool)(Q:Bool->Hp->Prop):Prop:=∀H' I',Rep K B G I' H' U ah->Grow G I I'->Q b H'
def KA(G I:Hp)(U:L2.St)(ah:Gm)(ds:List D)(Q:List V->Hp->Prop):Prop:=∀vs H' I',Rep K B G I' H' U ah->Grow G I I'->IsA K I' ds vs->Q vs H'
noncomputable def tD(g:M D):TE:=λU H Q=>∃G I Z d ah,Rep K B G I H U Z/\g Z=some (d,ah)/\KD K B G I U ah d Q
noncomputable def tO(g:M (List D)):TE:=λU H Q=>∃G I Z ds ah,Rep K B G I H U Z/\g Z=some (ds,ah)/\KO K B G I U ah ds Q
noncomputable def tTD(g:M Bool):TT:=λU H Q=>∃G I Z b ah,Rep K B G I H U Z/\g Z=some (b,ah)/\KT K B G I U ah b Q
noncomputable def tAD(g:M (List D)):TA:=λU H Q=>∃G I Z ds ah,Rep K B G I H U Z/\g Z=some (ds,ah)/\KA K B G I U ah ds Q
end
abbrev BB:=Nat->Option (Option V)
def ED(X:Cx)(B:BB)(e:L8)(g:M D):Prop:=PE X e (tD X.K B g)
def EO(X:Cx)(B:BB)(e:L8)(g:M (List D)):Prop:=PE X e (tO X.K B g)
def TD(X:Cx)(B:BB)(e:L8)(g:M Bool):Prop:=PT X e (tTD X.K B g)
def TW(X:Cx)(B:BB)(e:L8)(g:M Bool):Prop:=PW X e (tTD X.K B g)
def AD(X:Cx)(B:BB)(es:List L8)(g:M (List D)):Prop:=PA X es (tAD X.K B g)
section
theorem PE.imp{t t':TE}(h:PE X e t)(f:∀U H Q,t' U H Q->t U H Q):PE X e t':=λaa s U H Q I q=>h aa s U H Q I (f U H Q q)
theorem PT.imp{t t':TT}(h:PT X e t)(f:∀U H Q,t' U H Q->t U H Q):PT X e t':=λaa s U H Q I q=>h aa s U H Q I (f U H Q q)
theorem PW.imp{t t':TT}(h:PW X e t)(f:∀U H Q,t' U H Q->t U H Q):PW X e t':=λwh aa s U H Q I q=>h wh aa s U H Q I (f U H Q q)
theorem PA.imp{es:List L8}{t t':TA}(h:PA X es t)(f:∀U H Q,t' U H Q->t U H Q):PA X es t':=λpos aa s U H Q I q=>h pos aa s U H Q I (f U H Q q)
end
section
variable{K:PySem.W.Frag}{B:BB}{I1 I2 H H1:Hp}{ae:Gm}{Q:VK}
theorem KD.now(k:KD K B G I U Z d Q)(r:Rep K B G I H U Z){v:V}(h:Is K I d v):Q v H:=k v H I r (Grow.refl _ _) h
theorem KD.after(k:KD K B G I U ah d Q)(g:Grow G I I1):KD K B G I1 U ah d Q:=λv H' I' r g' h=>k v H' I' r (g.trans g') h
theorem KO.after(k:KO K B G I U ah ds Q)(g:Grow G I I1):KO K B G I1 U ah ds Q:=λp xs H' I' r g'=>k p xs H' I' r (g.trans g')
theorem KT.after{b:Bool}{Q:Bool->Hp->Prop}(k:KT K B G I U ah b Q)(g:Grow G I I1):KT K B G I1 U ah b Q:=λH' I' r g'=>k H' I' r (g.trans g')
theorem KD.tup(k:KD K B G I U Z (.tup ds) Q)(r:Rep K B G I H U Z){p:i_}(hp:H p=none)(h:IsA K I ds xs):Q (.ref p) (upd H p (.tup xs)):=
 k _ _ _ (r.alloc hp _) (r.growAlloc hp _) (Is.tup (SqT.of qH) (h.mono (rf (r.iFree hp) _)))
theorem KO.new(k:KO K B G I U Z ds Q)(r:Rep K B G I H U Z){p:i_}(hp:H p=none)(h:IsA K I ds xs):Q (.ref p) (upd H p (.lst xs)):=
 k p xs _ I (r.fresh hp _) (Grow.refl _ _) qH (r.iFree hp) (r.gFree hp) (r.apart hp) h
end
section
variable{B:BB}{a b c:L8}{es:List L8}{ga gb gc:M D}
noncomputable def frz(g:M (List D)):M D:=bnd g λds=>ret (.lst ds)
theorem qB{g:M (List D)}(h:EO X B e g):ED X B e (frz g):=PE.imp h λU H Q q=>by
 obtain⟨G,I,Z,d,ah,r,e1,k⟩:=q;obtain⟨ds,ae,e2,e3⟩:=pS e1;cases e3;refine⟨G,I,Z,ds,_,r,e2,λp xs H' I' r' g h1 h2 h3 h4 h5=>?_⟩;exact k _ _ _ (r'.freeze h1 h2 h4) (g.trans (growFreeze h2 h3)) (Is.lst (RdK.of qH) (h5.mono (rf h2 _)))
noncomputable def nm(i:Nat):M D:=λZ=>match Z[i]? with
 | some (some (.val d))=>some (d,Z)
 | some (some (.own ds))=>some (.lst ds,Z.set i (some (.val (.lst ds))))
 | some (some (.fro ds))=>some (.lst ds,Z)
 | _=>none
theorem AH{i:Nat}{x:Str}(h:PE X (.Name x pos) (tVar i)):ED X B (.Name x pos) (nm i):=PE.imp h λU H Q q=>by
 obtain⟨G,I,Z,d,ah,r,e1,k⟩:=q;unfold nm at e1;cases e:Z[i]? with
 | none=>rw[e] at e1;cases e1
 | some o =>
  cases o with
  | none=>rw[e] at e1;cases e1
  | some q =>
   obtain⟨v,h1,h2⟩:=r.slot i q e;cases q with
   | val d'=>rw[e] at e1;cases e1;exact⟨v,h1,k.now r h2⟩
   | bor ds=>rw[e] at e1;cases e1
   | dic ds=>rw[e] at e1;cases e1
   | fro ds=>rw[e] at e1;cases e1;obtain⟨p,xs,rfl,f1,f2,f3⟩:=h2;exact⟨_,h1,k.now r (Is.lst (RdK.of f1) f3)⟩
   | own ds =>
    rw[e] at e1;cases e1;obtain⟨p,xs,rfl,g1,g2,g3,g4⟩:=h2;refine⟨_,h1,k _ _ (upd I p (.lst xs)) ?_ (growFreeze g2 g3) (Is.lst (RdK.of qH) (g4.mono (rf g2 _)))⟩
    have ap:Apart U (Z.set i none) p:=λj q' z m s=>by
     rcases qU z with⟨_,z',_⟩ | ⟨n,z'⟩
     ·cases z'
     ·exact n (r.dist j i q' (.own ds) _ z' e m rfl s h1)
    have r1:=(r.forget i).freeze g1 g2 ap;have r2:=r1.learn (i:=i) (q:=.val (.lst ds)) h1 (Is.lst (RdK.of qH) (g4.mono (rf g2 _))) (λm=>nomatch m) (λ_ z=>nomatch z);rw[S7] at r2;exact r2
theorem ed_c{v:V}(h:PE X e (tC v))(hd:∀I,Is X.K I d v):ED X B e (ret d):=PE.imp h λU H Q q=>by
 obtain⟨G,I,Z,d',ah,r,e1,k⟩:=q;cases e1;exact k.now r (hd I)
theorem i'{i j}:ED X B (.Constant (.int i) j pos) (ret (.int i)):=ed_c IU λ_=>Is.int i
theorem rE{b j}:ED X B (.Constant (.bool b) j pos) (ret (.bl b)):=ed_c Fi λ_=>Is.bl b
theorem tR{j}:ED X B (.Constant .none j pos) (ret .non):=ed_c DO λ_=>Is.non
theorem zy{x j}:ED X B (.Constant (.str x) j pos) (ret (.str x)):=ed_c Ch λ_=>Is.str x
noncomputable def nilA:M (List D):=ret []
noncomputable def consA(g:M D)(t:M (List D)):M (List D):=bnd g λd=>bnd t λds=>ret (d::ds)
theorem pL:AD X B [] nilA:=PA.imp vG λU H Q q=>by
 obtain⟨G,I,Z,d,ah,r,e1,k⟩:=q;cases e1;exact k _ _ _ r (Grow.refl _ _) IsA.nil
theorem Hj{g:M D}{t:M (List D)}(ha:ED X B e g)(hr:AD X B es t)(hs:f_ (e::es) X.env=(false,Mm e X.env)::f_ es X.env:=by rfl):AD X B (e::es) (consA g t):=
 PA.imp (tH ha hr hs) λU H Q q=>by
  obtain⟨G,I,Z,d,ah,r,e1,k⟩:=q;obtain⟨d1,ae,e2,e3⟩:=pS e1;obtain⟨d2,ao,e4,e5⟩:=pS e3;cases e5;exact⟨G,I,Z,d1,ae,r,e2,λv H1 I1 r1 g1 h1=>⟨G,I1,ae,d2,_,r1,e4,λvs H2 I2 r2 g2 h2=>k _ _ _ r2 (g1.trans g2) (IsA.cons (h1.mono g2.up) h2)⟩⟩
noncomputable def lim:Nat:=1000000
theorem sm(h:n<=lim):n<=v_:=MY h (by rw[Mq];decide)
noncomputable def tupA(t:M (List D)):M D:=bnd t λds=>lft (if ds.length<=lim then some (.tup ds) else none)
noncomputable def lstA(t:M (List D)):M (List D):=bnd t λds=>lft (if ds.length<=lim then some ds else none)
theorem qQ{α:Type}{c:Prop}[Decidable c]{a b:α}(h:(if c then some a else none)=some b):c/\b=a:=by
 by_cases hc:c
 ·rw[if_pos hc] at h;exact⟨hc,(L0 h).symm⟩
 ·rw[if_neg hc] at h;cases h
theorem qS{x1}{t:M (List D)}(h:AD X B es t):ED X B (.Tuple es x1 pos) (tupA t):=PE.imp (El h) λU H Q q=>by
 obtain⟨G,I,Z,d,ah,r,e1,k⟩:=q;obtain⟨d1,ae,e2,e3⟩:=pS e1;obtain⟨e4,rfl⟩:=qI e3;obtain⟨hl,rfl⟩:=qQ e4;refine⟨G,I,Z,d1,_,r,e2,λvs H1 I1 r1 g1 h1=>⟨?_,λp hp=>(k.after g1).tup r1 hp h1⟩⟩;rw[←h1.length];exact sm hl
theorem qN{t:M (List D)}(h:AD X B es t):EO X B (.List es pos) (lstA t):=PE.imp (Jg h) λU H Q q=>by
 obtain⟨G,I,Z,d,ah,r,e1,k⟩:=q;obtain⟨d1,ae,e2,e3⟩:=pS e1;obtain⟨e4,rfl⟩:=qI e3;obtain⟨hl,rfl⟩:=qQ e4;refine⟨G,I,Z,_,_,r,e2,λvs H1 I1 r1 g1 h1=>⟨?_,λp hp=>(k.after g1).new r1 hp h1⟩⟩;rw[←h1.length];exact sm hl
def OpD(K:PySem.W.Frag)(r:R2)(F:D->D->Option D):Prop:=∀a b d,F a b=some d->∀(B:BB) (G I H:Hp) (U:L2.St) (Z:Gm) (x y:V) (Q:VK),Rep K B G I H U Z->Is K I a x->Is K I b y->KD K B G I U Z d Q->r x y H Q
def OpO(K:PySem.W.Frag)(r:R2)(F:D->D->Option (List D)):Prop:=∀a b d,F a b=some d->∀(B:BB) (G I H:Hp) (U:L2.St) (Z:Gm) (x y:V) (Q:VK),Rep K B G I H U Z->Is K I a x->Is K I b y->KO K B G I U Z d Q->r x y H Q
def CallD(K:PySem.W.Frag)(r:List V->Hp->VK->Prop)(F:List D->Option D):Prop:=∀ds d,F ds=some d->∀(B:BB) (G I H:Hp) (U:L2.St) (Z:Gm) (xs:List V) (Q:VK),Rep K B G I H U Z->IsA K I ds xs->KD K B G I U Z d Q->r xs H Q
def CallO(K:PySem.W.Frag)(r:List V->Hp->VK->Prop)(F:List D->Option (List D)):Prop:=∀ds d,F ds=some d->∀(B:BB) (G I H:Hp) (U:L2.St) (Z:Gm) (xs:List V) (Q:VK),Rep K B G I H U Z->IsA K I ds xs->KO K B G I U Z d Q->r xs H Q
noncomputable def op2{α:Type}(F:D->D->Option α)(ga gb:M D):M α:=bnd ga λx=>bnd gb λy=>lft (F x y)
noncomputable def fn1{α:Type}(F:List D->Option α)(t:M (List D)):M α:=bnd t λds=>lft (F ds)
theorem t_op{r:R2}{F:D->D->Option D}{K:PySem.W.Frag}(h:OpD K r F):∀U H Q,tD K B (op2 F ga gb) U H Q->tOp r (tD K B ga) (tD K B gb) U H Q:=λU H Q q=>by
 obtain⟨G,I,Z,d,ah,r,e1,k⟩:=q;obtain⟨d1,ae,e2,e3⟩:=pS e1;obtain⟨d2,ao,e4,e5⟩:=pS e3;obtain⟨e6,rfl⟩:=qI e5;exact⟨G,I,Z,d1,ae,r,e2,λv H1 I1 r1 g1 h1=>⟨G,I1,ae,d2,_,r1,e4,λw H2 I2 r2 g2 h2=>h _ _ _ e6 B G I2 H2 U _ v w Q r2 (h1.mono g2.up) h2 (k.after (g1.trans g2))⟩⟩
theorem z9{r:R2}{F:D->D->Option (List D)}{K:PySem.W.Frag}(h:OpO K r F):∀U H Q,tO K B (op2 F ga gb) U H Q->tOp r (tD K B ga) (tD K B gb) U H Q:=λU H Q q=>by
 obtain⟨G,I,Z,d,ah,r,e1,k⟩:=q;obtain⟨d1,ae,e2,e3⟩:=pS e1;obtain⟨d2,ao,e4,e5⟩:=pS e3;obtain⟨e6,rfl⟩:=qI e5;exact⟨G,I,Z,d1,ae,r,e2,λv H1 I1 r1 g1 h1=>⟨G,I1,ae,d2,_,r1,e4,λw H2 I2 r2 g2 h2=>h _ _ _ e6 B G I2 H2 U _ v w Q r2 (h1.mono g2.up) h2 (k.after (g1.trans g2))⟩⟩
theorem tJ{op:Operator}{r:R2}{F:D->D->Option D}(ho:OpR X (NP op) r)(h:OpD X.K r F)(ha:ED X B a ga)(hb:ED X B b gb):ED X B (.BinOp a op b pos) (op2 F ga gb):=PE.imp (Bi ho ha hb) (t_op h)
theorem Fp{op:Operator}{r:R2}{F:D->D->Option (List D)}(ho:OpR X (NP op) r)(h:OpO X.K r F)(ha:ED X B a ga)(hb:ED X B b gb):EO X B (.BinOp a op b pos) (op2 F ga gb):=PE.imp (Bi ho ha hb) (z9 h)
theorem wP{r:R2}{F:D->D->Option D}(ho:OpR X (MS op) r)(h:OpD X.K r F)(ha:ED X B a ga)(hb:ED X B b gb)(hm:Nm op b=false):ED X B (.Compare a [op] [b] pos) (op2 F ga gb):=PE.imp (Hd ho ha hb hm) (t_op h)
theorem Fo{r:R2}{F:D->D->Option D}(ho:IxR X r)(h:OpD X.K r F)(ha:ED X B a ga)(hb:ED X B b gb)(hs:PlainIx b:=by exact λ_ _=>rfl):ED X B (.Subscript a b pos) (op2 F ga gb):=PE.imp (zp ho ha hb hs) (t_op h)
noncomputable def asB(d:D):Option Bool:=match d with
 | .bl b=>some b
 | _=>none
theorem u5{b:Bool}(h:asB d=some b):d=.bl b:=by
 cases d<;>simp[asB] at h
 rw[h]
noncomputable def tst(g:M D):M Bool:=bnd g λd=>lft (asB d)
theorem t8{K:PySem.W.Frag}{g:M D}{t:TE}(ht:∀U H Q,tD K B g U H Q->t U H Q):∀U H Q,tTD K B (tst g) U H Q->tTest t U H Q:=λU H Q q=>by
 obtain⟨G,I,Z,d,ah,r,e1,k⟩:=q;obtain⟨d1,ae,e2,e3⟩:=pS e1;obtain⟨e4,rfl⟩:=qI e3;have:=u5 e4;subst this;exact ht _ _ _ ⟨G,I,Z,_,_,r,e2,λv H1 I1 r1 g1 h1=>⟨d,rm h1,k _ _ r1 g1⟩⟩
theorem sn{r:R2}{F:D->D->Option D}(ho:OpR X (MS op) r)(h:OpD X.K r F)(ha:ED X B a ga)(hb:ED X B b gb)(hm:Nm op b=false):TD X B (.Compare a [op] [b] pos) (tst (op2 F ga gb)):=PT.imp (Bv ho ha hb hm) (t8 (t_op h))
theorem zU(ha:ED X B a ga)(he:∀bu,S' a X.env bu=(do let v ←bu;TH a.pos;OI [v] (truthy v)):=by intros;rfl):TD X B a (tst ga):=PT.imp (Db ha he) (t8 λ_ _ _ z=>z)
noncomputable def andT(a b:M Bool):M Bool:=bnd a λk=>if k then b else ret false
noncomputable def orT(a b:M Bool):M Bool:=bnd a λk=>if k then ret true else b
noncomputable def notT(a:M Bool):M Bool:=bnd a λk=>ret (!k)
noncomputable def andV(a b:M D):M D:=bnd a λd=>bnd (lft (asB d)) λk=>if k then b else ret (.bl false)
noncomputable def ifV(c:M Bool)(a b:M D):M D:=bnd c λk=>if k then a else b
variable{ta tb:M Bool}
theorem IW(ha:TD X B a ta):TW X B (.BoolOp .And [a] pos) ta:=Ii ha
theorem vv(ha:TD X B a ta):TW X B (.BoolOp .Or [a] pos) ta:=Fx ha
theorem CL(ha:TD X B a ta)(hb:TW X B (.BoolOp .And (b::aB) pos) tb):TW X B (.BoolOp .And (a::b::aB) pos) (andT ta tb):=PW.imp (B8 ha hb) λU H Q q=>by
 obtain⟨G,I,Z,d,ah,r,e1,k⟩:=q;obtain⟨d1,ae,e2,e3⟩:=pS e1;refine⟨G,I,Z,d1,ae,r,e2,λH1 I1 r1 g1=>?_⟩;cases d1 with
 | true=>exact iteT ⟨G,I1,ae,d,ah,r1,e3,k.after g1⟩
 | false=>cases e3;exact iteF (k _ _ r1 g1)
theorem t7(ha:TD X B a ta)(hb:TW X B (.BoolOp .Or (b::aB) pos) tb):TW X B (.BoolOp .Or (a::b::aB) pos) (orT ta tb):=PW.imp (HG ha hb) λU H Q q=>by
 obtain⟨G,I,Z,d,ah,r,e1,k⟩:=q;obtain⟨d1,ae,e2,e3⟩:=pS e1;refine⟨G,I,Z,d1,ae,r,e2,λH1 I1 r1 g1=>?_⟩;cases d1 with
 | false=>exact iteF ⟨G,I1,ae,d,ah,r1,e3,k.after g1⟩
 | true=>cases e3;exact iteT (k _ _ r1 g1)
theorem TW.td(h:TW X B e ta):TD X B e ta:=h _
theorem zV(ha:TD X B a ta):TD X B (.UnaryOp .Not a pos) (notT ta):=PT.imp (FH ha) λU H Q q=>by
 obtain⟨G,I,Z,d,ah,r,e1,k⟩:=q;obtain⟨d1,ae,e2,e3⟩:=pS e1;cases e3;exact⟨G,I,Z,d1,_,r,e2,λH1 I1 r1 g1=>k _ _ r1 g1⟩
theorem AS{op}(h:ED X B a ga):ED X B (.BoolOp op [a] pos) ga:=HQ h
theorem AV(ha:ED X B a ga)(hb:ED X B (.BoolOp .And (b::aB) pos) gb):ED X B (.BoolOp .And (a::b::aB) pos) (andV ga gb):=PE.imp (Il ha hb) λU H Q q=>by
 obtain⟨G,I,Z,d,ah,r,e1,k⟩:=q;obtain⟨d1,ae,e2,e3⟩:=pS e1;obtain⟨k1,ao,e4,e5⟩:=pS e3;obtain⟨e6,rfl⟩:=qI e4;have:=u5 e6;subst this;refine⟨G,I,Z,_,_,r,e2,λv H1 I1 r1 g1 h1=>⟨k1,rm h1,?_⟩⟩;cases k1 with
 | true=>exact iteT ⟨G,I1,_,d,ah,r1,e5,k.after g1⟩
 | false=>cases e5;exact iteF (k _ _ _ r1 g1 (Is.bl false))
theorem Eu(hc:TD X B c ta)(ha:ED X B a ga)(hb:ED X B b gb):ED X B (.IfExp c a b pos) (ifV ta ga gb):=PE.imp (E5 hc ha hb) λU H Q q=>by
 obtain⟨G,I,Z,d,ah,r,e1,k⟩:=q;obtain⟨d1,ae,e2,e3⟩:=pS e1;refine⟨G,I,Z,d1,ae,r,e2,λH1 I1 r1 g1=>?_⟩;cases d1 with
 | true=>exact iteT ⟨G,I1,ae,d,ah,r1,e3,k.after g1⟩
 | false=>exact iteF ⟨G,I1,ae,d,ah,r1,e3,k.after g1⟩
variable {x:Str}{p:Pos}{id T:String}{r:List V->Hp->VK->Prop}{t:M (List D)}
theorem t_fn{F:List D->Option D}{K:PySem.W.Frag}(h:CallD K r F):∀U H Q,tD K B (fn1 F t) U H Q->tCB r (tAD K B t) U H Q:=λU H Q q=>by
 obtain⟨G,I,Z,d,ah,r,e1,k⟩:=q;obtain⟨d1,ae,e2,e3⟩:=pS e1;obtain⟨e4,rfl⟩:=qI e3;exact⟨G,I,Z,d1,_,r,e2,λvs H1 I1 r1 g1 h1=>h _ _ e4 B G I1 H1 U _ vs Q r1 h1 (k.after g1)⟩
theorem xh{K:PySem.W.Frag}(h:CallO K r F):∀U H Q,tO K B (fn1 F t) U H Q->tCB r (tAD K B t) U H Q:=λU H Q q=>by
 obtain⟨G,I,Z,d,ah,r,e1,k⟩:=q;obtain⟨d1,ae,e2,e3⟩:=pS e1;obtain⟨e4,rfl⟩:=qI e3;exact⟨G,I,Z,d1,_,r,e2,λvs H1 I1 r1 g1 h1=>h _ _ e4 B G I1 H1 U _ vs Q r1 h1 (k.after g1)⟩
theorem sv{F:List D->Option D}(hc:CallR X (.builtin id) r)(h:CallD X.K r F)(hg:Gl X x)(hm:X.mg x=none)(hv:NZ x=some (.builtin id))(ha:AD X B (e::es) t)(hn:x ≠ "__name__":=by decide)(bL:(x == ("__debug__":Str))=false:=by decide)(he:f_ (e::es) X.env=(false,Mm e X.env)::f_ es X.env:=by rfl)(aC:(Mp pos (f_ es X.env)).any (·.1)=false:=by rfl):ED X B (.Call (.Name x p) (e::es) [] pos) (fn1 F t):=PE.imp (ya hc hg hm hv ha hn bL he aC) (t_fn h)
theorem Ce(hc:CallR X (.builtin id) r)(h:CallO X.K r F)(hg:Gl X x)(hm:X.mg x=none)(hv:NZ x=some (.builtin id))(ha:AD X B (e::es) t)(hn:x ≠ "__name__":=by decide)(bL:(x == ("__debug__":Str))=false:=by decide)(he:f_ (e::es) X.env=(false,Mm e X.env)::f_ es X.env:=by rfl)(aC:(Mp pos (f_ es X.env)).any (·.1)=false:=by rfl):EO X B (.Call (.Name x p) (e::es) [] pos) (fn1 F t):=PE.imp (ya hc hg hm hv ha hn bL he aC) (xh h)
theorem G0(hc:CallR X (.type T) r)(h:CallO X.K r F)(hg:Gl X x)(hm:X.mg x=none)(hv:NZ x=some (.type T))(ha:AD X B (e::es) t)(hn:x ≠ "__name__":=by decide)(bL:(x == ("__debug__":Str))=false:=by decide)(he:f_ (e::es) X.env=(false,Mm e X.env)::f_ es X.env:=by rfl)(aC:(Mp pos (f_ es X.env)).any (·.1)=false:=by rfl):EO X B (.Call (.Name x p) (e::es) [] pos) (fn1 F t):=PE.imp (IC hc hg hm hv ha hn bL he aC) (xh h)
end
inductive Fl where
 | nx | rt (r:R) | bk | ct
def ResOk(K:PySem.W.Frag)(G I H:Hp)(U:L2.St)(Z:Gm):R->V->Prop
 | .val d,v=>Is K I d v
 | .own ds,v=>∃p xs,v=.ref p/\H p=some (.lst xs)/\I p=none/\G p=none/\Apart U Z p/\IsA K I ds xs
 | .bor _,_=>False
 | .fro ds,v=>∃p xs,v=.ref p/\I p=some (.lst xs)/\G p=none/\IsA K I ds xs
 | .dic aj,v=>∃p xs,v=.ref p/\H p=some (.dK xs)/\I p=none/\G p=none/\Apart U Z p/\IsK K I aj xs
def EndAt(K:PySem.W.Frag)(G I H:Hp)(U:L2.St)(Z:Gm)(E:Ends):Fl->Prop
 | .nx=>E.nx U H
 | .bk=>E.bk U H
 | .ct=>E.ct U H
 | .rt r=>∀v,ResOk K G I H U Z r v->E.rt v H
section
variable (K:PySem.W.Frag)(B:BB)
def KS(G I:Hp)(ah:Gm)(f:Fl)(E:Ends):Prop:=∀au H' I',Rep K B G I' H' au ah->Grow G I I'->EndAt K G I' H' au ah E f
noncomputable def tS(g:M Fl):TS:=λE U H=>∃G I Z f ah,Rep K B G I H U Z/\g Z=some (f,ah)/\KS K B G I ah f E
def KG(m:Nat)(U:L2.St)(G I:Hp)(ah:Gm)(Q:L2.St->Hp->Prop):Prop:=∀au H' I',Rep K B G I' H' au ah->Grow G I I'->au.drop m=U.drop m->Q au H'
noncomputable def tGD(m:Nat)(f:D->M Unit):TG:=λv U H Q=>∃G I Z d ah,Rep K B G I H U Z/\Is K I d v/\f d Z=some ((),ah)/\KG K B m U G I ah Q
noncomputable def tGs(m:Nat)(f:List D->M Unit):TGs:=λvs U H Q=>∃G I Z ds ah,Rep K B G I H U Z/\IsA K I ds vs/\f ds Z=some ((),ah)/\KG K B m U G I ah Q
end
def SD(X:Cx)(B:BB)(st:Nc)(g:M Fl):Prop:=PS X st (tS X.K B g)
def SDs(X:Cx)(B:BB)(st:List Nc)(g:M Fl):Prop:=PSs X st (tS X.K B g)
def GD(X:Cx)(B:BB)(m:Nat)(tg:L8)(f:D->M Unit):Prop:=PG X tg (tGD X.K B m f)
def GDs(X:Cx)(B:BB)(m:Nat)(iy:List L8)(f:List D->M Unit):Prop:=PGs X iy (tGs X.K B m f)
section
theorem PS.imp{st:Nc}{t t':TS}(h:PS X st t)(f:∀E U H,t' E U H->t E U H):PS X st t':=λaa s U H E I q=>h aa s U H E I (f E U H q)
theorem PSs.imp{st:List Nc}{t t':TS}(h:PSs X st t)(f:∀E U H,t' E U H->t E U H):PSs X st t':=λaa s U H E I q=>h aa s U H E I (f E U H q)
theorem PG.imp{t t':TG}(h:PG X tg t)(f:∀v U H Q,t' v U H Q->t v U H Q):PG X tg t':=λaa s U H v u Q I r q=>h aa s U H v u Q I r (f v U H Q q)
theorem PGs.imp{t t':TGs}(h:PGs X iy t)(f:∀v U H Q,t' v U H Q->t v U H Q):PGs X iy t':=λaa s U H v u Q I r q=>h aa s U H v u Q I r (f v U H Q q)
theorem PI.imp{t t':TI}(h:PI X tg iter t)(f:∀U H Q,t' U H Q->t U H Q):PI X tg iter t':=λaa s U H R I q=>h aa s U H R I (f U H R q)
end
section
variable{K:PySem.W.Frag}{B:BB}{I1 H:Hp}{f:Fl}{E:Ends}
theorem KS.after(k:KS K B G I ah f E)(g:Grow G I I1):KS K B G I1 ah f E:=λau H' I' r g'=>k au H' I' r (g.trans g')
theorem KG.after{dN:L2.St}{Q:L2.St->Hp->Prop}(k:KG K B m U G I ah Q)(g:Grow G I I1)(hs:dN.drop m=U.drop m):KG K B m dN G I1 ah Q:=λau H' I' r g' z=>k au H' I' r (g.trans g') (z.trans hs)
end
section
variable{B:BB}{a b c:L8}{es:List L8}{ga gb gc:M D}{st:Nc}{aB:List Nc}{g h:M Fl}
noncomputable def seqS(g h:M Fl):M Fl:=bnd g λf=>match f with
 | .nx=>h
 | .rt r=>ret (.rt r)
 | .bk=>ret .bk
 | .ct=>ret .ct
theorem EA:SDs X B [] (ret .nx):=PSs.imp Ef λE U H q=>by
 obtain⟨G,I,Z,f,ah,r,e1,k⟩:=q;cases e1;exact k U H I r (Grow.refl _ _)
theorem Et(h:SD X B st g):SDs X B [st] g:=CY h
theorem Dm(h1:SD X B st g)(h2:SDs X B aB h):SDs X B (st::aB) (seqS g h):=PSs.imp (EH h1 h2) λE U H q=>by
 obtain⟨G,I,Z,f,ah,r,e1,k⟩:=q;obtain⟨f1,ae,e2,e3⟩:=pS e1;refine⟨G,I,Z,f1,ae,r,e2,λdN H1 I1 r1 g1=>?_⟩;cases f1 with
 | nx=>exact⟨G,I1,ae,f,ah,r1,e3,k.after g1⟩
 | bk=>cases e3;exact k dN H1 I1 r1 g1
 | ct=>cases e3;exact k dN H1 I1 r1 g1
 | rt v=>cases e3;exact k dN H1 I1 r1 g1
noncomputable def retS(g:M D):M Fl:=bnd g λd=>ret (.rt (.val d))
theorem qM(he:ED X B e ga):SD X B (.Return (some e) pos) (retS ga):=PS.imp (xl he) λE U H q=>by
 obtain⟨G,I,Z,f,ah,r,e1,k⟩:=q;obtain⟨d1,ae,e2,e3⟩:=pS e1;cases e3;exact⟨G,I,Z,d1,_,r,e2,λv H1 I1 r1 g1 h1=>k U H1 I1 r1 g1 v h1⟩
noncomputable def retO(g:M (List D)):M Fl:=bnd g λd=>ret (.rt (.own d))
theorem vo{g:M (List D)}(he:EO X B e g):SD X B (.Return (some e) pos) (retO g):=PS.imp (xl he) λE U H q=>by
 obtain⟨G,I,Z,f,ah,r,e1,k⟩:=q;obtain⟨d1,ae,e2,e3⟩:=pS e1;cases e3;exact⟨G,I,Z,d1,_,r,e2,λp xs H1 I1 r1 g1 h1 h2 h3 h4 h5=>k U H1 I1 r1 g1 _ ⟨p,xs,rfl,h1,h2,h3,h4,h5⟩⟩
noncomputable def ifS(c:M Bool)(a b:M Fl):M Fl:=bnd c λk=>if k then a else b
theorem G2{tc:M Bool}{sa sb:List Nc}(hc:TD X B c tc)(ha:SDs X B sa g)(hb:SDs X B sb h):SD X B (.If c sa sb pos) (ifS tc g h):=PS.imp (FR hc ha hb) λE U H q=>by
 obtain⟨G,I,Z,f,ah,r,e1,k⟩:=q;obtain⟨d1,ae,e2,e3⟩:=pS e1;refine⟨G,I,Z,d1,ae,r,e2,λH1 I1 r1 g1=>?_⟩;cases d1 with
 | true=>exact iteT ⟨G,I1,ae,f,ah,r1,e3,k.after g1⟩
 | false=>exact iteF ⟨G,I1,ae,f,ah,r1,e3,k.after g1⟩
noncomputable def putS(i:Nat)(q:R):M Unit:=λZ=>if i < Z.length then some ((),Z.set i (some q)) else none
noncomputable def tgN(i:Nat)(d:D):M Unit:=putS i (.val d)
theorem uK{i:Nat}{q:R}{u:Unit}(h:putS i q Z=some (u,ah)):i < Z.length/\ah=Z.set i (some q):=by
 unfold putS at h;obtain⟨h1,h2⟩:=qQ h;cases h2;exact⟨h1,rfl⟩
theorem yJ{α:Type}:∀{l:List α}{i m:Nat}{a:α},i < m->(l.set i a).drop m=l.drop m
 | [],_,_,_,_=>rfl
 | _::_,0,m+1,_,_=>rfl
 | _::r,i+1,m+1,a,h=>by
  rw[List.set_cons_succ,OJ,OJ];exact yJ (QV h)
theorem gd_n{i:Nat}{x:Str}(hN:X.N.Nodup)(hi:X.N[i]?=some x:=by rfl)(hx:locB X.env.scope x=true:=by rfl)(hf:fnB X x=true:=by rfl)(nU:i < m:=by decide):GD X B m (.Name x pos) (tgN i):=
 PG.imp (Gq hN hi (locI hx) (fnI hf)) λv U H Q q=>by
  obtain⟨G,I,Z,d,ah,r,hd,e1,k⟩:=q;obtain⟨hl,rfl⟩:=uK e1;exact k _ _ I (r.store (by rw[r.len];exact hl) hd (λm=>nomatch m) (λ_ z=>nomatch z)) (Grow.refl _ _) (yJ nU)
noncomputable def tgNil(ds:List D):M Unit:=match ds with
 | []=>ret ()
 | _=>λ_=>none
noncomputable def tgCons(f:D->M Unit)(t:List D->M Unit)(ds:List D):M Unit:=match ds with
 | d::r=>bnd (f d) λ_=>t r
 | []=>λ_=>none
theorem sf:GDs X B m [] tgNil:=PGs.imp FP λv U H Q q=>by
 obtain⟨G,I,Z,ds,ah,r,hd,e1,k⟩:=q;cases ds with
 | nil=>cases e1;exact⟨hd.nil_inv,k _ _ I r (Grow.refl _ _) rfl⟩
 | cons d t=>cases e1
theorem rb{f:D->M Unit}{t:List D->M Unit}(h1:GD X B m e f)(h2:GDs X B m es t)(hs:(Nr (e::es) X.env).map (·.2)=PM e X.env::(Nr es X.env).map (·.2):=by rfl):GDs X B m (e::es) (tgCons f t):=PGs.imp (Kc h1 h2 hs) λv U H Q q=>by
 obtain⟨G,I,Z,ds,ah,r,hd,e1,k⟩:=q;cases ds with
 | nil=>cases e1
 | cons d t =>
  obtain⟨x,xs,rfl,h1,h2⟩:=hd.cons_inv;obtain⟨u,ae,e2,e3⟩:=pS e1;exact⟨x,xs,rfl,G,I,Z,d,ae,r,h1,e2,λdN H1 I1 r1 g1 z=>⟨G,I1,ae,t,ah,r1,h2.mono g1.up,e3,k.after g1 z⟩⟩
noncomputable def tgTup(n:Nat)(t:List D->M Unit)(d:D):M Unit:=match d with
 | .tup ds=>if ds.length=n then t ds else λ_=>none
 | _=>λ_=>none
theorem r9{k:Nat}{t:List D->M Unit}(hc:X.calm=true)(h:GDs X B m es t)(hn:(Nr es X.env).length=n:=by rfl)(jE:(Nr es X.env).findIdx? (·.1)=none:=by rfl):GD X B m (.Tuple es k pos) (tgTup n t):=
 PG.imp (IV hc h hn jE) λv U H Q q=>by
  obtain⟨G,I,Z,d,ah,r,hd,e1,k⟩:=q;cases d with
  | tup ds =>
   obtain⟨a,xs,rfl,h1,h2⟩:=qK hd;unfold tgTup at e1;by_cases hl:ds.length=n
   ·simp only[hl,if_true] at e1;exact⟨a,xs,rfl,Same.sqT r.iH h1,by rw[←h2.length];exact hl,G,I,Z,ds,ah,r,h2,e1,k⟩
   ·simp only[hl,if_false] at e1;cases e1
  | _=>cases e1
noncomputable def asgS(g:M D)(f:D->M Unit):M Fl:=bnd g λd=>bnd (f d) λ_=>ret .nx
theorem xZ{f:D->M Unit}(he:ED X B e ga)(hg:GD X B m tg f)(hs:RY [tg] e pos.line X.env=pure false:=by rfl)(hw:RZ [tg] e X.env=pure none:=by rfl)(h1:(Nr [tg] X.env).map (·.2)=[PM tg X.env]:=by rfl):SD X B (.Assign [tg] e pos) (asgS ga f):=PS.imp (yL he hg hs hw h1) λE U H q=>by
 obtain⟨G,I,Z,f,ah,r,e1,k⟩:=q;obtain⟨d1,ae,e2,e3⟩:=pS e1;obtain⟨d2,ao,e4,e5⟩:=pS e3;cases e5;exact⟨G,I,Z,d1,ae,r,e2,λv H1 I1 r1 g1 h1=>⟨G,I1,ae,d1,_,r1,h1,e4,λba H2 I2 r2 g2 _=>k ba H2 I2 r2 (g1.trans g2)⟩⟩
noncomputable def setV(i:Nat)(g:M D):M Fl:=bnd g λd=>bnd (putS i (.val d)) λ_=>ret .nx
noncomputable def setO(i:Nat)(g:M (List D)):M Fl:=bnd g λd=>bnd (putS i (.own d)) λ_=>ret .nx
theorem G4{K:PySem.W.Frag}{i:Nat}:∀E U H,tS K B (setV i ga) E U H->tAsg (tD K B ga) (gName i) E U H:=λE U H q=>by
 obtain⟨G,I,Z,f,ah,r,e1,k⟩:=q;obtain⟨d1,ae,e2,e3⟩:=pS e1;obtain⟨d2,ao,e4,e5⟩:=pS e3;cases e5;obtain⟨hl,rfl⟩:=uK e4;exact⟨G,I,Z,d1,ae,r,e2,λv H1 I1 r1 g1 h1=>k _ H1 I1 (r1.store (by rw[r1.len];exact hl) h1 (λm=>nomatch m) (λ_ z=>nomatch z)) g1⟩
theorem Iw{K:PySem.W.Frag}{i:Nat}{g:M (List D)}:∀E U H,tS K B (setO i g) E U H->tAsg (tO K B g) (gName i) E U H:=λE U H q=>by
 obtain⟨G,I,Z,f,ah,r,e1,k⟩:=q;obtain⟨d1,ae,e2,e3⟩:=pS e1;obtain⟨d2,ao,e4,e5⟩:=pS e3;cases e5;obtain⟨hl,rfl⟩:=uK e4;exact⟨G,I,Z,d1,ae,r,e2,λp xs H1 I1 r1 g1 h1 h2 h3 h4 h5=>k _ H1 I1 (r1.store (by rw[r1.len];exact hl) ⟨p,xs,rfl,h1,h2,h3,h5⟩ (λ_ p' z=>by cases z;exact h4) (λ_ z=>nomatch z)) g1⟩
theorem FL{i:Nat}{x:Str}(hN:X.N.Nodup)(he:ED X B e ga)(hi:X.N[i]?=some x:=by rfl)(hx:locB X.env.scope x=true:=by rfl)(hs:NO e (some (.Name x aA)) pos.line X.env=pure false:=by rfl)(hf:fnB X x=true:=by rfl):SD X B (.Assign [.Name x aA] e pos) (setV i ga):=PS.imp (xx hN hi (locI hx) he hs (fnI hf)) G4
theorem sJ{i:Nat}{x:Str}{g:M (List D)}(hN:X.N.Nodup)(he:EO X B e g)(hi:X.N[i]?=some x:=by rfl)(hx:locB X.env.scope x=true:=by rfl)(hs:NO e (some (.Name x aA)) pos.line X.env=pure false:=by rfl)(hf:fnB X x=true:=by rfl):SD X B (.Assign [.Name x aA] e pos) (setO i g):=PS.imp (xx hN hi (locI hx) he hs (fnI hf)) Iw
noncomputable def isMut(Z:Gm)(i:Nat):Bool:=match Z[i]? with
 | some (some r)=>r.mut
 | _=>false
noncomputable def wr(i:Nat)(F:List D->Option (List D)):M Unit:=λZ=>match Z[i]? with
 | some (some (.own ds))=>match F ds with
  | some es=>some ((),Z.set i (some (.own es)))
  | none=>none
 | some (some (.bor ds))=>match F ds with
  | some es=>some ((),Z.set i (some (.bor es)))
  | none=>none
 | _=>none
theorem sH{K:PySem.W.Frag}{H:Hp}{i:Nat}(h:isMut Z i=true)(r:Rep K B G I H U Z):∃p xs,U[i]?=some (some (.ref p))/\H p=some (.lst xs):=by
 unfold isMut at h;cases e:Z[i]? with
 | none=>rw[e] at h;cases h
 | some o =>
  cases o with
  | none=>rw[e] at h;cases h
  | some q =>
   rw[e] at h;obtain⟨v,h1,h2⟩:=r.slot i q e;cases q with
   | val d=>cases h
   | fro d=>cases h
   | dic d=>cases h
   | own d=>obtain⟨p,xs,rfl,h3,_⟩:=h2;exact⟨p,xs,h1,h3⟩
   | bor d=>obtain⟨p,xs,rfl,h3,_⟩:=h2;exact⟨p,xs,h1,h3⟩
theorem xY{K:PySem.W.Frag}{H:Hp}{i:Nat}{u:Unit}(h:wr i F Z=some (u,ah))(r:Rep K B G I H U Z):
  ∃p xs ds es,U[i]?=some (some (.ref p))/\H p=some (.lst xs)/\IsA K I ds xs/\F ds=some es/\∀ys,IsA K I es ys->Rep K B G I (upd H p (.lst ys)) U ah:=by
 unfold wr at h;cases e:Z[i]? with
 | none=>rw[e] at h;cases h
 | some o =>
  cases o with
  | none=>rw[e] at h;cases h
  | some q =>
   obtain⟨v,h1,h2⟩:=r.slot i q e;cases q with
   | val d=>rw[e] at h;cases h
   | fro d=>rw[e] at h;cases h
   | dic d=>rw[e] at h;cases h
   | own ds =>
    rw[e] at h;obtain⟨p,xs,rfl,g1,g2,g3,g4⟩:=h2;cases hf:F ds with
    | none=>simp only[hf] at h;cases h
    | some es =>
     simp only[hf] at h;cases h;exact⟨p,xs,ds,es,h1,g1,g4,hf,λys hy=>r.write e rfl h1 g1 (.inl rfl) hy⟩
   | bor ds =>
    rw[e] at h;obtain⟨p,xs,rfl,g1,g2,g3,g4⟩:=h2;cases hf:F ds with
    | none=>simp only[hf] at h;cases h
    | some es =>
     simp only[hf] at h;cases h;exact⟨p,xs,ds,es,h1,g1,g4,hf,λys hy=>r.write e rfl h1 g1 (.inr ⟨rfl,ds,rfl⟩) hy⟩
noncomputable def mutS{α:Type}(i:Nat)(m:M α):M α:=λZ=>if isMut Z i then m Z else none
theorem tU{α:Type}{i:Nat}{m:M α}{r:α×Gm}(h:mutS i m Z=some r):isMut Z i=true/\m Z=some r:=by
 unfold mutS at h;by_cases hc:isMut Z i=true
 ·rw[if_pos hc] at h;exact⟨hc,h⟩
 ·rw[if_neg hc] at h;cases h
noncomputable def appF(d:D)(ds:List D):Option (List D):=if ds.length < lim then some (ds++[d]) else none
noncomputable def extF(d:D)(ds:List D):Option (List D):=match d with
 | .lst es=>if ds.length+es.length<=lim then some (ds++es) else none
 | _=>none
noncomputable def appS(i:Nat)(g:M D):M Fl:=mutS i (bnd g λd=>bnd (wr i (appF d)) λ_=>ret .nx)
noncomputable def extS(i:Nat)(g:M D):M Fl:=mutS i (bnd g λd=>bnd (wr i (extF d)) λ_=>ret .nx)
theorem wc{H:Hp}{s:d_}{l:i_}(I:Inv X aa U H s)(hH:RdK X.K H l xs):xs.length<=v_/\∃(af:List b_) (n:Nat),Vals xs af/\xs.length=af.length/\s.heap.get? l=some { cls:=.type "list", data:=.seq af.toArray n }:=by
 rcases hH with hH | ⟨af,n,h1,h2,h3⟩
 ·obtain⟨z,af,n,r,e⟩:=hH.ok I.hok;exact⟨z,af,n,r,r.length,e⟩
 ·exact⟨by rw[h2.length];exact h3,af,n,h2,h2.length,I.kIn l _ h1⟩
def rExtendR(K:PySem.W.Frag):V->List V->Hp->VK->Prop:=λx vs H Q=>∃l b xs zs,x=.ref l/\vs=[.ref b]/\H l=some (.lst xs)/\RdK K H b zs/\xs.length+zs.length<=v_/\Q .non (upd H l (.lst (xs++zs)))
theorem Jv:MtM X "list.extend" (rExtendR X.K):=by
 intro aa s U H x vs v us Q I rx rv h;obtain⟨l,b,xs,zs,rfl,rfl,hH,hB,hz,q⟩:=h;cases rx;obtain⟨u,rfl,ru⟩:=rv.one;cases ru;obtain⟨z,af,n,r,hl,e⟩:=I.lstM hH;obtain⟨z2,cb,n2,r2,dY,e2⟩:=wc I hB;have hsz:af.toArray.size+cb.toArray.size<=v_:=by rw[l_,l_];omega
 have jI:¬(!af.toArray.isEmpty&&SY (af.toArray.size+cb.toArray.size))=true:=by
  rw[notLongL hsz,Bool.and_false];exact y_
 refine call_meets F.slot_list_extend ⟨_,e,rfl⟩ F.entry_list_extend (F.args_list_extend_2 _ _)
  (AutoSeq1.list_extend_list_list_0 l af.toArray n b cb.toArray n2 jI (by rw[l_];omega) (by omega)) ⟨e,e2,?_⟩
 refine⟨.non,_,I.lset (its':=af++cb) hH e (by simp) (r.append r2) ?_,rfl,q⟩;rw[LY];omega
theorem vO{i:Nat}{x:Str}(hv:PE X (.Name x p1) (tVar i))(ha:ED X B e ga)(hs:NO (.Call (.Attribute (.Name x p1) "append" bM) [e] [] aS) none pos.line X.env=pure false:=by rfl)(gC:f_ [e] X.env=(false,Mm e X.env)::f_ [] X.env:=by rfl)(df:R6 (.Name x p1) "append" X.env (Mm (.Name x p1) X.env)=Mm (.Name x p1) X.env:=by rfl)(cx:((Mp aS (f_ [e] X.env)).all (λx=>!x.1)&&(backToKw aS (SX [] X.env)).all (λx=>x.1.isSome)
   &&decide ([e].length+([]:List Sr).length+(if([]:List Sr).isEmpty then 0 else 1) < 30))=true:=by rfl)(dg:(bM.endLine == aS.line)=true:=by rfl)(cy:(Mp aS (f_ [] X.env)).any (·.1)=false:=by rfl):
  SD X B (.Expr (.Call (.Attribute (.Name x p1) "append" bM) [e] [] aS) pos) (appS i ga):=
 PS.imp (y4 (zH PySem.F.plainAttrs_list PySem.F.slot_list_append PySem.F.type_list_append Br hv (tH ha vG gC) df cx dg gC cy) hs) λE U H q=>by
  obtain⟨G,I,Z,f,ah,r,e1,k⟩:=q;obtain⟨hm,e1⟩:=tU e1;obtain⟨d1,ae,e2,e3⟩:=pS e1;obtain⟨d2,ao,e4,e5⟩:=pS e3;cases e5;obtain⟨p,xs,h1,h2⟩:=sH hm r;refine⟨_,h1,.inl ⟨rfl,xs,SqL.of h2⟩,G,I,Z,d1,ae,r,e2,λv H1 I1 r1 g1 hd=>?_⟩;obtain⟨p',bb,ds,es,h3,h4,h5,h6,h7⟩:=xY e4 r1;have hp:p'=p:=by rw[h1] at h3;cases h3;rfl
  subst hp;obtain⟨hl,rfl⟩:=qQ h6;refine⟨p',bb,v,rfl,rfl,h4,?_,k U _ I1 (h7 _ (IsA.append h5 (IsA.cons hd IsA.nil))) g1⟩;rw[←h5.length];exact H_ hl (sm (A_ _))
theorem BA{i:Nat}{x:Str}(hv:PE X (.Name x p1) (tVar i))(ha:ED X B e ga)(hs:NO (.Call (.Attribute (.Name x p1) "extend" bM) [e] [] aS) none pos.line X.env=pure false:=by rfl)(gC:f_ [e] X.env=(false,Mm e X.env)::f_ [] X.env:=by rfl)(df:R6 (.Name x p1) "extend" X.env (Mm (.Name x p1) X.env)=Mm (.Name x p1) X.env:=by rfl)(cx:((Mp aS (f_ [e] X.env)).all (λx=>!x.1)&&(backToKw aS (SX [] X.env)).all (λx=>x.1.isSome)
   &&decide ([e].length+([]:List Sr).length+(if([]:List Sr).isEmpty then 0 else 1) < 30))=true:=by rfl)(dg:(bM.endLine == aS.line)=true:=by rfl)(cy:(Mp aS (f_ [] X.env)).any (·.1)=false:=by rfl):
  SD X B (.Expr (.Call (.Attribute (.Name x p1) "extend" bM) [e] [] aS) pos) (extS i ga):=
 PS.imp (y4 (zH PySem.F.plainAttrs_list PySem.F.slot_list_extend PySem.F.type_list_extend Jv hv (tH ha vG gC) df cx dg gC cy) hs) λE U H q=>by
  obtain⟨G,I,Z,f,ah,r,e1,k⟩:=q;obtain⟨hm,e1⟩:=tU e1;obtain⟨d1,ae,e2,e3⟩:=pS e1;obtain⟨d2,ao,e4,e5⟩:=pS e3;cases e5;obtain⟨p,xs,h1,h2⟩:=sH hm r;refine⟨_,h1,.inl ⟨rfl,xs,SqL.of h2⟩,G,I,Z,d1,ae,r,e2,λv H1 I1 r1 g1 hd=>?_⟩;obtain⟨p',bb,ds,es,h3,h4,h5,h6,h7⟩:=xY e4 r1;have hp:p'=p:=by rw[h1] at h3;cases h3;rfl
  subst hp;cases d1 with
  | lst zs =>
   obtain⟨a,ys,rfl,i1,i2⟩:=qJ hd;obtain⟨hl,rfl⟩:=qQ h6;refine⟨p',a,bb,ys,rfl,rfl,h4,Same.rdK r1.iH i1,?_,k U _ I1 (h7 _ (IsA.append h5 i2)) g1⟩;rw[←h5.length,←i2.length];exact sm hl
  | _=>cases h6
noncomputable def asI(d:D):Option Int:=match d with
 | .int i=>some i
 | _=>none
theorem zE{i:Int}(h:asI d=some i):d=.int i:=by
 cases d<;>simp[asI] at h
 rw[h]
noncomputable def stF(k:Int)(d:D)(ds:List D):Option (List D):=(ixN ds.length k).map λj=>ds.set j d
noncomputable def stS(i:Nat)(gi gv:M D):M Fl:=bnd gv λd=>mutS i (bnd gi λn=>bnd (lft (asI n)) λk=>bnd (wr i (stF k d)) λ_=>ret .nx)
theorem vS{i:Nat}{x:Str}{gi:M D}(hv:PE X (.Name x p1) (tVar i))(hi:ED X B ie gi)(he:ED X B e ga)(ha:∀v,PM (.Subscript (.Name x p1) ie p2) X.env v=(do
   let ov ←OI [v] (Mm (.Name x p1) X.env)
   let iv ←OI [v,ov] (Mm ie X.env)
   TH p2
   OI [v,ov,iv] (TK ov iv v)
   release [v,ov,iv] []):=by intros;rfl)(hs:RY [.Subscript (.Name x p1) ie p2] e pos.line X.env=pure false:=by rfl)(hw:RZ [.Subscript (.Name x p1) ie p2] e X.env=pure none:=by rfl)(h1:(Nr [.Subscript (.Name x p1) ie p2] X.env).map (·.2)=[PM (.Subscript (.Name x p1) ie p2) X.env]:=by rfl):
  SD X B (.Assign [.Subscript (.Name x p1) ie p2] e pos) (stS i gi ga):=PS.imp (yL he (CC hv hi CU ha) hs hw h1) λE U H q=>by
 obtain⟨G,I,Z,f,ah,r,e1,k⟩:=q;obtain⟨d,ae,e2,e3⟩:=pS e1;obtain⟨hm,e3⟩:=tU e3;obtain⟨n,ao,e4,e5⟩:=pS e3;obtain⟨z,aO,e6,e7⟩:=pS e5;obtain⟨e8,rfl⟩:=qI e6;obtain⟨u,a9,f1,f2⟩:=pS e7;cases f2;have:=zE e8;subst this;refine⟨G,I,Z,d,ae,r,e2,λv H1 I1 r1 g1 hd=>?_⟩;obtain⟨p,xs,h1,h2⟩:=sH hm r1;refine⟨_,h1,G,I1,ae,_,_,r1,e4,λw H2 I2 r2 g2 hw=>?_⟩;obtain⟨p',bb,ds,es,h3,h4,h5,h6,h7⟩:=xY f1 r2;have hp:p'=p:=by rw[h1] at h3;cases h3;rfl
 subst hp;unfold stF at h6;cases hj:ixN ds.length z with
 | none=>rw[hj] at h6;cases h6
 | some j =>
  rw[hj] at h6;cases h6;exact⟨p',bb,z,j,rfl,qD hw,h4,by rw[←h5.length];exact hj,k U _ I2 (h7 _ (IsA.set (hd.mono g2.up) j h5)) (g1.trans g2)⟩
def Yields(K:PySem.W.Frag)(I:Hp)(ds:List D)(J:It):Prop:=∀(i:Nat) (H1:Hp),Same I H1 →
 (∀d,ds[i]?=some d->J.go i H1/\∀x H2,J.yld i H1 x H2->(H2=H1/\Is K I d x)\/(∃p es xs,d=.tup es/\x=.ref p/\H1 p=none/\H2=upd H1 p (.tup xs)/\IsA K I es xs))/\(ds.length<=i->J.stop i H1)
noncomputable def tI(K:PySem.W.Frag)(B:BB)(g:M (List D)):TI:=λU H R=>∃G I Z ds ah,Rep K B G I H U Z/\g Z=some (ds,ah)/\∀J H' I',Rep K B G I' H' U ah->Grow G I I'->Yields K I' ds J->R J H'
def ITD(X:Cx)(B:BB)(tg iter:L8)(g:M (List D)):Prop:=PI X tg iter (tI X.K B g)
theorem Ed{l:L8}(hl:PE X l tl):PI X tg l (λU H R=>tl U H λx H1=>(∃a,x=.ref a/\(∃xs,SqL X.K H1 a xs)/\R (Itl X.K a) H1)\/(∃a,x=.ref a/\(∃xs,SqT X.K H1 a xs)/\R (Itt X.K a) H1)):=by
 intro aa s U H R I h;refine thn (hl aa s U H _ I h) λv s1 ⟨x,H1,I1,r1,q1⟩=>?_
 rcases q1 with⟨a,e,⟨xs,hq⟩,q⟩ | ⟨a,e,⟨xs,hq⟩,q⟩
 ·subst e;cases r1;obtain⟨af,rv,p,hz⟩:=I1.list hq;refine N8 p.isList ?_;refine⟨s1.heap.objs.size,[s1.heap.objs.size],_,_,H1,rfl,I1.kept (t':=s1.toks) λb o e=>c_ _ e,FI a _,⟨_,s_ _ rfl,rfl,rfl⟩,λb hb=>?_,q⟩;have e:b=s1.heap.objs.size:=by simpa using hb
  subst e;exact I1.fpOk (A_ _) (I1.hok.fresh (A_ _))
 ·subst e;cases r1;obtain⟨af,rv,p,hz⟩:=I1.tuple hq;refine Sc (show s1.heap.IsTuple a af.toArray from p) ?_;refine⟨s1.heap.objs.size,[s1.heap.objs.size],_,_,H1,rfl,I1.kept (t':=s1.toks) λb o e=>c_ _ e,HP a _,⟨_,s_ _ rfl,rfl,rfl⟩,λb hb=>?_,q⟩;have e:b=s1.heap.objs.size:=by simpa using hb
  subst e;exact I1.fpOk (A_ _) (I1.hok.fresh (A_ _))
noncomputable def seqI(d:D):Option (List D):=match d with
 | .lst ds=>some ds
 | .tup ds=>some ds
 | _=>none
noncomputable def itS(g:M D):M (List D):=bnd g λd=>lft (seqI d)
theorem rF(ha:ED X B a ga):ITD X B tg a (itS ga):=PI.imp (Ed ha) λU H R q=>by
 obtain⟨G,I,Z,ds,ah,r,e1,k⟩:=q;obtain⟨d,ae,e2,e3⟩:=pS e1;obtain⟨e4,rfl⟩:=qI e3;refine⟨G,I,Z,d,_,r,e2,λv H1 I1 r1 g1 hd=>?_⟩;cases d with
 | lst es =>
  cases e4;obtain⟨l,xs,rfl,h1,h2⟩:=qJ hd;refine .inl ⟨l,rfl,⟨xs,(Same.rdK r1.iH h1).sq⟩,k _ _ _ r1 g1 λi H2 s2=>⟨λd hd=>?_,λhi=>⟨xs,(Same.rdK s2 h1).sq,by rw[←h2.length];exact hi⟩⟩⟩;obtain⟨x,e5,e6⟩:=h2.get hd;refine⟨⟨xs,x,(Same.rdK s2 h1).sq,e5⟩,λy H3 hy=>.inl ⟨hy.1,?_⟩⟩;have:=hy.2 xs ((Same.rdK s2 h1).sq);rw[e5] at this;cases this;exact e6
 | tup es =>
  cases e4;obtain⟨l,xs,rfl,h1,h2⟩:=qK hd;refine .inr ⟨l,rfl,⟨xs,Same.sqT r1.iH h1⟩,k _ _ _ r1 g1 λi H2 s2=>⟨λd hd=>?_,λhi=>⟨xs,Same.sqT s2 h1,by rw[←h2.length];exact hi⟩⟩⟩;obtain⟨x,e5,e6⟩:=h2.get hd;refine⟨⟨xs,x,Same.sqT s2 h1,e5⟩,λy H3 hy=>.inl ⟨hy.1,?_⟩⟩;have:=hy.2 xs (Same.sqT s2 h1);rw[e5] at this;cases this;exact e6
 | _=>cases e4
noncomputable def rngD(lo:Int)(n:Nat):List D:=(Nq n).map λ(k:Nat)=>D.int (lo+(k:Int))
theorem zu{K:PySem.W.Frag}(lo:Int)(n:Nat):Yields K I (rngD lo n) (Itr lo n):=λi H1 s1=>by
 refine⟨λd hd=>?_,λhi=>?_⟩
 ·unfold rngD at hd;rw[E_] at hd;cases e:(Nq n)[i]? with
  | none=>rw[e] at hd;cases hd
  | some j =>
   rw[e] at hd;cases hd;obtain⟨h1,h2⟩:=D_.mp e;rw[Qi] at h2;rw[Pv] at h1;subst h2;refine⟨h1,λx H2 hy=>.inl ⟨hy.1,?_⟩⟩;rw[hy.2];exact Is.int _
 ·unfold rngD at hi;rw[x_,Pv] at hi;exact hi
noncomputable def rngI1(ds:List D):Option (List D):=match ds with
 | [.int j]=>if -1000000<=j/\j<=1000000 then some (rngD 0 j.toNat) else none
 | _=>none
noncomputable def rngI2(ds:List D):Option (List D):=match ds with
 | [.int i,.int j]=>if(-1000000<=i/\i<=1000000)/\-1000000<=j/\j<=1000000 then some (rngD i (j - i).toNat) else none
 | _=>none
theorem FD{es:List D}(h:rngI1 ds=some es):∃j:Int,ds=[.int j]/\(-1000000<=j/\j<=1000000)/\es=rngD 0 j.toNat:=by
 unfold rngI1 at h;split at h
 ·obtain⟨h1,h2⟩:=qQ h;exact⟨_,rfl,h1,h2⟩
 ·cases h
theorem zL{es:List D}(h:rngI2 ds=some es):∃i j:Int,ds=[.int i,.int j]/\((-1000000<=i/\i<=1000000)/\-1000000<=j/\j<=1000000)/\es=rngD i (j - i).toNat:=by
 unfold rngI2 at h;split at h
 ·obtain⟨h1,h2⟩:=qQ h;exact⟨_,_,rfl,h1,h2⟩
 ·cases h
theorem vy{p:Pos}{t:M (List D)}(hg:Gl X "range")(hm:X.mg "range"=none)(ha:AD X B [a] t)(hs:f_ [a] X.env=[(false,Mm a X.env)]:=by rfl):ITD X B tg (.Call (.Name "range" p) [a] [] pos) (fn1 rngI1 t):=
 PI.imp (Ge hg hm ha hs) λU H R q=>by
  obtain⟨G,I,Z,ds,ah,r,e1,k⟩:=q;obtain⟨d,ae,e2,e3⟩:=pS e1;obtain⟨e4,rfl⟩:=qI e3;obtain⟨j,rfl,⟨h1,h2⟩,rfl⟩:=FD e4;refine⟨G,I,Z,_,_,r,e2,λvs H1 I1 r1 g1 hd=>?_⟩;obtain⟨x,rfl,hx⟩:=hd.one;exact⟨j,by rw[qD hx],by omega,by omega,k _ _ _ r1 g1 (zu _ _)⟩
theorem xA{p:Pos}{t:M (List D)}(hg:Gl X "range")(hm:X.mg "range"=none)(ha:AD X B [a,b] t)(hs:f_ [a,b] X.env=[(false,Mm a X.env),(false,Mm b X.env)]:=by rfl)(bO:f_ [b] X.env=[(false,Mm b X.env)]:=by rfl):
  ITD X B tg (.Call (.Name "range" p) [a,b] [] pos) (fn1 rngI2 t):=
 PI.imp (CN hg hm ha hs bO) λU H R q=>by
  obtain⟨G,I,Z,ds,ah,r,e1,k⟩:=q;obtain⟨d,ae,e2,e3⟩:=pS e1;obtain⟨e4,rfl⟩:=qI e3;obtain⟨i,j,rfl,h1,rfl⟩:=zL e4;refine⟨G,I,Z,_,_,r,e2,λvs H1 I1 r1 g1 hd=>?_⟩;obtain⟨x,y,rfl,hx,hy⟩:=hd.two;exact⟨i,j,by rw[qD hx,qD hy],by omega,k _ _ _ r1 g1 (zu _ _)⟩
noncomputable def forM(az:D->M Unit)(body:M Fl):List D->M Fl
 | []=>ret .nx
 | d::ds=>bnd (az d) λ_=>bnd body λf=>match f with
  | .nx=>forM az body ds
  | .ct=>forM az body ds
  | .bk=>ret .nx
  | .rt r=>ret (.rt r)
noncomputable def forS(it:M (List D))(az:D->M Unit)(body:M Fl):M Fl:=bnd it λds=>forM az body ds
theorem ES{body:List Nc}{it:M (List D)}{az:D->M Unit}(hp:PassesOwn (m_ X.prog X.w) X.A X.env X.xe)(hc:X.calm=true)(hi:ITD X B tg iter it)(hg:GD X B m tg az)(hb:SDs X B body g)(hs:∀x,Nd iter X.env x=pure x:=by intros;rfl):SD X B (.For tg iter body [] pos) (forS it az g):=PS.imp (Im hp hc hi hg hb hs) λE U H q=>by
 obtain⟨G,I,Z,f,ah,r,e1,k⟩:=q;obtain⟨ds,ae,e2,e3⟩:=pS e1;refine⟨G,I,Z,ds,ae,r,e2,λJ H1 I1 r1 g1 y=>?_⟩;refine⟨λi m U H=>∃I2 ao,Rep X.K B G I2 H U ao/\Grow G I1 I2/\forM az g (ds.drop i) ao=some (f,ah)/\i<=ds.length/\m=ds.length - i,⟨ds.length,I1,ae,r1,Grow.refl _ _,by simpa using e3,Me _,rfl⟩,?_⟩;rintro i m' ba H2 ⟨I2,ao,r2,g2,e4,b9,rfl⟩;obtain⟨yg,ys⟩:=y i H2 (g2.up.trans r2.iH);by_cases bI:i < ds.length
 ·have hd:ds.drop i=ds[i]::ds.drop (i+1):=LV bI;obtain⟨go,yld⟩:=yg ds[i] (h_ bI);rw[hd] at e4;obtain⟨u,aO,e5,e6⟩:=pS e4;obtain⟨fl,a9,e7,e8⟩:=pS e6;refine .inr ⟨go,λau H'=>∃I3,Rep X.K B G I3 H' au a9/\Grow G I1 I3/\(fl=.nx\/fl=.ct),λau H' ⟨I3,r3,g3,hf⟩=>⟨ds.length - (i+1),by omega,I3,a9,r3,g3,?_,bI,rfl⟩,λx H3 hy=>?_⟩
  ·rcases hf with rfl | rfl<;>exact e8
  ·have ls:∀I3,Rep X.K B G I3 H3 ba ao->Grow G I2 I3->Is X.K I3 ds[i] x->tGD X.K B m az x ba H3 λba H2=>tS X.K B g { E with nx:=λau H'=>∃I3,Rep X.K B G I3 H' au a9/\Grow G I1 I3/\(fl=.nx\/fl=.ct),ct:=λau H'=>∃I3,Rep X.K B G I3 H' au a9/\Grow G I1 I3/\(fl=.nx\/fl=.ct),bk:=E.nx } ba H2:=by
    intro I3 r3 g3 hx;refine⟨G,I3,ao,ds[i],aO,r3,hx,e5,λlu H4 I4 r4 g4 _=>⟨G,I4,aO,fl,a9,r4,e7,λeP H5 I5 r5 g5=>?_⟩⟩;have gg:Grow G I1 I5:=g2.trans (g3.trans (g4.trans g5));cases fl with
    | nx=>exact⟨I5,r5,gg,.inl rfl⟩
    | ct=>exact⟨I5,r5,gg,.inr rfl⟩
    | bk=>cases e8;exact k eP H5 I5 r5 (g1.trans gg)
    | rt v=>cases e8;exact k eP H5 I5 r5 (g1.trans gg)
   rcases yld x H3 hy with⟨rfl,hx⟩ | ⟨p,es,xs,de,rfl,eQ,rfl,hx⟩
   ·exact ls I2 r2 (Grow.refl _ _) (hx.mono g2.up)
   ·refine ls _ (r2.alloc eQ _) (r2.growAlloc eQ _) ?_;rw[de];exact Is.tup (SqT.of qH) ((hx.mono g2.up).mono (rf (r2.iFree eQ) _))
 ·have eR:i=ds.length:=by omega
  subst eR;rw[OC] at e4;cases e4;exact .inl ⟨ys (A_ _),k ba H2 I2 r2 (g1.trans g2)⟩
end
noncomputable def fin:List R->Gm->Option (List R)
 | [],_=>some []
 | .val d::rs,_::Z=>match fin rs Z with
  | some l=>some (.val d::l)
  | none=>none
 | .bor _::rs,some (.bor ds)::Z=>match fin rs Z with
  | some l=>some (.bor ds::l)
  | none=>none
 | _,_=>none
noncomputable def flR:Fl->Option R
 | .rt r=>some r
 | .nx=>some (.val .non)
 | _=>none
noncomputable def fnD1(n:Nat)(body:M Fl)(rs:List R):Option (R×List R):=
 match body (rs.map some++Mw (n - rs.length) none) with
 | some (f,ah)=>match flR f with
  | some r=>match fin rs ah with
   | some l=>some (r,l)
   | none=>none
  | none=>none
 | none=>none
noncomputable def fnD(n ar:Nat)(body:M Fl)(rs:List R):Option (R×List R):=if rs.length=ar then fnD1 n body rs else none
noncomputable def noOwn:R->Bool
 | .own _=>false
 | _=>true
noncomputable def vB(vs:List V):BB:=λi=>(vs.map some)[i]?
noncomputable def spD(K:PySem.W.Frag)(g:List R->Option (R×List R)):Sp:=λvs H Q _=>∃(G I:Hp) (rs:List R) (r:R) (bf:List R),Rep K (vB vs) G I H (vs.map some) (rs.map some)/\rs.all noOwn=true/\g rs=some (r,bf) ∧
 ∀v H' I',Rep K (vB vs) G I' H' (vs.map some) (bf.map some)->Grow G I I'->ResOk K G I' H' (vs.map some) (bf.map some) r v->Q v H'
theorem vL:∀{rs l:List R}{Z:Gm},fin rs Z=some l->l.length=rs.length/\∀(i:Nat) (r:R),l[i]?=some r->(∃d,r=.val d/\rs[i]?=some (.val d))\/(∃ds,r=.bor ds/\Z[i]?=some (some (.bor ds)))
 | [],l,Z,h=>by
  rw[fin] at h;cases h;exact⟨rfl,λi r e=>by simp at e⟩
 | .val d::rs,l,[],h=>by simp[fin] at h
 | .bor d::rs,l,[],h=>by simp[fin] at h
 | .own d::rs,l,Z,h=>by cases Z<;>simp[fin] at h
 | .fro d::rs,l,Z,h=>by cases Z<;>simp[fin] at h
 | .dic d::rs,l,Z,h=>by cases Z<;>simp[fin] at h
 | .val d::rs,l,o::Z,h=>by
  rw[fin] at h;cases e:fin rs Z with
  | none=>rw[e] at h;cases h
  | some l' =>
   rw[e] at h;cases h;obtain⟨h1,h2⟩:=vL e;refine⟨by simp[h1],λi r er=>?_⟩;cases i with
   | zero=>simp at er;subst er;exact .inl ⟨d,rfl,rfl⟩
   | succ i =>
    rcases h2 i r (by simpa using er) with⟨d',e1,e2⟩ | ⟨ds,e1,e2⟩
    ·exact .inl ⟨d',e1,by simpa using e2⟩
    ·exact .inr ⟨ds,e1,by simpa using e2⟩
 | .bor d::rs,l,none::Z,h=>by simp[fin] at h
 | .bor d::rs,l,some (.val x)::Z,h=>by simp[fin] at h
 | .bor d::rs,l,some (.own x)::Z,h=>by simp[fin] at h
 | .bor d::rs,l,some (.fro x)::Z,h=>by simp[fin] at h
 | .bor d::rs,l,some (.dic x)::Z,h=>by simp[fin] at h
 | .bor d::rs,l,some (.bor x)::Z,h=>by
  rw[fin] at h;cases e:fin rs Z with
  | none=>rw[e] at h;cases h
  | some l' =>
   rw[e] at h;cases h;obtain⟨h1,h2⟩:=vL e;refine⟨by simp[h1],λi r er=>?_⟩;cases i with
   | zero=>simp at er;subst er;exact .inr ⟨x,rfl,rfl⟩
   | succ i =>
    rcases h2 i r (by simpa using er) with⟨d',e1,e2⟩ | ⟨ds,e1,e2⟩
    ·exact .inl ⟨d',e1,by simpa using e2⟩
    ·exact .inr ⟨ds,e1,by simpa using e2⟩
theorem getMap{α β:Type}{f:α->β}{l:List α}{i:Nat}{b:β}(h:(l.map f)[i]?=some b):∃a,l[i]?=some a/\b=f a:=by
 rw[E_] at h;cases e:l[i]? with
 | none=>rw[e] at h;cases h
 | some a=>rw[e] at h;exact⟨a,rfl,(L0 h).symm⟩
theorem sx{α:Type}{l:List α}{i:Nat}{a:α}(h:(l.map some++Mw n (none:Option α))[i]?=some (some a)):l[i]?=some a:=by
 by_cases hi:i < (l.map some).length
 ·rw[MT hi] at h;obtain⟨b,e1,e2⟩:=getMap h;cases e2;exact e1
 ·rw[MO (by omega),NR] at h;split at h<;>cases h
section
variable{P:B_}{w:J_}{K:PySem.W.Frag}
theorem rj{x:Str}{st:Nc}{k:Nat}(F:Fun K x qual st f fd)(S:FnScope N ps (defScope st))(g:M Fl)(hb:∀(ay:b_) (A:Ni) (outer:List Env) (s:d_) (H:Hp) (E:XK) (B:BB),Room k (A.deeper (PQ qual (defScope st) s.heap.objs.size f ay)) →
   SDs (cxOf CX0 P w K mg base N qual (defScope st) f ay A outer s H E).nox B (defBody st) g):FnOk P w K mg base CX0 (k+1) f fd ps (spD K (fnD N.length ps.length g)):=by
 refine F.ok S (λvs H Q E h=>?_) (λay A outer s H vs Q E hr h=>?_)
 ·obtain⟨_,_,rs,_,_,h1,_,h2,_⟩:=h;unfold fnD at h2;by_cases hc:rs.length=ps.length
  ·rw[←hc];simpa using h1.len
  ·rw[if_neg hc] at h2;cases h2
 ·obtain⟨G,I,rs,r,bf,h2,h3,h4,h5⟩:=h;have hl:vs.length=rs.length:=by simpa using h2.len
  refine⟨_,hb ay A outer s H E (λi=>(L2.start N vs)[i]?) hr,?_⟩;unfold fnD at h4
  have hc:rs.length=ps.length:=by
   by_cases hc:rs.length=ps.length
   ·exact hc
   ·rw[if_neg hc] at h4;cases h4
  rw[if_pos hc] at h4;unfold fnD1 at h4;cases e1:g (rs.map some++Mw (N.length - rs.length) none) with
  | none=>rw[e1] at h4;cases h4
  | some q =>
   obtain⟨fl,ah⟩:=q;rw[e1] at h4;dsimp only at h4;cases e2:flR fl with
   | none=>rw[e2] at h4;cases h4
   | some rr =>
    rw[e2] at h4;dsimp only at h4;cases e3:fin rs ah with
    | none=>rw[e3] at h4;cases h4
    | some l =>
     rw[e3] at h4;obtain⟨rfl,rfl⟩:rr=r/\l=bf:=by cases h4;exact⟨rfl,rfl⟩
     have dP:∀{i:Nat}{v:V},vs[i]?=some v->(L2.start N vs)[i]?=some (some v):=λ{i v} e=>by
      unfold L2.start;rw[MT (by rw[x_];exact(D_.mp e).1),E_,e];rfl
     have eU:∀{i:Nat}{v:V},(L2.start N vs)[i]?=some (some v)->vs[i]?=some v:=λ{i v} e=>sx e
     have gD:Rep K (λi=>(L2.start N vs)[i]?) G I H (L2.start N vs) (rs.map some++Mw (N.length - rs.length) none):={
      iH:=h2.iH,gH:=h2.gH
      len:=by unfold L2.start;rw[LY,LY,x_,x_,L7,L7,hl]
      slot:=λi q e=>by
       have e':=sx e;obtain⟨v,e4,e5⟩:=h2.slot i q (by rw[E_,e'];rfl);obtain⟨v',e6,e7⟩:=getMap e4;cases e7;exact⟨v,dP e6,e5⟩
      dist:=λi j q q' v e e' m m' s1 s2=>h2.dist i j q q' v (by rw[E_,sx e];rfl) (by rw[E_,sx e'];rfl) m m' (by rw[E_,eU s1];rfl) (by rw[E_,eU s2];rfl)
      bor:=λi ds e=>rfl }
     obtain⟨f1,f2⟩:=vL e3
     -- behind the body
     have dh:∀{au:L2.St}{H' I':Hp},Rep K (λi=>(L2.start N vs)[i]?) G I' H' au ah->Grow G I I'->Rep K (vB vs) G I' H' (vs.map some) (l.map some):=λ{au H' I'} r' g'=>{
      iH:=r'.iH,gH:=r'.gH
      len:=by rw[x_,x_,f1,hl]
      slot:=λi q e=>by
       obtain⟨q',e4,e5⟩:=getMap e;cases e5
       rcases f2 i q e4 with⟨d,rfl,e6⟩ | ⟨ds,rfl,e6⟩
       ·obtain⟨v,e7,e8⟩:=h2.slot i (.val d) (by rw[E_,e6];rfl);exact⟨v,e7,Is.mono g'.up e8⟩
       ·obtain⟨v,e7,e8⟩:=r'.slot i _ e6;have e9:=r'.bor i ds e6;rw[e7] at e9;exact⟨v,by rw[E_,eU e9.symm];rfl,e8⟩
      dist:=λi j q q' v e e' m m' s1 s2=>by
       obtain⟨_,e4,e5⟩:=getMap e;cases e5;obtain⟨_,e6,e7⟩:=getMap e';cases e7
       rcases f2 i q e4 with⟨d,rfl,_⟩ | ⟨ds,rfl,e8⟩
       ·cases m
       rcases f2 j q' e6 with⟨d,rfl,_⟩ | ⟨iz,rfl,e9⟩
       ·cases m'
       obtain⟨v1,a1,_⟩:=getMap s1;obtain⟨v2,a2,a3⟩:=getMap s2;have b1:=r'.bor i ds e8;have b2:=r'.bor j iz e9;rename_i b3;cases b3;cases a3;rw[dP a1] at b1;rw[dP a2] at b2;exact r'.dist i j _ _ v e8 e9 rfl rfl b1 b2
      bor:=λi ds e=>rfl }
     have ap:∀{au:L2.St}{H' I':Hp}{p:i_},Rep K (λi=>(L2.start N vs)[i]?) G I' H' au ah->Apart au ah p->Apart (vs.map some) (l.map some) p:=λ{au H' I' p} r' a i q e m z=>by
      obtain⟨_,e4,e5⟩:=getMap e;cases e5
      rcases f2 i q e4 with⟨d,rfl,_⟩ | ⟨ds,rfl,e8⟩
      ·cases m
      obtain⟨v1,a1,a2⟩:=getMap z;cases a2;exact a i _ e8 rfl ((r'.bor i ds e8).trans (dP a1))
     refine⟨G,I,_,fl,ah,gD,e1,λau H' I' r' g'=>?_⟩;cases fl with
     | nx=>cases e2;exact h5 _ H' I' (dh r' g') g' (show Is K I' D.non V.non from Is.non)
     | bk=>cases e2
     | ct=>cases e2
     | rt r0 =>
      cases e2;intro v hv;refine h5 v H' I' (dh r' g') g' ?_;cases rr with
      | val d=>exact hv
      | bor d=>exact hv
      | fro d=>exact hv
      | dic d =>
       obtain⟨p,xs,b1,b2,b3,b4,b5,b6⟩:=hv;exact⟨p,xs,b1,b2,b3,b4,ap r' b5,b6⟩
      | own d =>
       obtain⟨p,xs,b1,b2,b3,b4,b5,b6⟩:=hv;exact⟨p,xs,b1,b2,b3,b4,ap r' b5,b6⟩
end
mutual
noncomputable def noL:D->Bool
 | .tup ds=>noLA ds
 | .lst _=>false
 | _=>true
noncomputable def noLA:List D->Bool
 | []=>true
 | d::ds=>noL d&&noLA ds
end
noncomputable def tupOf(I0 I:Hp):Hp:=λb=>match I0 b with
 | some o=>some o
 | none=>match I b with
  | some (.lst _)=>none
  | o=>o
theorem yB:Same I0 (tupOf I0 I):=λb o e=>by unfold tupOf;rw[e]
theorem wb{b:i_}(h:tupOf I0 I b=some o):I0 b=some o\/(I0 b=none/\I b=some o/\∀xs,o≠.lst xs):=by
 unfold tupOf at h;cases e:I0 b with
 | some o'=>rw[e] at h;cases h;exact .inl rfl
 | none =>
  rw[e] at h;cases e1:I b with
  | none=>rw[e1] at h;cases h
  | some o' =>
   rw[e1] at h;cases o'<;>first | (cases h;exact .inr ⟨rfl,rfl,λxs z=>by cases z⟩) | cases h
theorem xE(s:Same I0 I){b:i_}(h:I b=some o)(n:∀xs,o≠.lst xs):tupOf I0 I b=some o:=by
 unfold tupOf;cases e:I0 b with
 | some o'=>rw[s b o' e] at h;exact h
 | none =>
  simp only[h];split
  ·rename_i z;cases z;exact absurd rfl (n _)
  ·rfl
mutual
theorem JN{K:PySem.W.Frag}{I0 I:Hp}(s:Same I0 I):∀(d:D) (v:V),noL d=true->Is K I d v->Is K (tupOf I0 I) d v
 | .non,_,_,h=>by rw[Is] at h ⊢;exact h
 | .bl _,_,_,h=>by rw[Is] at h ⊢;exact h
 | .int _,_,_,h=>by rw[Is] at h ⊢;exact h
 | .str _,_,_,h=>by rw[Is] at h ⊢;exact h
 | .lst _,_,n,_=>by simp[noL] at n
 | .dct _,v,_,h=>by
  obtain⟨a,o,xs,rfl,h1,h2⟩:=tN h;exact Is.dct (xE s h1 λxs z=>by cases z) h2
 | .tup ds,v,n,h=>by
  rw[noL] at n;obtain⟨a,xs,rfl,h1,h2⟩:=qK h;refine Is.tup ?_ (xS s ds xs n h2)
  rcases h1 with(h1 | ⟨o,h1⟩) | h1
  ·exact .inl (.inl (xE s h1 λxs z=>by cases z))
  ·exact .inl (.inr ⟨o,xE s h1 λxs z=>by cases z⟩)
  ·exact .inr h1
theorem xS{K:PySem.W.Frag}{I0 I:Hp}(s:Same I0 I):∀(ds:List D) (xs:List V),noLA ds=true->IsA K I ds xs->IsA K (tupOf I0 I) ds xs
 | [],xs,_,h=>by rw[h.nil_inv];exact IsA.nil
 | d::ds,xs,n,h=>by
  rw[noLA,M'] at n;obtain⟨x,r,rfl,h1,h2⟩:=h.cons_inv;exact IsA.cons (JN s d x n.1 h1) (xS s ds r n.2 h2)
end
section
variable{B:BB}{es:List L8}{p:Pos}{x:Str}{k:Nat}{g:List R->Option (R×List R)}{t:M (List D)}
noncomputable def cvF(g:List R->Option (R×List R))(ds:List D):Option D:=match g (ds.map .val) with
 | some (.val d,_)=>some d
 | some (.fro d,_)=>some (.lst d)
 | _=>none
noncomputable def coF(g:List R->Option (R×List R))(ds:List D):Option (List D):=match g (ds.map .val) with
 | some (.own d,_)=>some d
 | some (.fro d,_)=>if noLA d=true then some d else none
 | _=>none
theorem tP{K:PySem.W.Frag}{H:Hp}{vs:List V}(r:Rep K B G I H U Z)(h:IsA K I ds vs):Rep K (vB vs) H I H (vs.map some) ((ds.map R.val).map some) where
 iH:=r.iH
 gH:=Same.refl _
 len:=by rw[x_,x_,x_,h.length]
 slot:=λi q e=>by
  obtain⟨_,e1,e2⟩:=getMap e;cases e2;obtain⟨d,e3,rfl⟩:=getMap e1;obtain⟨v,e4,e5⟩:=h.get e3;exact⟨v,by rw[E_,e4];rfl,e5⟩
 dist:=λi j q q' v e e' m=>by
  obtain⟨_,e1,e2⟩:=getMap e;cases e2;obtain⟨d,e3,rfl⟩:=getMap e1;cases m
 bor:=λi ds e=>rfl
theorem t4(ds:List D):(ds.map R.val).all noOwn=true:=by
 induction ds with
 | nil=>rfl
 | cons d r ih=>rw[K_,Sv,ih];rfl
theorem uR{K:PySem.W.Frag}{B':BB}{H:Hp}{au:L2.St}(r:Rep K B G I H U Z)(r':Rep K B' H I' H' au ah)(g':Grow H I I'):Rep K B G I' H' U Z/\Grow G I I':=
 ⟨r.ext g'.up r'.gH r'.iH g'.new,g'.up,λb o e=>(g'.new b o e).imp (λz=>z) λz=>r.gFree z⟩
theorem t_cv{K:PySem.W.Frag}{E:XK}:∀U H Q,tD K B (fn1 (cvF g) t) U H Q->tCall (spD K g) [] E (tAD K B t) U H Q:=λU H Q q=>by
 obtain⟨G,I,Z,d,ah,r,e1,kk⟩:=q;obtain⟨ds,ae,e2,e3⟩:=pS e1;obtain⟨e4,rfl⟩:=qI e3;refine⟨G,I,Z,ds,_,r,e2,λvs H1 I1 r1 g1 h1=>?_⟩;show spD K g (vs++[]) H1 Q E;rw[M5];unfold cvF at e4;cases e5:g (ds.map .val) with
 | none=>rw[e5] at e4;cases e4
 | some q =>
  obtain⟨rr,bf⟩:=q;rw[e5] at e4;cases rr with
  | val d' =>
   cases e4;refine⟨H1,I1,ds.map .val,.val d,bf,tP r1 h1,t4 ds,e5,λv H' I' r' g' hv=>?_⟩;obtain⟨r2,g2⟩:=uR r1 r' g';exact kk v H' I' r2 (g1.trans g2) hv
  | fro d' =>
   cases e4;refine⟨H1,I1,ds.map .val,.fro d',bf,tP r1 h1,t4 ds,e5,λv H' I' r' g' hv=>?_⟩;obtain⟨r2,g2⟩:=uR r1 r' g';obtain⟨p,xs,rfl,f1,_,f3⟩:=hv;exact kk _ H' I' r2 (g1.trans g2) (Is.lst (RdK.of f1) f3)
  | own _=>cases e4
  | bor _=>cases e4
  | dic _=>cases e4
theorem t_co{K:PySem.W.Frag}{E:XK}:∀U H Q,tO K B (fn1 (coF g) t) U H Q->tCall (spD K g) [] E (tAD K B t) U H Q:=λU H Q q=>by
 obtain⟨G,I,Z,d,ah,r,e1,kk⟩:=q;obtain⟨ds,ae,e2,e3⟩:=pS e1;obtain⟨e4,rfl⟩:=qI e3;refine⟨G,I,Z,ds,_,r,e2,λvs H1 I1 r1 g1 h1=>?_⟩;show spD K g (vs++[]) H1 Q E;rw[M5];unfold coF at e4;cases e5:g (ds.map .val) with
 | none=>rw[e5] at e4;cases e4
 | some q =>
  obtain⟨rr,bf⟩:=q;rw[e5] at e4;cases rr with
  | own d' =>
   cases e4;refine⟨H1,I1,ds.map .val,.own d,bf,tP r1 h1,t4 ds,e5,λv H' I' r' g' hv=>?_⟩;obtain⟨r2,g2⟩:=uR r1 r' g';obtain⟨q,xs,rfl,b2,b3,b4,b5,b6⟩:=hv;exact kk q xs H' I' r2 (g1.trans g2) b2 b3 (r1.gFree b4) (r1.apart b4) b6
  | fro d' =>
   obtain⟨nl,e4⟩:=qQ e4;subst e4;refine⟨H1,I1,ds.map .val,.fro d,bf,tP r1 h1,t4 ds,e5,λv H' I' r' g' hv=>?_⟩;obtain⟨p,xs,rfl,f1,f2,f3⟩:=hv
   have new:∀b o,tupOf I1 I' b=some o->I1 b=some o\/H1 b=none:=λb o e=>by
    rcases wb e with z | ⟨_,z,_⟩
    ·exact .inl z
    ·exact g'.new b o z
   have r2:Rep K B G (tupOf I1 I') H' U _:=r1.ext yB r'.gH (λb o e=>by
    rcases wb e with z | ⟨_,z,_⟩
    ·exact r'.iH b o (g'.up b o z)
    ·exact r'.iH b o z) new
   refine kk p xs H' (tupOf I1 I') r2 (g1.trans ⟨yB,λb o e=>(new b o e).imp (λz=>z) λz=>r1.gFree z⟩) (r'.iH p _ f1) ?_ (r1.gFree f2) (r1.apart f2) (xS g'.up _ _ nl f3);cases e:tupOf I1 I' p with
   | none=>rfl
   | some o =>
    rcases wb e with z | ⟨_,z,zn⟩
    ·rw[r1.iFree f2] at z;cases z
    ·rw[f1] at z;cases z;exact absurd rfl (zn _)
  | val _=>cases e4
  | bor _=>cases e4
  | dic _=>cases e4
variable {pU:Nat}{b:L8}
theorem rX(F:FnOk X.prog X.w X.K X.mg X.base CX0 k f fd ps (spD X.K g))(hr:Room k X.A)(hg:Gl X x)(hm:X.mg x=some (.ref f))(hk:QN X.K (.ref f)=true)(hb:Binds X.K fd ps [])(ha:AD X B (e::es) t)(bL:(x == ("__debug__":Str))=false:=by decide)(he:f_ (e::es) X.env=(false,Mm e X.env)::f_ es X.env:=by rfl)(aC:(Mp pos (f_ es X.env)).any (·.1)=false:=by rfl):
  ED X B (.Call (.Name x p) (e::es) [] pos) (fn1 (cvF g) t):=PE.imp (uf F hr hg hm hk hb .nil pass0 ha bL he aC) t_cv
theorem sW(F:FnOk X.prog X.w X.K X.mg X.base CX0 k f fd ps (spD X.K g))(hr:Room k X.A)(hg:Gl X x)(hm:X.mg x=some (.ref f))(hk:QN X.K (.ref f)=true)(hb:Binds X.K fd ps [])(ha:AD X B (e::es) t)(bL:(x == ("__debug__":Str))=false:=by decide)(he:f_ (e::es) X.env=(false,Mm e X.env)::f_ es X.env:=by rfl)(aC:(Mp pos (f_ es X.env)).any (·.1)=false:=by rfl):
  EO X B (.Call (.Name x p) (e::es) [] pos) (fn1 (coF g) t):=PE.imp (uf F hr hg hm hk hb .nil pass0 ha bL he aC) t_co
noncomputable def hide(H:Hp)(p:i_):Hp:=λb=>if b=p then none else H b
theorem y9{H:Hp}{p:i_}:hide H p p=none:=by unfold hide;rw[if_pos rfl]
theorem sF{H:Hp}{p b:i_}(h:b≠p):hide H p b=H b:=by unfold hide;rw[if_neg h]
theorem Fs{H:Hp}{p:i_}:Same (hide H p) H:=λb o e=>by
 by_cases h:b=p
 ·subst h;rw[y9] at e;cases e
 ·rw[sF h] at e;exact e
noncomputable def bcF(g:List R->Option (R×List R))(c ds:List D):Option (R×List D):=match g (.bor c::ds.map .val) with
 | some (r,.bor c'::_)=>some (r,c')
 | _=>none
noncomputable def callB(i:Nat)(g:List R->Option (R×List R))(t:M (List D)):M R:=mutS i (bnd t λds=>λae=>match ae[i]? with
 | some (some (.own c))=>match bcF g c ds with
  | some (r,c')=>some (r,ae.set i (some (.own c')))
  | none=>none
 | some (some (.bor c))=>match bcF g c ds with
  | some (r,c')=>some (r,ae.set i (some (.bor c')))
  | none=>none
 | _=>none)
noncomputable def asV(r:R):Option D:=match r with
 | .val d=>some d
 | _=>none
noncomputable def asO(r:R):Option (List D):=match r with
 | .own d=>some d
 | _=>none
noncomputable def cbV(i:Nat)(g:List R->Option (R×List R))(t:M (List D)):M D:=bnd (callB i g t) λr=>lft (asV r)
noncomputable def cbO(i:Nat)(g:List R->Option (R×List R))(t:M (List D)):M (List D):=bnd (callB i g t) λr=>lft (asO r)
theorem Rep.extBut{K:PySem.W.Frag}{H:Hp}(r:Rep K B G I H U Z){q:i_}(ap:Apart U Z q)(gq:G q=none)(iq:I q=none)(pV:I' q=none)(hI:Same I I')(hH:∀b o,H b=some o->b≠q->H' b=some o)(iH:Same I' H')(new:∀b o,I' b=some o->I b=some o\/H b=none\/b=q):Rep K B G I' H' U Z where
 iH:=iH
 gH:=λb o e=>hH b o (r.gH b o e) (λz=>by subst z;rw[gq] at e;cases e)
 len:=r.len
 slot:=λi qr e=>by
  obtain⟨v,e1,e2⟩:=r.slot i qr e;refine⟨v,e1,?_⟩
  have mt:qr.ptr=true->∀ds,Mt K G I H ds v->Mt K G I' H' ds v:=λm ds h=>by
   obtain⟨p2,xs,h1,h2,h3,h4,h5⟩:=h;have ne:p2≠q:=λz=>ap i qr e m (by rw[e1,h1,z])
   refine⟨p2,xs,h1,hH _ _ h2 ne,?_,h4,h5.mono hI⟩;cases z:I' p2 with
   | none=>rfl
   | some o =>
    rcases new p2 o z with z1 | z1 | z1
    ·rw[h3] at z1;cases z1
    ·rw[h2] at z1;cases z1
    ·exact absurd z1 ne
  cases qr with
  | val d=>exact Is.mono hI e2
  | dic ds =>
   obtain⟨p2,xs,h1,h2,h3,h4,h5⟩:=e2;have ne:p2≠q:=λz=>ap i _ e rfl (by rw[e1,h1,z])
   refine⟨p2,xs,h1,hH _ _ h2 ne,?_,h4,h5.mono hI⟩;cases z:I' p2 with
   | none=>rfl
   | some o =>
    rcases new p2 o z with z1 | z1 | z1
    ·rw[h3] at z1;cases z1
    ·rw[h2] at z1;cases z1
    ·exact absurd z1 ne
  | own ds=>exact mt rfl ds e2
  | bor ds=>exact mt rfl ds e2
  | fro ds=>obtain⟨p,xs,f1,f2,f3,f4⟩:=e2;exact⟨p,xs,f1,hI _ _ f2,f3,f4.mono hI⟩
 dist:=r.dist
 bor:=r.bor
theorem borrow{K:PySem.W.Frag}{H:Hp}{i:Nat}{q q':R}{c':List D}{Q:VK}{E:XK}(r:Rep K B G I H U Z)(hq:Z[i]?=some (some q))(hc:(q=.own c/\q'=.own c')\/(q=.bor c/\q'=.bor c'))(hd:IsA K I ds ws)(gE:U[i]?=some (some v0))(hg:bcF g c ds=some (rr,c'))(k:∀v H' I',Rep K B G I' H' U (Z.set i (some q'))->Grow G I I'->ResOk K G I' H' U (Z.set i (some q')) rr v->Q v H'):spD K g (v0::ws) H Q E:=by
 obtain⟨v,e1,e2⟩:=r.slot i q hq;rw[gE] at e1;cases e1;have hm:q.ptr=true:=by rcases hc with⟨rfl,_⟩ | ⟨rfl,_⟩<;>rfl
 have mt:Mt K G I H c v0:=by rcases hc with⟨rfl,_⟩ | ⟨rfl,_⟩<;>exact e2
 obtain⟨a,xs,rfl,h1,h2,h3,h4⟩:=mt;unfold bcF at hg;cases e3:g (.bor c::ds.map .val) with
 | none=>rw[e3] at hg;cases hg
 | some z =>
  obtain⟨r0,bf⟩:=z;rw[e3] at hg;cases bf with
  | nil=>cases hg
  | cons y bf =>
   cases y with
   | val _=>cases hg
   | own _=>cases hg
   | fro _=>cases hg
   | dic _=>cases hg
   | bor c2 =>
    cases hg;refine⟨hide H a,I,.bor c::ds.map .val,rr,.bor c'::bf,?_,by rw[Sv,t4];rfl,e3,λv H' I' r' g' hv=>?_⟩
    ·have rv:=tP r hd
     exact {
      iH:=r.iH,gH:=Fs
      len:=by rw[K_,K_,Md,Md,rv.len]
      slot:=λj qr e=>by
       cases j with
       | zero=>cases e;exact⟨_,rfl,a,xs,rfl,h1,h2,y9,h4⟩
       | succ j =>
        obtain⟨w,e4,e5⟩:=rv.slot j qr (by simpa using e);refine⟨w,by simpa using e4,?_⟩;have e9:((ds.map R.val).map some)[j]?=some (some qr):=e;obtain⟨z,f1,f2⟩:=getMap e9;cases f2;obtain⟨d,f3,rfl⟩:=getMap f1;exact e5
      dist:=λj l qr pW w e e' m m' s1 s2=>by
       have only:∀{j:Nat}{qr:R},((R.bor c::ds.map R.val).map some)[j]?=some (some qr)->qr.ptr=true->j=0:=λ{j qr} e m=>by
        cases j with
        | zero=>rfl
        | succ j =>
         have e9:((ds.map R.val).map some)[j]?=some (some qr):=e;obtain⟨z,f1,f2⟩:=getMap e9;cases f2;obtain⟨d,f3,rfl⟩:=getMap f1;cases m
       rw[only e m,only e' m']
      bor:=λj es e=>rfl }
    ·obtain⟨w,e4,e5⟩:=r'.slot 0 (.bor c') rfl;cases e4;obtain⟨a',bb,e6,f1,f2,f3,f4⟩:=e5;cases e6
     have dE:Apart U (Z.set i none) a:=λj r1 z m s=>by
      rcases qU z with⟨_,z',_⟩ | ⟨n,z'⟩
      ·cases z'
      ·exact n (r.dist j i r1 q _ z' hq m hm s gE)
     have r1:=(r.forget i).extBut (q:=a) dE h3 h2 f2 g'.up (λb o e n=>r'.gH b o (by rw[sF n];exact e)) r'.iH (λb o e=>by
      rcases g'.new b o e with z | z
      ·exact .inl z
      ·by_cases n:b=a
       ·exact .inr (.inr n)
       ·rw[sF n] at z;exact .inr (.inl z))
     have r2:=r1.learn (i:=i) (q:=q') (v:=.ref a) gE (by rcases hc with⟨_,rfl⟩ | ⟨_,rfl⟩<;>exact⟨a,bb,rfl,f1,f2,h3,f4⟩) (λm p2 e j r' n z m' s=>by
      cases e;exact dE j r' z m' s) (λes z=>by
      rcases hc with⟨_,rfl⟩ | ⟨rfl,rfl⟩
      ·cases z
      ·exact r.bor i c hq)
     rw[S7] at r2
     have g2:Grow G I I':=⟨g'.up,λb o e=>by
      rcases g'.new b o e with z | z
      ·exact .inl z
      ·by_cases n:b=a
       ·subst n;exact .inr h3
       ·rw[sF n] at z;exact .inr (r.gFree z)⟩
     refine k v H' I' r2 g2 ?_;cases rr with
     | val d=>exact hv
     | bor d=>exact hv
     | fro d =>
      obtain⟨p2,ys,b1,b2,b3,b4⟩:=hv;have ne:p2≠a:=λz=>by rw[z,f2] at b2;cases b2
      rw[sF ne] at b3;exact⟨p2,ys,b1,b2,r.gFree b3,b4⟩
     | dic d =>
      obtain⟨p2,ys,b1,b2,b3,b4,b5,b6⟩:=hv;have ne:p2≠a:=λz=>b5 0 (.bor c') rfl rfl (by rw[z];rfl)
      rw[sF ne] at b4;refine⟨p2,ys,b1,b2,b3,r.gFree b4,λj r3 z m s=>?_,b6⟩
      rcases qU z with⟨rfl,z',_⟩ | ⟨n,z'⟩
      ·rw[gE] at s;cases s;exact ne rfl
      ·exact r.apart b4 j r3 z' m s
     | own d =>
      obtain⟨p2,ys,b1,b2,b3,b4,b5,b6⟩:=hv;have ne:p2≠a:=λz=>b5 0 (.bor c') rfl rfl (by rw[z];rfl)
      rw[sF ne] at b4;refine⟨p2,ys,b1,b2,b3,r.gFree b4,λj r3 z m s=>?_,b6⟩
      rcases qU z with⟨rfl,z',_⟩ | ⟨n,z'⟩
      ·rw[gE] at s;cases s;exact ne rfl
      ·exact r.apart b4 j r3 z' m s
theorem Aj{i:Nat}{t:M (List D)}(h:callB i g t Z=some (rr,ah)):isMut Z i=true/\∃ds ae q q' c c',t Z=some (ds,ae)/\ae[i]?=some (some q)/\((q=.own c/\q'=.own c')\/(q=.bor c/\q'=.bor c'))/\bcF g c ds=some (rr,c')/\ah=ae.set i (some q'):=by
 obtain⟨hm,h⟩:=tU h;obtain⟨ds,ae,e1,e2⟩:=pS h;refine⟨hm,ds,ae,?_⟩;cases e:ae[i]? with
 | none=>simp only[e] at e2;cases e2
 | some o =>
  cases o with
  | none=>simp only[e] at e2;cases e2
  | some q =>
   cases q with
   | val d=>simp only[e] at e2;cases e2
   | fro d=>simp only[e] at e2;cases e2
   | dic d=>simp only[e] at e2;cases e2
   | own c =>
    simp only[e] at e2;cases e3:bcF g c ds with
    | none=>simp only[e3] at e2;cases e2
    | some z =>
     obtain⟨r0,c'⟩:=z;simp only[e3] at e2;cases e2;exact⟨.own c,.own c',c,c',e1,rfl,.inl ⟨rfl,rfl⟩,e3,rfl⟩
   | bor c =>
    simp only[e] at e2;cases e3:bcF g c ds with
    | none=>simp only[e3] at e2;cases e2
    | some z =>
     obtain⟨r0,c'⟩:=z;simp only[e3] at e2;cases e2;exact⟨.bor c,.bor c',c,c',e1,rfl,.inr ⟨rfl,rfl⟩,e3,rfl⟩
theorem DP{K:PySem.W.Frag}{E:XK}{i:Nat}:∀U H Q,tD K B (cbV i g t) U H Q->tCall (spD K g) [] E (tCons (tVar i) (tAD K B t)) U H Q:=λU H Q q=>by
 obtain⟨G,I,Z,d,ah,r,e1,kk⟩:=q;obtain⟨rr,dQ,e2,e3⟩:=pS e1;obtain⟨e4,rfl⟩:=qI e3;obtain⟨hm,ds,ae,q,q',c,c',f1,f2,f3,f4,rfl⟩:=Aj e2;obtain⟨a,xs,h1,h2⟩:=sH hm r;refine⟨_,h1,G,I,Z,ds,ae,r,f1,λws H1 I1 r1 g1 hd=>?_⟩;show spD K g ((.ref a::ws)++[]) H1 Q E;rw[M5];refine borrow r1 f2 f3 hd h1 f4 λv H' I' r' g' hv=>?_
 cases rr with
 | val d'=>cases e4;exact kk v H' I' r' (g1.trans g') hv
 | own _=>cases e4
 | bor _=>cases e4
 | fro _=>cases e4
 | dic _=>cases e4
theorem IX{K:PySem.W.Frag}{E:XK}{i:Nat}:∀U H Q,tO K B (cbO i g t) U H Q->tCall (spD K g) [] E (tCons (tVar i) (tAD K B t)) U H Q:=λU H Q q=>by
 obtain⟨G,I,Z,d,ah,r,e1,kk⟩:=q;obtain⟨rr,dQ,e2,e3⟩:=pS e1;obtain⟨e4,rfl⟩:=qI e3;obtain⟨hm,ds,ae,q,q',c,c',f1,f2,f3,f4,rfl⟩:=Aj e2;obtain⟨a,xs,h1,h2⟩:=sH hm r;refine⟨_,h1,G,I,Z,ds,ae,r,f1,λws H1 I1 r1 g1 hd=>?_⟩;show spD K g ((.ref a::ws)++[]) H1 Q E;rw[M5];refine borrow r1 f2 f3 hd h1 f4 λv H' I' r' g' hv=>?_
 cases rr with
 | own d' =>
  cases e4;obtain⟨p2,ys,rfl,b2,b3,b4,b5,b6⟩:=hv;exact kk p2 ys H' I' r' (g1.trans g') b2 b3 b4 b5 b6
 | val _=>cases e4
 | bor _=>cases e4
 | fro _=>cases e4
 | dic _=>cases e4
theorem qP{i:Nat}(F:FnOk X.prog X.w X.K X.mg X.base CX0 k f fd ps (spD X.K g))(hr:Room k X.A)(hg:Gl X x)(hm:X.mg x=some (.ref f))(hk:QN X.K (.ref f)=true)(hb:Binds X.K fd ps [])(hv:PE X (.Name y py) (tVar i))(ha:AD X B es t)(bL:(x == ("__debug__":Str))=false:=by decide)(he:f_ (.Name y py::es) X.env=(false,Mm (.Name y py) X.env)::f_ es X.env:=by rfl)(aC:(Mp pos (f_ es X.env)).any (·.1)=false:=by rfl):
  ED X B (.Call (.Name x p) (.Name y py::es) [] pos) (cbV i g t):=PE.imp (uf F hr hg hm hk hb .nil pass0 (tH hv ha he) bL he aC) DP
theorem CP{i:Nat}(F:FnOk X.prog X.w X.K X.mg X.base CX0 k f fd ps (spD X.K g))(hr:Room k X.A)(hg:Gl X x)(hm:X.mg x=some (.ref f))(hk:QN X.K (.ref f)=true)(hb:Binds X.K fd ps [])(hv:PE X (.Name y py) (tVar i))(ha:AD X B es t)(bL:(x == ("__debug__":Str))=false:=by decide)(he:f_ (.Name y py::es) X.env=(false,Mm (.Name y py) X.env)::f_ es X.env:=by rfl)(aC:(Mp pos (f_ es X.env)).any (·.1)=false:=by rfl):
  EO X B (.Call (.Name x p) (.Name y py::es) [] pos) (cbO i g t):=PE.imp (uf F hr hg hm hk hb .nil pass0 (tH hv ha he) bL he aC) IX
end
end DL
variable{it:DL.M (List DL.D)}{body:DL.M DL.Fl}{az:DL.D->DL.M Unit}{gl gh:DL.M (Option Int)}{ts:DL.M Bool}{el gk gv:DL.M DL.D}
namespace DL
open PySem PySem.Spec PyProof.Rows L2
noncomputable def relab(sc cD:OG):OG:={ sc with names:=sc.names.map λ(n,k)=>if(k == .free&&cD.kind == .function&&cD.names.lookup n == some .cell) then(n,.cell) else(n,k) }
noncomputable def clo(cells:List (Str×i_)):List (Str×MP)->List (Str×i_)->List (Str×i_)
 | [],am=>am
 | (n,k)::r,am=>if k == .free then clo cells r ((n,(cells.lookup n).getD 0)::am) else clo cells r am
theorem BH{env:Env}(f:Str×MP->List (Str×i_)->Sem (ForInStep (List (Str×i_))))(hf:∀name kind cs,f (name,kind) cs=if kind == .free then(do let a ←cellOf env name;pure (.yield ((name,a)::cs))) else pure (.yield cs)):
  ∀(names:List (Str×MP)) (am:List (Str×i_)),(∀n,(n,MP.free)∈names->∃c,env.cells.lookup n=some c)->(forIn names am f:Sem _)=pure (clo env.cells names am)
 | [],am,_=>by rw[forIn_nil];rfl
 | (n,k)::r,am,h=>by
  rw[QW,hf];unfold clo;have ih:=λlA=>BH f hf r lA (λn hn=>h n (j_ _ hn))
  by_cases hk:(k == MP.free)=true
  ·rw[if_pos hk,if_pos hk];have dj:k=.free:=by simpa using hk
   subst dj;obtain⟨c,hc⟩:=h n g_;have e:cellOf env n=pure c:=by unfold cellOf;rw[hc]
   rw[e,hc];simp only[pure_bind,Option.getD_some];exact ih _
  ·rw[if_neg hk,if_neg hk];simp only[pure_bind];exact ih _
theorem zB(h:∀n,(n,MP.free)∈scope.names->∃c,env.cells.lookup n=some c):QX scope env=pure (clo env.cells scope.names []):=by
 unfold QX;dsimp only;rw[BH (env:=env) _ (λname kind cs=>by cases hk:kind == MP.free<;>simp[hk]) scope.names [] h];rfl
theorem vg{cells:List (Str×i_)}:∀{names:List (Str×MP)}{am:List (Str×i_)}{x:Str}{c:i_},(x,c)∈clo cells names am->(x,c)∈am\/((x,MP.free)∈names/\c=(cells.lookup x).getD 0)
 | [],am,x,c,h=>.inl h
 | (n,k)::r,am,x,c,h=>by
  unfold clo at h;by_cases hk:(k == MP.free)=true
  ·rw[if_pos hk] at h;have dj:k=.free:=by simpa using hk
   subst dj
   rcases vg h with z | ⟨z1,z2⟩
   ·rcases n_.mp z with z | z
    ·cases z;exact .inr ⟨g_,rfl⟩
    ·exact .inl z
   ·exact .inr ⟨j_ _ z1,z2⟩
  ·rw[if_neg hk] at h
   rcases vg h with z | ⟨z1,z2⟩
   ·exact .inl z
   ·exact .inr ⟨j_ _ z1,z2⟩
theorem xI{cells:List (Str×i_)}:∀{names:List (Str×MP)}{am:List (Str×i_)}{x:Str},((x,MP.free)∈names\/∃c,am.lookup x=some c)->∃c,(clo cells names am).lookup x=some c
 | [],am,x,h=>by
  rcases h with h | h
  ·cases h
  ·exact h
 | (n,k)::r,am,x,h=>by
  unfold clo
  have push:∀c0:i_,(∃c,am.lookup x=some c)->∃c,((n,c0)::am).lookup x=some c:=λc0 ⟨c,hc⟩=>by
   rw[Qr];cases x == n
   ·exact⟨c,hc⟩
   ·exact⟨c0,rfl⟩
  by_cases hk:(k == MP.free)=true
  ·rw[if_pos hk];refine xI ?_
   rcases h with h | h
   ·rcases n_.mp h with z | z
    ·cases z;exact .inr ⟨_,by rw[Qr,beq_self_eq_true]⟩
    ·exact .inl z
   ·exact .inr (push _ h)
  ·rw[if_neg hk];refine xI ?_
   rcases h with h | h
   ·rcases n_.mp h with z | z
    ·cases z;exact absurd (by rfl) hk
    ·exact .inl z
   ·exact .inr h
structure CompScope(cD sc:OG)(N N':List Str)(m:Nat):Prop where
 kind:sc.kind=.function
 nocell:∀y∈sc.names,y.2≠.cell
 locals:∀y∈sc.names,y.2=.local->sc.names.lookup y.1=some .local
 free:∀y∈sc.names,y.2=.free->cD.names.lookup y.1=some .cell\/cD.names.lookup y.1=some .free
 nd:N'.Nodup
 len:N'.length=m+N.length
 up:∀p∈(N'.drop m).zip N,((relab sc cD).names.lookup p.1=none)\/(p.1=p.2/\(relab sc cD).names.lookup p.1≠some .local)
noncomputable def cxC(X:Cx)(scope:OG)(N':List Str)(C:i_)(s:d_)(H:Hp)(ex:List i_):Cx:=
 { X with N:=N',s₀:=s,H₀:=H,env:=compEnvC scope (clo X.env.cells scope.names []) C X.env,outer:=X.stack,stack:=X.stack,ex:=ex,fn:=λ_=>false,pn:=[],xe:=λ_ _=>False }
def PTs(X:Cx)(bq:List L8)(t:TT):Prop:=
 ∀(aa:List (i_×Obj)) (s:d_) (U:L2.St) (H:Hp) (Q:Bool->Hp->Prop),Inv X aa U H s->t U H Q →
  z_ (m_ X.prog X.w) X.A (forIn bq true λc r=>if r=true then do let ok ←S' c X.env (Mm c X.env);pure (Ow ok) else pure (Ow r)) (TP X aa U Q) X.xe s
theorem Hk:PTs X [] (λ_ H Q=>Q true H):=λaa s U H Q I h=>wpAny_tests_nil ⟨H,I,h⟩
theorem Ea{c:L8}{t:TT}(h:PT X c t):PTs X [c] t:=λaa s U H Q I q=>wpAny_tests_one (h aa s U H Q I q)
abbrev calm(P:B_)(w:J_)(A:Ni){α:Type}(m:Sem α)(Q:α->d_->Prop)(s:d_):Prop:=z_ (m_ P w) A m Q (λ_ _=>False) s
theorem calm.on{P:B_}{w:J_}{α β:Type}{m:Sem α}{f:α->Sem β}{Q:α->d_->Prop}{K:β->d_->Prop}{E:b_->d_->Prop}{s:d_}(h:calm P w A m Q s)(k:∀a s',Q a s'->z_ (m_ P w) A (f a) K E s'):z_ (m_ P w) A (m >>= f) K E s:=
 a_ (Mz h k λ_ _ no=>no.elim)
def TurnMeets(P:B_)(w:J_)(A:Ni)(cE iA:b_)(tg bJ:L8)(bq:List L8)(env:Env)(Sm ak:d_->Prop)(s:d_):Prop:=
 calm P w A (Nx cE) (λeV s=>match eV with
  | none=>ak s
  | some v=>calm P w A (Pi tg cE v) (λ_ s=>calm P w A (PM tg env v) (λ_ s =>
    calm P w A (forIn bq true λc r=>if r=true then do let ok ←S' c env (Mm c env);pure (Ow ok) else pure (Ow r)) (λjJ s =>
     cond jJ (calm P w A (Mm bJ env) (λx s=>calm P w A (call (.builtin "list.append") [iA,x]) (λ_ s=>Sm s) s) s) (Sm s)) s) s) s) s
theorem Dv{P:B_}{w:J_}{ak:SO->d_->Prop}{s:d_}{bJ jK:L8}{sc:OG}{aF:Pos}{cE iA:b_}(W:Nat->d_->Prop)(lC:∀left s,W left s->TurnMeets P w A cE iA tg bJ bq env (λs'=>∃less,less < left/\W less s') (ak (.ok .next)) s)(left:Nat)(start:W left s):
  Nw (m_ P w) A (.compLoop (.ListComp bJ [⟨tg,jK,bq,0⟩] sc aF) 0 cE iA env) ak s:=by
 refine codeAny_loop rfl W (λleft s aG=>?_) left start;have turn:=lC left s aG;unfold TurnMeets at turn;refine wpAny_noted ?_;rw[compTurn_list];refine a_ (RX (turn.on λeV s1 h1=>?_));cases eV with
 | none=>exact e_ h1
 | some v=>exact calm.on h1 λ_ _ h2=>calm.on h2 λ_ _ h3=>calm.on h3 λjJ s4 h4=>match jJ,h4 with
  | false,h4=>e_ (And.intro rfl h4)
  | true,h4=>a_ (calm.on h4 λ_ _ h5=>calm.on h5 λ_ _ h6=>e_ (e_ (And.intro rfl h6)))
def Clear(X:Cx)(aa:List (i_×Obj))(H:Hp)(C:i_):Prop:=H C=none/\C≠X.env.locals/\X.s₀.heap.objs.size<=C/\(∀x c,X.env.cells.lookup x=some c->c≠C)/\∀p∈X.pn++aa,p.1≠C
theorem Inv.clear{H:Hp}{s:d_}{C:i_}(I:Inv X aa U H s)(c:Clear X aa H C)(hs:L4.SameBut C s.heap h'):Inv X aa U H { s with heap:=h' }:=
 I.turned (t':=s.toks) (λb o hb e=>(hs.2 b hb).trans e) c.1 c.2.1 (.inr c.2.2.1) c.2.2.2.1 c.2.2.2.2
def CompW(m:Nat)(J:It)(g:TG)(tt:TT)(te:TE)(U:L2.St)(H1:Hp)(p:i_)(Q:VK):Prop:=
 ∃W:Nat->Nat->L2.St->Hp->Prop,(∃n,W 0 n (Mw m none++U) (upd H1 p (.lst [])))/\∀i n au H',W i n au H' →
  (J.stop i H'/\Q (.ref p) H')\/(J.go i H'/\∀x H2,J.yld i H' x H2->g x au H2 λba H3=>tt ba H3 λb H4 =>
   if b=true then te ba H4 λy H5=>∃am,H5 p=some (.lst am)/\am.length < v_/\∃n',n' < n/\W (i+1) n' ba (upd H5 p (.lst (am++[y])))
   else ∃n',n' < n/\W (i+1) n' ba H4)
section
variable{bJ:L8}{N':List Str}{g:TG}{tt:TT}
theorem Ah{it:i_}{tn:Nat->L4->Prop}{Q:VK}{E:b_->d_->Prop}(S:CompScope X.env.scope scope X.N N' m)(hc:X.calm=true)(hg:∀C s H ex,PG (cxC X scope N' C s H ex) tg g)(ht:∀C s H ex,PTs (cxC X scope N' C s H ex) bq tt)(he:∀C s H ex,PE (cxC X scope N' C s H ex) bJ te)(I2:Inv X aa U H2 s2)(T:Turn X.prog X.w X.K tg J fp it tn)(bP:tn 0 s2.heap)(f2:∀b∈fp,FpOk X aa H2 b)(hw:∀p,H2 p=none->CompW m J g tt te U H2 p Q):
  z_ (m_ X.prog X.w) X.A (newList []) (λam s3=>z_ (m_ X.prog X.w) X.A (newFunctionEnv scope X.env.globals (clo X.env.cells scope.names []) [] X.env.qual none .none (some X.env)) (λdk s4 =>
   Nw (m_ X.prog X.w) X.A (.compStart (.ListComp bJ [⟨tg,iter,bq,0⟩] scope pos) 0 (.ref it) am { dk with scope:=relabel scope X.env })
    (λr s'=>match r with | .ok _=>∃p H' mm,am=.ref p/\s'.heap.Ns dk.locals mm/\Inv X aa U H' s'/\Clear X aa H' dk.locals/\Q (.ref p) H' | .error _=>False) s4) E s3) E s2:=by
 refine Ma (Ru S.nocell (by intro y hy;simp at hy) (λh1 jl jm=>?_) S.kind);dsimp only at jl jm ⊢
 -- the new list
 have hp:H2 s2.heap.objs.size=none:=I2.hok.fresh (A_ _);obtain⟨W,⟨n0,w0⟩,turn⟩:=hw _ hp;obtain⟨p,hP⟩:∃p,p=s2.heap.objs.size:=⟨_,rfl⟩;obtain⟨s3,jL⟩:∃s3:d_,s3={ s2 with heap:=s2.heap.push { cls:=.type "list", dict:=none,data:=.seq ([]:List b_).toArray } }:=⟨_,rfl⟩;obtain⟨C,hC⟩:∃C,C=s3.heap.objs.size:=⟨_,rfl⟩;obtain⟨H3,jM⟩:∃H3,H3=upd H2 p (.lst []):=⟨_,rfl⟩;have h3:s3.heap=s2.heap.push { cls:=.type "list", dict:=none,data:=.seq ([]:List b_).toArray }:=by rw[jL]
 have fK:h1.Ns C (λx=>([]:List (Str×b_)).reverse.lookup x):=by rw[hC,h3];exact jl
 have iB:L4.SameBut C (s3.heap.push { cls:=.type "dict", data:=.dict #[] }) h1:=by rw[hC,h3];exact jm
 rw[←hP] at hp;have nV:W 0 n0 (Mw m none++U) H3:=by rw[jM,hP];exact w0
 have jN:∀i n au H',W i n au H'->(J.stop i H'/\Q (.ref p) H')\/(J.go i H'/\∀x H2,J.yld i H' x H2->g x au H2 λba H3=>tt ba H3 λb H4 =>
   if b=true then te ba H4 λy H5=>∃am,H5 p=some (.lst am)/\am.length < v_/\∃n',n' < n/\W (i+1) n' ba (upd H5 p (.lst (am++[y])))
   else ∃n',n' < n/\W (i+1) n' ba H4):=by rw[hP];exact turn
 have I3:Inv X aa U H3 s3:=by
  rw[jM,jL,hP];exact I2.laid (t':=s2.toks) (λb u e=>c_ _ e) (A_ _) ⟨Me _,[],0,.nil,s_ _ rfl⟩
 have cS:tn 0 s3.heap:=T.keep _ _ _ bP λb _ o e=>by rw[h3];exact c_ _ e
 have f3:∀b∈fp,FpOk X aa H3 b:=λb hb=>by
  obtain⟨a0,a1⟩:=f2 b hb;refine⟨?_,a1⟩;obtain⟨o,e,_⟩:=T.obj _ _ bP b hb
  have ne:b≠p:=λz=>by
   have:=F_ e;rw[←hP,z] at this;exact NN _ this
  rw[jM,qx ne];exact a0
 -- the block's context
 have bC:∀x c,(clo X.env.cells scope.names []).lookup x=some c->X.env.cells.lookup x=some c:=λx c e=>by
  rcases vg (mem_of_lookup e) with z | ⟨z1,z2⟩
  ·cases z
  ·obtain⟨c',bX⟩:=I2.ok.has x (S.free _ z1 rfl);rw[bX] at z2;rw[z2];exact bX
 have fz:Clear X aa H3 C:=by
  refine⟨?_,?_,?_,λx c e z=>?_,λq hq z=>?_⟩
  ·exact I3.hok.fresh (Sw hC.symm)
  ·have:=I3.lt;rw[←hC] at this;exact Om this
  ·have:=I3.sz;rw[←hC] at this;exact this
  ·obtain⟨v,q⟩:=I3.cell x c e;have:=q.lt;rw[←hC,z] at this;exact NN _ this
  ·have:=F_ (I3.pin q hq).1;rw[←hC,z] at this;exact NN _ this
 have old:∀b o,s3.heap.get? b=some o->h1.get? b=some o:=λb o e=>by
  have ne:b≠C:=λz=>by have:=F_ e;rw[←hC,z] at this;exact NN _ this
  exact(iB.2 b ne).trans (c_ _ e)
 have ok:(cxC X scope N' C s3 H3 fp).Ok:=by
  refine⟨I3.ok.mod,S.kind,I3.ok.glob,I3.ok.blt,Sw hC.symm,λx y c e1 e2=>I3.ok.inj x y c (bC x c e1) (bC y c e2),λx hx=>?_,λx c z=>(nomatch z),λz=>I3.ok.hd z,I3.ok.frames,.inl rfl,λb hb=>⟨λz=>?_,λx c e=>(f3 b hb).2.2.2.2.1 x c (bC x c e)⟩,I3.bs,MY I3.ok.bsz I3.sz,λb o e hb=>?_,λb hb z=>?_,I3.stack,λb hb=>I3.stkFree b hb,λc P h=>I3.base.tbls P _ (I3.ok.tb c P h)⟩
  ·-- has
   have jO:(relab scope X.env.scope).names.lookup x=some .cell\/(relab scope X.env.scope).names.lookup x=some .free:=hx
   have mem:∃k,(x,k)∈(relab scope X.env.scope).names/\(k=MP.cell\/k=MP.free):=by
    rcases jO with z | z
    ·exact⟨_,mem_of_lookup z,.inl rfl⟩
    ·exact⟨_,mem_of_lookup z,.inr rfl⟩
   obtain⟨k,hm,hk⟩:=mem;obtain⟨⟨n1,k1⟩,gF,e1⟩:=Nf.mp hm;refine xI (.inl ?_);dsimp only at e1;by_cases hcond:(k1 == MP.free&&X.env.scope.kind == ScopeKind.function&&X.env.scope.names.lookup n1 == some MP.cell)=true
   ·rw[if_pos hcond] at e1;cases e1
    have:k1=.free:=by
     simp only[M',beq_iff_eq] at hcond;exact hcond.1.1
    rw[←this];exact gF
   ·rw[if_neg hcond] at e1;cases e1
    rcases hk with rfl | rfl
    ·exact absurd rfl (S.nocell _ gF)
    ·exact gF
  ·obtain⟨o,e,_⟩:=T.obj _ _ cS b hb;have:=F_ e;rw[←hC] at this;have z':b=C:=z;rw[z'] at this;exact NN _ this
  ·obtain⟨a0,a1,a2,a3,_⟩:=f3 b hb
   rcases a3 with z | z
   ·exact I3.ok.noex b o e z
   ·exact absurd (H_ (F_ e) (MY I3.ok.bsz z)) (NN _)
  ·have z':=I3.stkSub b z;obtain⟨a0,a1,a2,_⟩:=f3 b hb
   rcases n_.mp z' with e | e
   ·exact a1 e
   ·exact a2 e
 -- the block's first state
 have I4:Inv (cxC X scope N' C s3 H3 fp) [] (Mw m none++U) H3 { s3 with heap:=h1,toks:=s3.toks+([]:List (Str×b_)).length }:=by
  obtain⟨mo,pX,lm⟩:=I3.loc;refine⟨ok,rfl,I3.bare,Un.kept old,⟨_,fK,λi x v e1 e2 e3=>?_⟩,λx c e=>?_,fz.1,λx c e=>I3.freeC x c (bC x c e),λq hq=>absurd (show q∈([]:List (i_×Obj)) from hq) (by simp),I3.hok.kept old,?_⟩
  ·have hi:m<=i:=by
    by_cases z:m<=i
    ·exact z
    ·rw[MT (by rw[L7];omega),NR] at e2;split at e2<;>cases e2
   rw[MO (by rw[L7];exact hi),L7] at e2;have eW:N'[i]?=some x:=e1
   have eR:i - m < X.N.length:=by
    have:=(D_.mp eW).1;rw[S.len] at this;omega
   have e4:(N'.drop m)[i - m]?=some x:=by rw[Op];rw[show m+(i - m)=i from by omega];exact eW
   have e5:X.N[i - m]?=some X.N[i - m]:=h_ eR;have e6:((N'.drop m).zip X.N)[i - m]?=some (x,X.N[i - m]):=by rw[P3];exact⟨e4,e5⟩
   have lD:Vis (relab scope X.env.scope) x:=e3
   rcases S.up _ (Mf e6) with z | ⟨z1,z2⟩
   ·have z':(relab scope X.env.scope).names.lookup x=none:=z
    rcases lD with y | y | y<;>rw[z'] at y<;>cases y
   ·have nW:x=X.N[i - m]:=z1;have nX:(relab scope X.env.scope).names.lookup x≠some .local:=z2
    have lE:(relab scope X.env.scope).names.lookup x=some .cell\/(relab scope X.env.scope).names.lookup x=some .free:=by
     rcases lD with y | y | y
     ·exact absurd y nX
     ·exact .inl y
     ·exact .inr y
    obtain⟨c,cF⟩:=ok.has x lE;have nY:=bC x c cF
    -- the name in the def's own frame
    have mem:(x,MP.free)∈scope.names:=by
     rcases vg (mem_of_lookup cF) with y | ⟨y,_⟩
     ·cases y
     ·exact y
    have lF:Vis X.env.scope x:=by
     rcases S.free _ mem rfl with y | y
     ·exact .inr (.inl y)
     ·exact .inr (.inr y)
    obtain⟨u,ru,l⟩:=lm (i - m) x v (by rw[e5,←nW]) e2 lF;refine⟨u,ru,.inr ⟨lE,c,cF,?_⟩⟩
    rcases l with⟨k,_⟩ | ⟨_,c',e',z'⟩
    ·have k':X.env.scope.names.lookup x=some .local:=k
     rcases S.free _ mem rfl with y | y<;>(have y':X.env.scope.names.lookup x=_:=y;rw[k'] at y';cases y')
    ·rw[nY] at e';cases e';exact z'.keeps old
  ·obtain⟨v,q⟩:=I3.cell x c (bC x c e);exact⟨v,q.keeps old⟩
  ·show(Mw m none++U).length=N'.length;rw[LY,L7,S.len,I3.len]
 have cZ:∀{H':Hp},(∀b∈fp,H' b=none)->∀b∈fp,FpOk (cxC X scope N' C s3 H3 fp) [] H' b:=λ{H'} hn b hb=>by
  refine⟨hn b hb,(ok.exf b hb).1,ok.exfs b hb,.inl hb,(ok.exf b hb).2,λq hq=>absurd (show q∈([]:List (i_×Obj)) from hq) (by simp)⟩
 -- what stands behind the block
 have dh:∀{au:L2.St}{H':Hp}{s':d_},Inv (cxC X scope N' C s3 H3 fp) [] au H' s'->Inv X aa U H' s'/\Clear X aa H' C:=λ{au H' s'} J'=>by
  refine⟨I3.call' J'.os J'.base J'.hok J'.bare λb hb=>?_,J'.free,fz.2⟩;obtain⟨a0,a1,a2,a3,a4,a5⟩:=f3 b hb;exact⟨a3,a1,a4,a5⟩
 have aX:∀s4:d_,s4={ s3 with heap:=h1,toks:=s3.toks+([]:List (Str×b_)).length } →
   Nw (m_ X.prog X.w) X.A (.compLoop (.ListComp bJ [⟨tg,iter,bq,0⟩] scope pos) 0 (.ref it) (.ref p) (compEnvC scope (clo X.env.cells scope.names []) C X.env))
    (λr s'=>match r with | .ok _=>∃p' H' mm,b_.ref p=.ref p'/\s'.heap.Ns C mm/\Inv X aa U H' s'/\Clear X aa H' C/\Q (.ref p') H' | .error _=>False) s4:=by
  rintro s4 rfl;refine Dv (λn s'=>∃i au H',Inv (cxC X scope N' C s3 H3 fp) [] au H' s'/\tn i s'.heap/\(∀b∈fp,H' b=none)/\W i n au H') ?_ n0 ⟨0,_,_,I4,T.keep _ _ _ cS λb _ o e=>old b o e,λb hb=>(f3 b hb).1,nV⟩;rintro n s5 ⟨i,eP,H5,I5,fH,ik,w5⟩;show TurnMeets _ _ _ _ _ _ _ _ _ _ _ _;unfold TurnMeets
  rcases jN i n eP H5 w5 with⟨stop,qn⟩ | ⟨go,step⟩
  ·refine Mz (T.done (cxC X scope N' C s3 H3 fp) rfl rfl rfl hc i [] s5 eP H5 (λ_ _=>False) I5 (cZ ik) fH stop) (λr s6 ⟨hr,I6⟩=>?_) λ_ _ z=>z
   subst hr;obtain⟨mm,nZ,_⟩:=I6.loc;obtain⟨b1,b2⟩:=dh I6;exact⟨p,H5,mm,rfl,nZ,b1,b2,qn⟩
  ·refine Mz (T.item (cxC X scope N' C s3 H3 fp) rfl rfl rfl hc i [] s5 eP H5 (λ_ _=>False) I5 (cZ ik) fH go) (λr s6 ⟨u,hr,h6⟩=>?_) λ_ _ z=>z
   subst hr;refine Mz h6 (λ_ s7 ⟨x,H7,I7,r7,y7,jP,n3⟩=>?_) λ_ _ z=>z
   have n4:=I7.pinned (cZ n3) (T.obj _ _ jP);refine Mz (hg C s3 H3 fp _ s7 eP H7 x u _ n4 r7 (step x H7 y7)) (λ_ s8 ⟨gG,H8,I8,q8⟩=>?_) λ_ _ z=>z
   refine Mz (ht C s3 H3 fp _ s8 gG H8 _ I8 q8) (λok s9 ⟨H9,I9,q9⟩=>?_) λ_ _ z=>z
   have Sm:∀{lG:L2.St}{Ha:Hp}{sa:d_},Inv (cxC X scope N' C s3 H3 fp) ([]++pinsAt fp s7.heap) lG Ha sa->tn (i+1) sa.heap/\(∀b∈fp,Ha b=none):=λ{lG Ha sa} Ia=>by
    refine⟨T.keep _ _ _ jP λb hb o e=>(Ia.pin (b,o) (Mv _ (Mv _ (uV hb e)))).1,λb hb=>?_⟩;obtain⟨o,e,d⟩:=T.obj _ _ jP b hb;exact(Ia.pin (b,o) (Mv _ (Mv _ (uV hb e)))).2.1
   cases ok with
   | false =>
    rw[if_neg y_] at q9;obtain⟨n',eK,w9⟩:=q9;obtain⟨a1,a2⟩:=Sm I9;exact⟨n',eK,i+1,gG,H9,I9.unpinned,a1,a2,w9⟩
   | true =>
    rw[if_pos rfl] at q9;refine Mz (he C s3 H3 fp _ s9 gG H9 _ I9 q9) (λxv n5 ⟨y,lH,n6,n8,am,lI,hl,n',eK,n9⟩=>?_) λ_ _ z=>z
    refine Mz (Br (X:=cxC X scope N' C s3 H3 fp) _ n5 gG lH (.ref p) [y] (.ref p) [xv] (λ_ H'=>H'=upd lH p (.lst (am++[y]))) n6 rfl (.cons n8 .nil) ⟨p,am,y,rfl,rfl,lI,hl,rfl⟩) (λ_ pY ⟨pZ,qa,lJ,_,oe⟩=>?_) λ_ _ z=>z
    subst oe;obtain⟨a1,a2⟩:=Sm lJ;exact⟨n',eK,i+1,gG,_,lJ.unpinned,a1,a2,n9⟩
 subst hC;subst jL;subst hP;refine codeAny_compStart_list ?_ (T.self X.A 0 _ _ _ (T.keep _ _ _ cS λb _ o e=>old b o e) ?_)
 ·exact aX _ rfl
 ·exact aX _ rfl
end
section
variable{bJ:L8}{N':List Str}{g:TG}{tt:TT}{wi:TI}
noncomputable def tComp(m:Nat)(wi:TI)(g:TG)(tt:TT)(te:TE):TE:=λU H Q=>wi U H λJ H1=>∀p,H1 p=none->CompW m J g tt te U H1 p Q
theorem Fc(S:CompScope X.env.scope scope X.N N' m)(hc:X.calm=true)(hi:PI X tg iter wi)(hg:∀C s H ex,PG (cxC X scope N' C s H ex) tg g)(ht:∀C s H ex,PTs (cxC X scope N' C s H ex) bq tt)(he:∀C s H ex,PE (cxC X scope N' C s H ex) bJ te)(hs:∀x,Nd iter X.env x=pure x:=by intros;rfl):PE X (.ListComp bJ [⟨tg,iter,bq,0⟩] scope pos) (tComp m wi g tt te):=by
 intro aa s U H Q I h;rw[eval_ListComp];refine Qj (use:=none) rfl hs (zB λn hn=>I.ok.has n (S.free _ hn rfl)) S.kind S.locals (thn (hi aa s U H _ I h) λxv s1 h1=>thn h1 λii s2 h2=>?_);obtain⟨it,fp,tn,J,H2,e,I2,T,bP,f2,hw⟩:=h2;subst e;refine thn (Ah (pos:=pos) (iter:=iter) S hc hg ht he I2 T bP f2 hw) λam s3 h3=>thn h3 λdk s4 h4=>Oc h4 λr s5 h5=>?_
 cases r with
 | error x=>exact h5.elim
 | ok fl =>
  obtain⟨p,H5,mm,rfl,hn,I5,cl,q⟩:=h5;exact⟨mm,hn,λh' fL=>⟨.ref p,H5,Inv.clear I5 cl fL,rfl,q⟩⟩
theorem DT{i:Nat}(S:CompScope X.env.scope scope X.N N' m)(hc:X.calm=true)(hN:X.N.Nodup)(b9:X.N[i]?=some y)(hy:X.env.scope.names.lookup y=some .local)(hi:PI X tg iter wi)(hg:∀C s H ex,PG (cxC X scope N' C s H ex) tg g)(ht:∀C s H ex,PTs (cxC X scope N' C s H ex) bq tt)(he:∀C s H ex,PE (cxC X scope N' C s H ex) bJ te)(jQ:NO (.ListComp bJ [⟨tg,iter,bq,0⟩] scope pos) (some (.Name y py)) dZ.line X.env=pure true)(hs:∀x,Nd iter X.env x=pure x:=by intros;rfl):PS X (.Assign [.Name y py] (.ListComp bJ [⟨tg,iter,bq,0⟩] scope pos) dZ) (tAsg (tComp m wi g tt te) (gName i)):=by
 intro aa s U H D I h;rw[exec_Assign_Name_used _ _ _ _ jQ];refine a_ (RX (a_ ?_));show z_ _ X.A (do let _ ←comprehension (.ListComp bJ [⟨tg,iter,bq,0⟩] scope pos) scope X.env _ (newList []) false (Mm iter X.env) (some (PM (.Name y py) X.env))) _ _ s
 refine a_ (thn (Qj (use:=some (PM (.Name y py) X.env)) (Q:=λ_ s'=>SP X aa D .next s') rfl hs (zB λn hn=>I.ok.has n (S.free _ hn rfl)) S.kind S.locals
  (thn (hi aa s U H _ I h) λxv s1 h1=>thn h1 λii s2 h2=>?_)) λ_ s' hq=>e_ (e_ hq))
 obtain⟨it,fp,tn,J,H2,e,I2,T,bP,f2,hw⟩:=h2;subst e;refine thn (Ah (pos:=pos) (iter:=iter) S hc hg ht he I2 T bP f2 hw) λam s3 h3=>thn h3 λdk s4 h4=>Oc h4 λr s5 h5=>?_
 cases r with
 | error x=>exact h5.elim
 | ok fl =>
  obtain⟨p,H5,mm,rfl,hn,I5,cl,q⟩:=h5;show z_ _ X.A (PM (.Name y py) X.env (.ref p)) _ _ s5;refine Sl (zW (v:=.ref p) I5 hN b9 (.inl hy) rfl (λs6 I6 ⟨a,og,ha⟩=>?_) (.inr hy))
  have fG:dk.locals≠a:=by
   rcases ha with rfl | ha
   ·exact cl.2.1
   ·exact λz=>cl.2.2.2.1 y a ha z.symm
  refine⟨mm,hn.sameBut og fG,λh' fL=>?_⟩;have oh:Clear X aa H5 dk.locals:=cl;exact⟨_,H5,Inv.clear I6 oh fL,q⟩
end
noncomputable def inC{α:Type}(m:Nat)(g:M α):M α:=λZ=>match g (Mw m none++Z) with
 | some (a,ah)=>some (a,ah.drop m)
 | none=>none
noncomputable def compM(az:D->M Unit)(ts:M Bool)(el:M D):List D->M (List D)
 | []=>ret []
 | d::ds=>bnd (az d) λ_=>bnd ts λb=>if b then bnd el λx=>bnd (compM az ts el ds) λr=>ret (x::r) else compM az ts el ds
noncomputable def compO(m:Nat)(it:M (List D))(az:D->M Unit)(ts:M Bool)(el:M D):M (List D):=bnd it λds=>if ds.length<=lim then inC m (compM az ts el ds) else λ_=>none
noncomputable def bUp(m:Nat)(B:BB):BB:=λi=>if i < m then none else B (i - m)
theorem Ik{α:Type}{g:M α}{a:α}(h:inC m g Z=some (a,ah)):∃ae,g (Mw m none++Z)=some (a,ae)/\ah=ae.drop m:=by
 unfold inC at h;cases e:g (Mw m none++Z) with
 | none=>rw[e] at h;cases h
 | some q=>obtain⟨b,ae⟩:=q;rw[e] at h;cases h;exact⟨ae,rfl,rfl⟩
section
variable{K:PySem.W.Frag}{B:BB}{H:Hp}{au:L2.St}
theorem tz{α:Type}{l:List (Option α)}{m i:Nat}{a:α}(h:(Mw m (none:Option α)++l)[i]?=some (some a)):m<=i/\l[i - m]?=some (some a):=by
 by_cases hi:m<=i
 ·rw[MO (by rw[L7];exact hi),L7] at h;exact⟨hi,h⟩
 ·rw[MT (by rw[L7];omega),NR] at h;split at h<;>cases h
theorem yG{α:Type}{l:List (Option α)}{m i:Nat}(hi:m<=i):(Mw m (none:Option α)++l)[i]?=l[i - m]?:=by
 rw[MO (by rw[L7];exact hi),L7]
theorem Rep.up(r:Rep K B G I H U Z)(m:Nat):Rep K (bUp m B) G I H (Mw m none++U) (Mw m none++Z) where
 iH:=r.iH
 gH:=r.gH
 len:=by rw[LY,LY,L7,L7,r.len]
 slot:=λi q e=>by
  obtain⟨hi,e1⟩:=tz e;obtain⟨v,e2,e3⟩:=r.slot _ q e1;exact⟨v,by rw[yG hi];exact e2,e3⟩
 dist:=λi j q q' v e e' mm jR s1 s2=>by
  obtain⟨hi,e1⟩:=tz e;obtain⟨hj,e2⟩:=tz e';have:=r.dist _ _ q q' v e1 e2 mm jR (tz s1).2 (tz s2).2;omega
 bor:=λi ds e=>by
  obtain⟨hi,e1⟩:=tz e;rw[yG hi,r.bor _ ds e1];unfold bUp;rw[if_neg (by omega)]
theorem Rep.down(r:Rep K (bUp m B) G I H au ah)(hs:au.drop m=U):Rep K B G I H U (ah.drop m):=by
 subst hs
 exact {
  iH:=r.iH,gH:=r.gH
  len:=by rw[ME,ME,r.len]
  slot:=λi q e=>by
   rw[Op] at e;obtain⟨v,e2,e3⟩:=r.slot _ q e;exact⟨v,by rw[Op];exact e2,e3⟩
  dist:=λi j q q' v e e' mm jR s1 s2=>by
   rw[Op] at e e' s1 s2;have:=r.dist _ _ q q' v e e' mm jR s1 s2;omega
  bor:=λi ds e=>by
   rw[Op] at e ⊢;rw[r.bor _ ds e];unfold bUp;rw[if_neg (by omega)]
   congr 1
   omega }
theorem Rep.guard(r:Rep K B G I H U Z){p:i_}(h:H p=none)(o:HO):Rep K B (upd G p o) I (upd H p o) U Z where
 iH:=r.iH.trans (rf h o)
 gH:=Bu r.gH o
 len:=r.len
 slot:=λi q e=>by
  obtain⟨v,e1,e2⟩:=r.slot i q e;refine⟨v,e1,?_⟩
  have mt:∀ds,Mt K G I H ds v->Mt K (upd G p o) I (upd H p o) ds v:=λds hh=>by
   obtain⟨p2,xs,h1,h2,h3,h4,h5⟩:=hh;have ne:p2≠p:=rG h2 h;exact⟨p2,xs,h1,by rw[qx ne];exact h2,h3,by rw[qx ne];exact h4,h5⟩
  cases q with
  | val d=>exact e2
  | dic ds =>
   obtain⟨p2,xs,h1,h2,h3,h4,h5⟩:=e2;have ne:p2≠p:=rG h2 h;exact⟨p2,xs,h1,by rw[qx ne];exact h2,h3,by rw[qx ne];exact h4,h5⟩
  | own ds=>exact mt ds e2
  | bor ds=>exact mt ds e2
  | fro ds =>
   obtain⟨p2,xs,f1,f2,f3,f4⟩:=e2;have ne:p2≠p:=rG (r.iH _ _ f2) h;exact⟨p2,xs,f1,f2,by rw[qx ne];exact f3,f4⟩
 dist:=r.dist
 bor:=r.bor
theorem Rep.reguard{p:i_}{o':HO}(r:Rep K B (upd G p o) I H U Z)(hi:I p=none):Rep K B (upd G p o') I (upd H p o') U Z where
 iH:=λb u q=>by
  have ne:b≠p:=λz=>by subst z;rw[hi] at q;cases q
  rw[qx ne];exact r.iH b u q
 gH:=λb u q=>by
  by_cases e:b=p
  ·subst e;rw[qH] at q ⊢;exact q
  ·rw[qx e] at q ⊢;exact r.gH b u (by rw[qx e];exact q)
 len:=r.len
 slot:=λi q e=>by
  obtain⟨v,e1,e2⟩:=r.slot i q e;refine⟨v,e1,?_⟩
  have mt:∀ds,Mt K (upd G p o) I H ds v->Mt K (upd G p o') I (upd H p o') ds v:=λds hh=>by
   obtain⟨p2,xs,h1,h2,h3,h4,h5⟩:=hh;have ne:p2≠p:=λz=>by subst z;rw[qH] at h4;cases h4
   rw[qx ne] at h4;exact⟨p2,xs,h1,by rw[qx ne];exact h2,h3,by rw[qx ne];exact h4,h5⟩
  cases q with
  | val d=>exact e2
  | dic ds =>
   obtain⟨p2,xs,h1,h2,h3,h4,h5⟩:=e2;have ne:p2≠p:=λz=>by subst z;rw[qH] at h4;cases h4
   rw[qx ne] at h4;exact⟨p2,xs,h1,by rw[qx ne];exact h2,h3,by rw[qx ne];exact h4,h5⟩
  | own ds=>exact mt ds e2
  | bor ds=>exact mt ds e2
  | fro ds =>
   obtain⟨p2,xs,f1,f2,f3,f4⟩:=e2;have ne:p2≠p:=λz=>by rw[z,hi] at f2;cases f2
   rw[qx ne] at f3;exact⟨p2,xs,f1,f2,by rw[qx ne];exact f3,f4⟩
 dist:=r.dist
 bor:=r.bor
theorem Rep.unguard{p:i_}(r:Rep K B (upd G p o) I H U Z)(hg:G p=none):Rep K B G I H U Z/\Apart U Z p:=by
 have ap:Apart U Z p:=λj q e mm s=>by
  obtain⟨v,e1,e2⟩:=r.slot j q e;obtain⟨p2,xs,h1,h2,h3,h4⟩:=e2.mt mm;rw[e1,h1] at s;cases s;rw[qH] at h4;cases h4
 refine⟨{ iH:=r.iH,gH:=(rf hg o).trans r.gH,len:=r.len,slot:=λi q e=>?_,dist:=r.dist,bor:=r.bor },ap⟩;obtain⟨v,e1,e2⟩:=r.slot i q e;refine⟨v,e1,?_⟩
 have mt:∀ds,Mt K (upd G p o) I H ds v->Mt K G I H ds v:=λds hh=>by
  obtain⟨p2,xs,h1,h2,h3,h4,h5⟩:=hh;have ne:p2≠p:=λz=>by subst z;rw[qH] at h4;cases h4
  rw[qx ne] at h4;exact⟨p2,xs,h1,h2,h3,h4,h5⟩
 cases q with
 | val d=>exact e2
 | dic ds =>
  obtain⟨p2,xs,h1,h2,h3,h4,h5⟩:=e2;have ne:p2≠p:=λz=>by subst z;rw[qH] at h4;cases h4
  rw[qx ne] at h4;exact⟨p2,xs,h1,h2,h3,h4,h5⟩
 | own ds=>exact mt ds e2
 | bor ds=>exact mt ds e2
 | fro ds =>
  obtain⟨p2,xs,f1,f2,f3,f4⟩:=e2;have ne:p2≠p:=λz=>by rw[z,qH] at f3;cases f3
  rw[qx ne] at f3;exact⟨p2,xs,f1,f2,f3,f4⟩
theorem Grow.unguard{p:i_}(g:Grow (upd G p o) I I'):Grow G I I':=⟨g.up,λb u q=>by
 rcases g.new b u q with z | z
 ·exact .inl z
 ·by_cases e:b=p
  ·subst e;rw[qH] at z;cases z
  ·rw[qx e] at z;exact .inr z⟩
theorem Grow.keepsOut{p:i_}(g:Grow (upd G p o) I I')(hi:I p=none):I' p=none:=by
 cases e:I' p with
 | none=>rfl
 | some u =>
  rcases g.new p u e with z | z
  ·rw[hi] at z;cases z
  ·rw[qH] at z;cases z
end
section
variable{B:BB}{bJ:L8}{N':List Str}
def TDs(X:Cx)(B:BB)(bq:List L8)(g:M Bool):Prop:=PTs X bq (tTD X.K B g)
theorem sh:TDs X B [] (ret true):=λaa s U H Q I h=>Hk aa s U H Q I (by
 obtain⟨G,I,Z,b,ah,r,e1,k⟩:=h;cases e1
 exact k _ _ r (Grow.refl _ _))
theorem tw{c:L8}{g:M Bool}(h:TD X B c g):TDs X B [c] g:=Ea h
theorem As{K:PySem.W.Frag}:∀U H Q,tO K B (compO m it az ts el) U H Q->tComp m (tI K B it) (tGD K (bUp m B) m az) (tTD K (bUp m B) ts) (tD K (bUp m B) el) U H Q:=λU H Q q=>by
 obtain⟨G,I,Z,rs,ah,r,e1,k⟩:=q;obtain⟨ds,ae,e2,e3⟩:=pS e1;by_cases fA:ds.length<=lim
 case neg=>rw[if_neg fA] at e3;cases e3
 rw[if_pos fA] at e3;obtain⟨cU,e4,rfl⟩:=Ik e3;refine⟨G,I,Z,ds,ae,r,e2,λJ H1 I1 r1 g1 y p hp=>?_⟩;have gp:=r1.gFree hp;have ip:=r1.iFree hp
 refine⟨λi n au H'=>∃am ad I2 ao aB,Rep K (bUp m B) (upd G p (.lst am)) I2 H' au ao/\Grow G I1 I2/\I2 p=none/\IsA K I2 ad am/\au.drop m=U/\compM az ts el (ds.drop i) ao=some (aB,cU)/\ad++aB=rs/\ad.length<=i/\i<=ds.length/\n=ds.length - i,
  ⟨ds.length,[],[],I1,_,rs,(r1.up m).guard hp _,Grow.refl _ _,ip,IsA.nil,by rw[NY (by simp),ND (by simp),QY],by simpa using e4,rfl,Me _,Me _,rfl⟩,?_⟩
 rintro i n ba H2 ⟨am,ad,I2,ao,aB,r2,g2,jS,ha,hs,e5,rfl,qb,hi,rfl⟩;obtain⟨yg,ys⟩:=y i H2 (g2.up.trans r2.iH);by_cases bI:i < ds.length
 ·have hd:ds.drop i=ds[i]::ds.drop (i+1):=LV bI;obtain⟨go,yld⟩:=yg ds[i] (h_ bI);rw[hd,compM] at e5;obtain⟨u,aO,e6,e7⟩:=pS e5;obtain⟨b,a9,e8,e9⟩:=pS e7;refine .inr ⟨go,λx H3 hy=>?_⟩
  have main:∀I3,Rep K (bUp m B) (upd G p (.lst am)) I3 H3 ba ao->Grow (upd G p (.lst am)) I2 I3->Is K I3 ds[i] x->tGD K (bUp m B) m az x ba H3 λba H3=>tTD K (bUp m B) ts ba H3 λb H4 =>
    if b=true then tD K (bUp m B) el ba H4 λy H5=>∃am,H5 p=some (.lst am)/\am.length < v_/\∃n',n' < ds.length - i/\∃acc_1 ad_1 I2 ao rest_1,Rep K (bUp m B) (upd G p (.lst acc_1)) I2 (upd H5 p (.lst (am++[y]))) ba ao/\Grow G I1 I2/\I2 p=none/\IsA K I2 ad_1 acc_1/\ba.drop m=U/\compM az ts el (ds.drop (i+1)) ao=some (rest_1,cU)/\ad_1++rest_1=ad++aB/\ad_1.length<=i+1/\i+1<=ds.length/\n'=ds.length - (i+1)
    else ∃n',n' < ds.length - i/\∃am ad_1 I2 ao rest_1,Rep K (bUp m B) (upd G p (.lst am)) I2 H4 ba ao/\Grow G I1 I2/\I2 p=none/\IsA K I2 ad_1 am/\ba.drop m=U/\compM az ts el (ds.drop (i+1)) ao=some (rest_1,cU)/\ad_1++rest_1=ad++aB/\ad_1.length<=i+1/\i+1<=ds.length/\n'=ds.length - (i+1):=by
   intro I3 r3 g3 hx;refine⟨_,I3,ao,ds[i],aO,r3,hx,e6,λlu H4 I4 r4 g4 oj=>⟨_,I4,aO,b,a9,r4,e8,λH5 I5 r5 g5=>?_⟩⟩;have iC:=g3.trans (g4.trans g5);have fL:lu.drop m=U:=oj.trans hs;cases b with
   | false =>
    refine iteF ⟨ds.length - (i+1),by omega,am,ad,I5,a9,aB,r5,g2.trans iC.unguard,iC.keepsOut jS,ha.mono iC.up,fL,by simpa using e9,rfl,by omega,bI,rfl⟩
   | true =>
    simp only[if_true] at e9;obtain⟨xd,fM,f1,f2⟩:=pS e9;obtain⟨rr,fN,f3,f4⟩:=pS f2;cases f4;refine iteT ⟨_,I5,a9,xd,fM,r5,f1,λyv H6 I6 r6 g6 om=>⟨am,r6.gH _ _ qH,?_,ds.length - (i+1),by omega,am++[yv],ad++[xd],I6,fM,rr,?_⟩⟩
    ·rw[←ha.length];have h1:lim < v_:=by rw[Mq];decide
     omega
    ·have jT:=iC.trans g6;have lK:=jT.keepsOut jS;exact⟨r6.reguard lK,g2.trans jT.unguard,lK,IsA.append (ha.mono jT.up) (IsA.cons om IsA.nil),fL,f3,by rw[MR];rfl,by rw[LY,Ri];omega,bI,rfl⟩
  rcases yld x H3 hy with⟨rfl,hx⟩ | ⟨p2,es,xs,de,rfl,eQ,rfl,hx⟩
  ·exact main I2 r2 (Grow.refl _ _) (hx.mono g2.up)
  ·refine main _ (r2.alloc eQ _) (r2.growAlloc eQ _) ?_;rw[de];exact Is.tup (SqT.of qH) ((hx.mono g2.up).mono (rf (r2.iFree eQ) _))
 ·have eR:i=ds.length:=by omega
  subst eR;rw[OC] at e5;cases e5;rw[M5] at k;refine .inl ⟨ys (A_ _),?_⟩;have rd:=Rep.down r2 hs;obtain⟨ru,ap⟩:=rd.unguard gp;exact k p am H2 I2 ru (g1.trans g2) (r2.gH _ _ qH) jS gp ap ha
theorem rP(S:CompScope X.env.scope scope X.N N' m)(hc:X.calm=true)(hi:ITD X B tg iter it)(hg:∀C s H ex,GD (cxC X scope N' C s H ex) (bUp m B) m tg az)(ht:∀C s H ex,TDs (cxC X scope N' C s H ex) (bUp m B) bq ts)(he:∀C s H ex,ED (cxC X scope N' C s H ex) (bUp m B) bJ el)(hs:∀x,Nd iter X.env x=pure x:=by intros;rfl):EO X B (.ListComp bJ [⟨tg,iter,bq,0⟩] scope pos) (compO m it az ts el):=PE.imp (Fc (g:=tGD X.K (bUp m B) m az) (tt:=tTD X.K (bUp m B) ts) (te:=tD X.K (bUp m B) el) S hc hi hg ht he hs) As
theorem yC{i:Nat}(S:CompScope X.env.scope scope X.N N' m)(hc:X.calm=true)(hN:X.N.Nodup)(hi:ITD X B tg iter it)(hg:∀C s H ex,GD (cxC X scope N' C s H ex) (bUp m B) m tg az)(ht:∀C s H ex,TDs (cxC X scope N' C s H ex) (bUp m B) bq ts)(he:∀C s H ex,ED (cxC X scope N' C s H ex) (bUp m B) bJ el)(b9:X.N[i]?=some y:=by rfl)(hy:X.env.scope.names.lookup y=some .local:=by rfl)(jQ:NO (.ListComp bJ [⟨tg,iter,bq,0⟩] scope pos) (some (.Name y py)) dZ.line X.env=pure true:=by rfl)(hs:∀x,Nd iter X.env x=pure x:=by intros;rfl):SD X B (.Assign [.Name y py] (.ListComp bJ [⟨tg,iter,bq,0⟩] scope pos) dZ) (setV i (frz (compO m it az ts el))):=PS.imp (DT (g:=tGD X.K (bUp m B) m az) (tt:=tTD X.K (bUp m B) ts) (te:=tD X.K (bUp m B) el) S hc hN b9 hy hi hg ht he jQ hs) λE U H q=>by
 obtain⟨G,I,Z,f,ah,r,e1,k⟩:=q;obtain⟨d1,ae,e2,e3⟩:=pS e1;obtain⟨d2,ao,e4,e5⟩:=pS e3;cases e5;obtain⟨hl,rfl⟩:=uK e4;obtain⟨ds,aO,e6,e7⟩:=pS e2;cases e7;refine As U H _ ⟨G,I,Z,ds,_,r,e6,λp xs H1 I1 r1 g1 h1 h2 h3 h4 h5=>?_⟩;refine k _ H1 _ ((r1.freeze h1 h2 h4).store (by rw[r1.len];exact hl) (Is.lst (RdK.of qH) (h5.mono (rf h2 _))) (λm=>nomatch m) (λ_ z=>nomatch z)) (g1.trans (growFreeze h2 h3))
end
mutual
noncomputable def deq:D->D->Bool
 | .non,.non=>true
 | .bl a,.bl b=>a == b
 | .bl a,.int j=>(if a then(1:Int) else 0) == j
 | .int i,.bl b=>i == (if b then(1:Int) else 0)
 | .int i,.int j=>i == j
 | .str x,.str y=>x == y
 | .tup xs,.tup ys=>deqA xs ys
 | .lst xs,.lst ys=>deqA xs ys
 | .dct _,.dct _=>true
 | _,_=>false
noncomputable def deqA:List D->List D->Bool
 | [],[]=>true
 | x::xs,y::ys=>deq x y&&deqA xs ys
 | _,_=>false
end
mutual
noncomputable def dep:D->Nat
 | .tup xs=>depA xs+1
 | .lst xs=>depA xs+1
 | .dct _=>1000
 | _=>0
noncomputable def depA:List D->Nat
 | []=>0
 | x::xs=>max (dep x) (depA xs)
end
mutual
theorem wA:∀a:D,deq a a=true
 | .non=>by rw[deq]
 | .bl b=>by rw[deq];exact beq_self_eq_true b
 | .int b=>by rw[deq];exact beq_self_eq_true b
 | .str b=>by rw[deq];exact beq_self_eq_true b
 | .tup xs=>by rw[deq];exact uC xs
 | .lst xs=>by rw[deq];exact uC xs
 | .dct _=>by rw[deq]
theorem uC:∀a:List D,deqA a a=true
 | []=>by rw[deqA]
 | x::xs=>by rw[deqA,wA x,uC xs];rfl
end
theorem rR:∀{xs:List D}{x:D},x∈xs->dep x<=depA xs
 | y::ys,x,h=>by
  rw[depA]
  rcases n_.mp h with rfl | h
  ·omega
  ·have:=rR h;omega
theorem vp:∀(xs ys:List D),((Nq (min xs.length ys.length)).all (λj=>deq (xs.getD j .non) (ys.getD j .non))&&(xs.length == ys.length))=deqA xs ys
 | [],[]=>by rw[deqA];rfl
 | [],y::ys=>by rw[deqA]<;>simp
 | x::xs,[]=>by rw[deqA]<;>simp
 | x::xs,y::ys=>by
  have ih:=vp xs ys;have e:min (x::xs).length (y::ys).length=min xs.length ys.length+1:=by simp only[Md];omega
  rw[deqA,←ih,e,OK,Sv,List.all_map]
  have e2:((x::xs).length == (y::ys).length)=(xs.length == ys.length):=by
   simp only[Md];cases h:xs.length == ys.length
   ·simp at h ⊢;omega
   ·simp at h ⊢;omega
  rw[e2,Bool.and_assoc];rfl
theorem F3{xs:List D}(h:xs.length≠ys.length):deqA xs ys=false:=by
 rw[←vp];have:(xs.length == ys.length)=false:=by simpa using h
 rw[this,Bool.and_false]
section
variable{H:Hp}{s:d_}
theorem IsA.getU{K:PySem.W.Frag}(h:IsA K I ds xs)(r:Vals xs us)(hj:j < us.toArray.size):∃v,RelV v us.toArray[j]/\Is K I (ds.getD j .non) v:=by
 have h1:=h.length;have h2:=r.length;have jU:j < us.length:=by simpa using hj
 have hd:ds[j]?=some ds[j]:=h_ (by omega);obtain⟨v,e1,e2⟩:=h.get hd;obtain⟨u,e3,e4⟩:=r.get e1
 have e5:us.toArray[j]=u:=by
  rw[h_ jU] at e3;simpa using e3
 refine⟨v,by rw[e5];exact e4,?_⟩;rw[p_,hd];exact e2
theorem rdL{a:i_}{K:PySem.W.Frag}(h:RdK K H a xs):SqL K H a xs:=h.sq
mutual
theorem uO(I:Inv X aa U H s):∀{a b:D}{v:V},dep a < 1000->dep b < 1000->Is X.K H a v->Is X.K H b v->a=b
 | .non,b,v,da,db,h,h'=>by
  have e:=rK h;subst e;cases b<;>first | rfl | (simp[dep] at db;done) | (rw[Is] at h';obtain⟨_,_,e,_⟩:=h';cases e) | (rw[Is] at h';cases h')
 | .bl x,b,v,da,db,h,h'=>by
  have e:=rm h;subst e;cases b<;>first | (simp[dep] at db;done) | (rw[Is] at h';obtain⟨_,_,e,_⟩:=h';cases e) | (rw[Is] at h';cases h';rfl) | (rw[Is] at h';cases h')
 | .int x,b,v,da,db,h,h'=>by
  have e:=qD h;subst e;cases b<;>first | (simp[dep] at db;done) | (rw[Is] at h';obtain⟨_,_,e,_⟩:=h';cases e) | (rw[Is] at h';cases h';rfl) | (rw[Is] at h';cases h')
 | .str x,b,v,da,db,h,h'=>by
  have e:=rH h;subst e;cases b<;>first | (simp[dep] at db;done) | (rw[Is] at h';obtain⟨_,_,e,_⟩:=h';cases e) | (rw[Is] at h';cases h';rfl) | (rw[Is] at h';cases h')
 | .tup ds,b,v,da,db,h,h'=>by
  obtain⟨p,xs,rfl,h1,h2⟩:=qK h;cases b with
  | tup es =>
   obtain⟨p',bb,e,h3,h4⟩:=qK h';cases e;have:=I.tuple_inj h1 h3;subst this;rw[yl I (by rw[dep] at da;omega) (by rw[dep] at db;omega) h2 h4]
  | lst es =>
   obtain⟨p',bb,e,h3,h4⟩:=qJ h';cases e;obtain⟨i1,_,t1,_⟩:=I.tuple h1;obtain⟨i2,_,t2,_⟩:=I.list (rdL h3);exact absurd rfl (ne_of_list_tuple t2.isList t1)
  | dct _=>simp[dep] at db
  | _=>rw[Is] at h';cases h'
 | .lst ds,b,v,da,db,h,h'=>by
  obtain⟨p,xs,rfl,h1,h2⟩:=qJ h;cases b with
  | lst es =>
   obtain⟨p',bb,e,h3,h4⟩:=qJ h';cases e;have:=I.list_inj (rdL h1) (rdL h3);subst this;rw[yl I (by rw[dep] at da;omega) (by rw[dep] at db;omega) h2 h4]
  | tup es =>
   obtain⟨p',bb,e,h3,h4⟩:=qK h';cases e;obtain⟨i1,_,t1,_⟩:=I.tuple h3;obtain⟨i2,_,t2,_⟩:=I.list (rdL h1);exact absurd rfl (ne_of_list_tuple t2.isList t1)
  | dct _=>simp[dep] at db
  | _=>rw[Is] at h';cases h'
 | .dct _,b,v,da,_,_,_=>by simp[dep] at da
theorem yl(I:Inv X aa U H s):∀{a b:List D}{v:List V},depA a < 1000->depA b < 1000->IsA X.K H a v->IsA X.K H b v->a=b
 | [],b,v,_,_,h,h'=>by
  have e:=h.nil_inv;subst e;cases b with
  | nil=>rfl
  | cons d r=>obtain⟨_,_,e,_⟩:=h'.cons_inv;cases e
 | d::ds,b,v,da,db,h,h'=>by
  obtain⟨x,r,rfl,h1,h2⟩:=h.cons_inv;cases b with
  | nil=>have:=h'.nil_inv;cases this
  | cons e es =>
   obtain⟨x',r',e',h3,h4⟩:=h'.cons_inv;cases e';rw[depA] at da db;rw[uO I (by omega) (by omega) h1 h3,yl I (by omega) (by omega) h2 h4]
end
open PySem.SeqAt in
theorem A6(I:Inv X aa U H s)(hu:A.units < NQ){a b:D}{x y:V}{u v:b_}(da:dep a < 1000)(db:dep b < 1000)(ha:Is X.K H a x)(hb:Is X.K H b y)(ru:RelV x u)(rv:RelV y v)(ht:∀xs ys,a=.tup xs->b=.tup ys->RcAt A s u v (deq a b)/\TU A s u v (deq a b)/\SQ A s u v (!deq a b))(hl:∀xs ys,a=.lst xs->b=.lst ys->RcAt A s u v (deq a b)/\TU A s u v (deq a b)/\SQ A s u v (!deq a b)):RcAt A s u v (deq a b)/\TU A s u v (deq a b)/\SQ A s u v (!deq a b):=by
 cases a with
 | dct _=>simp[dep] at da
 | non =>
  have e:=rK ha;subst e;cases ru;cases b with
  | dct _=>simp[dep] at db
  | non=>have e:=rK hb;subst e;cases rv;rw[deq];exact⟨.none_none,.same _,.none_none⟩
  | bl j=>have e:=rm hb;subst e;cases rv;rw[deq]<;>first | exact⟨.none_bool _,.none_bool _,.none_bool _⟩ | (intros;contradiction)
  | int j=>have e:=qD hb;subst e;obtain⟨t,rfl⟩:=rv;rw[deq]<;>first | exact⟨.none_int _ _,.none_int _ _,.none_int _ _⟩ | (intros;contradiction)
  | str j=>have e:=rH hb;subst e;obtain⟨t,rfl⟩:=rv;rw[deq]<;>first | exact⟨.none_str _ _,.none_str _ _,.none_str _ _⟩ | (intros;contradiction)
  | tup j =>
   obtain⟨p,xs,rfl,h1,h2⟩:=qK hb;cases rv;obtain⟨af,_,t,_⟩:=I.tuple h1;rw[deq]<;>first | exact⟨.none_tuple t hu,.none_tuple t hu,.none_tuple t hu⟩ | (intros;contradiction)
  | lst j =>
   obtain⟨p,xs,rfl,h1,h2⟩:=qJ hb;cases rv;obtain⟨af,_,t,_⟩:=I.list (rdL h1);have t:=t.isList;rw[deq]<;>first | exact⟨.none_list t hu,.none_list t hu,.none_list t hu⟩ | (intros;contradiction)
 | bl i =>
  have e:=rm ha;subst e;cases ru;cases b with
  | dct _=>simp[dep] at db
  | non=>have e:=rK hb;subst e;cases rv;rw[deq]<;>first | exact⟨.bool_none _,.bool_none _,.bool_none _⟩ | (intros;contradiction)
  | bl j=>have e:=rm hb;subst e;cases rv;rw[deq];exact⟨.bool_bool _ _,.bool_bool _ _,.bool_bool _ _⟩
  | int j=>have e:=qD hb;subst e;obtain⟨t,rfl⟩:=rv;rw[deq];exact⟨.bool_int _ _ _,.bool_int _ _ _,.bool_int _ _ _⟩
  | str j=>have e:=rH hb;subst e;obtain⟨t,rfl⟩:=rv;rw[deq]<;>first | exact⟨.bool_str _ _ _,.bool_str _ _ _,.bool_str _ _ _⟩ | (intros;contradiction)
  | tup j =>
   obtain⟨p,xs,rfl,h1,h2⟩:=qK hb;cases rv;obtain⟨af,_,t,_⟩:=I.tuple h1;rw[deq]<;>first | exact⟨.bool_tuple _ t hu,.bool_tuple _ t hu,.bool_tuple _ t hu⟩ | (intros;contradiction)
  | lst j =>
   obtain⟨p,xs,rfl,h1,h2⟩:=qJ hb;cases rv;obtain⟨af,_,t,_⟩:=I.list (rdL h1);have t:=t.isList;rw[deq]<;>first | exact⟨.bool_list _ t hu,.bool_list _ t hu,.bool_list _ t hu⟩ | (intros;contradiction)
 | int i =>
  have e:=qD ha;subst e;obtain⟨t0,rfl⟩:=ru;cases b with
  | dct _=>simp[dep] at db
  | non=>have e:=rK hb;subst e;cases rv;rw[deq]<;>first | exact⟨.int_none _ _,.int_none _ _,.int_none _ _⟩ | (intros;contradiction)
  | bl j=>have e:=rm hb;subst e;cases rv;rw[deq];exact⟨.int_bool _ _ _,.int_bool _ _ _,.int_bool _ _ _⟩
  | int j=>have e:=qD hb;subst e;obtain⟨t,rfl⟩:=rv;rw[deq];exact⟨.int_int _ _ _ _,.int_int _ _ _ _,.int_int _ _ _ _⟩
  | str j=>have e:=rH hb;subst e;obtain⟨t,rfl⟩:=rv;rw[deq]<;>first | exact⟨.int_str _ _ _ _,.int_str _ _ _ _,.int_str _ _ _ _⟩ | (intros;contradiction)
  | tup j =>
   obtain⟨p,xs,rfl,h1,h2⟩:=qK hb;cases rv;obtain⟨af,_,t,_⟩:=I.tuple h1;rw[deq]<;>first | exact⟨.int_tuple _ _ t hu,.int_tuple _ _ t hu,.int_tuple _ _ t hu⟩ | (intros;contradiction)
  | lst j =>
   obtain⟨p,xs,rfl,h1,h2⟩:=qJ hb;cases rv;obtain⟨af,_,t,_⟩:=I.list (rdL h1);have t:=t.isList;rw[deq]<;>first | exact⟨.int_list _ _ t hu,.int_list _ _ t hu,.int_list _ _ t hu⟩ | (intros;contradiction)
 | str i =>
  have e:=rH ha;subst e;obtain⟨t0,rfl⟩:=ru;cases b with
  | dct _=>simp[dep] at db
  | non=>have e:=rK hb;subst e;cases rv;rw[deq]<;>first | exact⟨.str_none _ _,.str_none _ _,.str_none _ _⟩ | (intros;contradiction)
  | bl j=>have e:=rm hb;subst e;cases rv;rw[deq]<;>first | exact⟨.str_bool _ _ _,.str_bool _ _ _,.str_bool _ _ _⟩ | (intros;contradiction)
  | int j=>have e:=qD hb;subst e;obtain⟨t,rfl⟩:=rv;rw[deq]<;>first | exact⟨.str_int _ _ _ _,.str_int _ _ _ _,.str_int _ _ _ _⟩ | (intros;contradiction)
  | str j=>have e:=rH hb;subst e;obtain⟨t,rfl⟩:=rv;rw[deq];exact⟨.str_str _ _ _ _,.str_str _ _ _ _,.str_str _ _ _ _⟩
  | tup j =>
   obtain⟨p,xs,rfl,h1,h2⟩:=qK hb;cases rv;obtain⟨af,_,t,_⟩:=I.tuple h1;rw[deq]<;>first | exact⟨.str_tuple _ _ t hu,.str_tuple _ _ t hu,.str_tuple _ _ t hu⟩ | (intros;contradiction)
  | lst j =>
   obtain⟨p,xs,rfl,h1,h2⟩:=qJ hb;cases rv;obtain⟨af,_,t,_⟩:=I.list (rdL h1);have t:=t.isList;rw[deq]<;>first | exact⟨.str_list _ _ t hu,.str_list _ _ t hu,.str_list _ _ t hu⟩ | (intros;contradiction)
 | tup i =>
  obtain⟨q,ys,rfl,g1,g2⟩:=qK ha;cases ru;obtain⟨bg,_,t',_⟩:=I.tuple g1;cases b with
  | dct _=>simp[dep] at db
  | non=>have e:=rK hb;subst e;cases rv;rw[deq]<;>first | exact⟨.tuple_none t' hu,.tuple_none t' hu,.tuple_none t' hu⟩ | (intros;contradiction)
  | bl j=>have e:=rm hb;subst e;cases rv;rw[deq]<;>first | exact⟨.tuple_bool _ t' hu,.tuple_bool _ t' hu,.tuple_bool _ t' hu⟩ | (intros;contradiction)
  | int j=>have e:=qD hb;subst e;obtain⟨t,rfl⟩:=rv;rw[deq]<;>first | exact⟨.tuple_int _ _ t' hu,.tuple_int _ _ t' hu,.tuple_int _ _ t' hu⟩ | (intros;contradiction)
  | str j=>have e:=rH hb;subst e;obtain⟨t,rfl⟩:=rv;rw[deq]<;>first | exact⟨.tuple_str _ _ t' hu,.tuple_str _ _ t' hu,.tuple_str _ _ t' hu⟩ | (intros;contradiction)
  | tup j=>exact ht _ _ rfl rfl
  | lst j =>
   obtain⟨p,xs,rfl,h1,h2⟩:=qJ hb;cases rv;obtain⟨af,_,t,_⟩:=I.list (rdL h1);have t:=t.isList;rw[deq]<;>first | exact⟨.tuple_list t' t hu,.tuple_list t' t hu,.tuple_list t' t hu⟩ | (intros;contradiction)
 | lst i =>
  obtain⟨q,ys,rfl,g1,g2⟩:=qJ ha;cases ru;obtain⟨bg,_,t',_⟩:=I.list (rdL g1);have t':=t'.isList;cases b with
  | dct _=>simp[dep] at db
  | non=>have e:=rK hb;subst e;cases rv;rw[deq]<;>first | exact⟨.list_none t' hu,.list_none t' hu,.list_none t' hu⟩ | (intros;contradiction)
  | bl j=>have e:=rm hb;subst e;cases rv;rw[deq]<;>first | exact⟨.list_bool _ t' hu,.list_bool _ t' hu,.list_bool _ t' hu⟩ | (intros;contradiction)
  | int j=>have e:=qD hb;subst e;obtain⟨t,rfl⟩:=rv;rw[deq]<;>first | exact⟨.list_int _ _ t' hu,.list_int _ _ t' hu,.list_int _ _ t' hu⟩ | (intros;contradiction)
  | str j=>have e:=rH hb;subst e;obtain⟨t,rfl⟩:=rv;rw[deq]<;>first | exact⟨.list_str _ _ t' hu,.list_str _ _ t' hu,.list_str _ _ t' hu⟩ | (intros;contradiction)
  | lst j=>exact hl _ _ rfl rfl
  | tup j =>
   obtain⟨p,xs,rfl,h1,h2⟩:=qK hb;cases rv;obtain⟨af,_,t,_⟩:=I.tuple h1;rw[deq]<;>first | exact⟨.list_tuple t' t hu,.list_tuple t' t hu,.list_tuple t' t hu⟩ | (intros;contradiction)
open PySem.SeqAt in
theorem uw(I:Inv X aa U H s):∀(n:Nat) (A:Ni),A.units+n < NQ->n < 900->∀(a b:D) (x y:V) (u v:b_),dep a<=n/\dep b<=n->Is X.K H a x->Is X.K H b y->RelV x u->RelV y v->RcAt A s u v (deq a b)/\TU A s u v (deq a b)/\SQ A s u v (!deq a b):=by
 intro n
 induction n with
 | zero =>
  intro A hu hn a b x y u v hd ha hb ru rv;refine A6 I (by omega) (by omega) (by omega) ha hb ru rv (λxs ys e1 e2=>?_) (λxs ys e1 e2=>?_)<;>(subst e1;subst e2;rw[dep,dep] at hd;omega)
 | succ n ih =>
  intro A hu hn a b x y u v hd ha hb ru rv;have eZ:A.in1.units+n < NQ:=by show A.units+1+n < NQ;omega
  refine A6 I (by omega) (by omega) (by omega) ha hb ru rv (λds es e1 e2=>?_) (λds es e1 e2=>?_)
  ·subst e1;subst e2;obtain⟨p,xs,rfl,h1,h2⟩:=qK ha;obtain⟨q,ys,rfl,h3,h4⟩:=qK hb;cases ru;cases rv;obtain⟨af,r1,t1,_⟩:=I.tuple h1;obtain⟨bg,r2,t2,_⟩:=I.tuple h3;have l1:af.toArray.size=ds.length:=by rw[l_,←r1.length,h2.length]
   have l2:bg.toArray.size=es.length:=by rw[l_,←r2.length,h4.length]
   have hk:∀j (g1:j < af.toArray.size) (g2:j < bg.toArray.size),TU A.in1 s af.toArray[j] bg.toArray[j] (deq (ds.getD j .non) (es.getD j .non)):=λj g1 g2=>by
    obtain⟨v1,q1,q2⟩:=h2.getU r1 g1;obtain⟨v2,q3,q4⟩:=h4.getU r2 g2;refine(ih A.in1 eZ (by omega) _ _ _ _ _ _ ?_ q2 q4 q1 q3).2.1
    have m1:ds.getD j .non∈ds:=by
     rw[p_,h_ (by omega)];exact MF _
    have m2:es.getD j .non∈es:=by
     rw[p_,h_ (by omega)];exact MF _
    have k1:=rR m1;have k2:=rR m2;rw[dep,dep] at hd;omega
   have re:((Nq (min af.toArray.size bg.toArray.size)).all (λj=>deq (ds.getD j .non) (es.getD j .non))&&af.toArray.size == bg.toArray.size)=deqA ds es:=by
    rw[l1,l2];exact vp ds es
   have R1:=RcAt.tuples (A:=A) t1 t2 (by omega) hk;have R3:=SQ.tuples (A:=A) t1 t2 (by omega) hk;rw[re] at R1 R3;have ed:deq (.tup ds) (.tup es)=deqA ds es:=by rw[deq]
   rw[ed];refine⟨R1,?_,R3⟩;by_cases fO:p=q
   ·subst fO;have:=uO I (by omega) (by omega) ha hb;cases this;rw[uC];exact .same _
   ·exact .of_refs fO R1
  ·subst e1;subst e2;obtain⟨p,xs,rfl,h1,h2⟩:=qJ ha;obtain⟨q,ys,rfl,h3,h4⟩:=qJ hb;cases ru;cases rv;obtain⟨af,r1,t1,_⟩:=I.list (rdL h1);obtain⟨bg,r2,t2,_⟩:=I.list (rdL h3);have t1:=t1.isList;have t2:=t2.isList;have l1:af.toArray.size=ds.length:=by rw[l_,←r1.length,h2.length]
   have l2:bg.toArray.size=es.length:=by rw[l_,←r2.length,h4.length]
   have ed:deq (.lst ds) (.lst es)=deqA ds es:=by rw[deq]
   rw[ed]
   have fin:RcAt A s (.ref p) (.ref q) (deqA ds es)/\SQ A s (.ref p) (.ref q) (!deqA ds es):=by
    by_cases hl:ds.length=es.length
    ·have hk:∀j (g1:j < af.toArray.size) (g2:j < bg.toArray.size),TU A.in1 s af.toArray[j] bg.toArray[j] (deq (ds.getD j .non) (es.getD j .non)):=λj g1 g2=>by
      obtain⟨v1,q1,q2⟩:=h2.getU r1 g1;obtain⟨v2,q3,q4⟩:=h4.getU r2 g2;refine(ih A.in1 eZ (by omega) _ _ _ _ _ _ ?_ q2 q4 q1 q3).2.1
      have m1:ds.getD j .non∈ds:=by
       rw[p_,h_ (by omega)];exact MF _
      have m2:es.getD j .non∈es:=by
       rw[p_,h_ (by omega)];exact MF _
      have k1:=rR m1;have k2:=rR m2;rw[dep,dep] at hd;omega
     have re:(Nq af.toArray.size).all (λj=>deq (ds.getD j .non) (es.getD j .non))=deqA ds es:=by
      rw[←vp ds es,l1,hl,Nat.min_self,beq_self_eq_true,Bool.and_true]
     have R1:=RcAt.lists (A:=A) t1 t2 (by omega) (by omega) hk;have R3:=SQ.lists (A:=A) t1 t2 (by omega) (by omega) hk;rw[re] at R1 R3;exact⟨R1,R3⟩
    ·rw[F3 hl];have gI:(af.toArray.size != bg.toArray.size)=true:=by rw[l1,l2];simpa using hl
     exact⟨.lists_lengths t1 t2 gI (by omega),.lists_lengths t1 t2 gI (by omega)⟩
   refine⟨fin.1,?_,fin.2⟩;by_cases fO:p=q
   ·subst fO;have:=uO I (by omega) (by omega) ha hb;cases this;rw[uC];exact .same _
   ·exact .of_refs fO fin.1
noncomputable def rEqD(K:PySem.W.Frag)(neg:Bool):R2:=λx y H Q=>∃a b,Is K H a x/\Is K H b y/\(dep a<=100/\dep b<=100)/\Q (.bl (if neg then !deq a b else deq a b)) H
theorem zR(hu:X.A.units+100 < NQ):OpR X (MS .Eq) (rEqD X.K false):=by
 intro aa s U H x y v u Q I rx ry h;obtain⟨a,b,h1,h2,h3,q⟩:=h;exact(uw I 100 X.A hu (by decide) a b x y v u h3 h1 h2 rx ry).1 _ _ _ _ ⟨.bl (deq a b),H,I,rfl,q⟩
theorem A8(hu:X.A.units+100 < NQ):OpR X (MS .NotEq) (rEqD X.K true):=by
 intro aa s U H x y v u Q I rx ry h;obtain⟨a,b,h1,h2,h3,q⟩:=h;exact(uw I 100 X.A hu (by decide) a b x y v u h3 h1 h2 rx ry).2.2 _ _ _ _ ⟨.bl (!deq a b),H,I,rfl,q⟩
noncomputable def rInD(K:PySem.W.Frag)(neg:Bool):R2:=λx y H Q=>∃a ds,Is K H a x/\(Is K H (.lst ds) y\/Is K H (.tup ds) y)/\(dep a<=99/\depA ds<=99)/\Q (.bl (if neg then !ds.any (λd=>deq d a) else ds.any λd=>deq d a)) H
theorem Cq{K:PySem.W.Frag}{f:D->Bool}{e:b_->Bool}(h:IsA K H ds xs)(r:Vals xs us)(hf:∀d v u,d∈ds->Is K H d v->RelV v u->e u=f d):us.any e=ds.any f:=by
 induction ds generalizing xs us with
 | nil=>have:=h.nil_inv;subst this;cases r;rfl
 | cons d ds ih =>
  obtain⟨x,xr,rfl,h1,h2⟩:=h.cons_inv;cases r with
  | cons r1 r2 =>
   rw[O3,O3,hf d _ _ g_ h1 r1,ih h2 r2 λd v u hd=>hf d v u (j_ _ hd)]
theorem IM(hu:X.A.units+100 < NQ){aa:List (i_×Obj)}{U:L2.St}{H:Hp}{s:d_}{x y:V}{v u:b_}{Q:VK}(I:Inv X aa U H s)(rx:RelV x v)(ry:RelV y u)(h:rInD X.K neg x y H Q):
  ∃(af:Array b_) (e:b_->Bool) (l:i_),u=.ref l/\(s.heap.IsList l af\/s.heap.IsTuple l af)/\(∀z,z∈af->PySem.SeqAt.EqAt X.A.in1 s z v (e z))/\Q (.bl (if neg then !af.any e else af.any e)) H:=by
 obtain⟨a,ds,h1,h2,h3,q⟩:=h;have eZ:X.A.in1.units+99 < NQ:=by show X.A.units+1+99 < NQ;omega
 -- every item has af data: e reads it jV
 have key:∀(xs:List V) (af:List b_),IsA X.K H ds xs->Vals xs af->∃e:b_->Bool,(∀z,z∈af.toArray->PySem.SeqAt.EqAt X.A.in1 s z v (e z))/\af.toArray.any e=ds.any λd=>deq d a:=by
  intro xs af ha r
  have ex:∀z:b_,∃b:Bool,∀d w,d∈ds->Is X.K H d w->RelV w z->b=deq d a:=λz=>by
   by_cases hz:∃d w,d∈ds/\Is X.K H d w/\RelV w z
   ·obtain⟨d,w,hd,hi,hr⟩:=hz;refine⟨deq d a,λd' w' bj b9 oo=>?_⟩;have:=RelV.inj hr oo;subst this;rw[uO I (by have:=rR hd;omega) (by have:=rR bj;omega) hi b9]
   ·exact⟨false,λd w hd hi hr=>absurd ⟨d,w,hd,hi,hr⟩ hz⟩
  refine⟨λz=>(ex z).choose,λz hz=>?_,?_⟩
  ·have oq:z∈af:=by simpa using hz
   obtain⟨j,hj,ej⟩:=Pj.mp oq;obtain⟨w,q1,q2⟩:=ha.getU r (j:=j) (by simpa using hj)
   have lL:RelV w z:=by
    have:af.toArray[j]'(by simpa using hj)=z:=by simpa using ej
    rw[←this];exact q1
   have hm:ds.getD j .non∈ds:=by
    have l1:=ha.length;have l2:=r.length;rw[p_,h_ (by omega)];exact MF _
   show PySem.SeqAt.EqAt X.A.in1 s z v (ex z).choose;rw[(ex z).choose_spec _ w hm q2 lL];exact(uw I 99 X.A.in1 eZ (by decide) _ a w x z v ⟨by have:=rR hm;omega,h3.1⟩ q2 h1 lL rx).2.1
  ·have:af.toArray.any (λz=>(ex z).choose)=af.any (λz=>(ex z).choose):=by simp
   rw[this];exact Cq ha r λd w z hd hi hr=>(ex z).choose_spec d w hd hi hr
 rcases h2 with h2 | h2
 ·obtain⟨l,xs,rfl,g1,g2⟩:=qJ h2;cases ry;obtain⟨af,r,t,_⟩:=I.list (rdL g1);obtain⟨e,k1,k2⟩:=key xs af g2 r;exact⟨af.toArray,e,l,rfl,.inl t.isList,k1,by rw[k2];exact q⟩
 ·obtain⟨l,xs,rfl,g1,g2⟩:=qK h2;cases ry;obtain⟨af,r,t,_⟩:=I.tuple g1;obtain⟨e,k1,k2⟩:=key xs af g2 r;exact⟨af.toArray,e,l,rfl,.inr t,k1,by rw[k2];exact q⟩
theorem yW(hu:X.A.units+100 < NQ):OpR X (MS .NotIn) (rInD X.K true):=by
 intro aa s U H x y v u Q I rx ry h;obtain⟨af,e,l,rfl,hl,he,q⟩:=IM hu I rx ry h
 rcases hl with hl | hl
 ·exact PySem.SeqAt.notIn_listAt e hl he ⟨.bl (!af.any e),H,I,rfl,q⟩
 ·exact PySem.SeqAt.notIn_tupleAt e hl he ⟨.bl (!af.any e),H,I,rfl,q⟩
end
end DL
set_option exponentiation.threshold 2000
namespace DL
open PySem PySem.Spec PyProof.Rows L2
noncomputable def intF(C:Int->Int->Bool)(g:Int->Int->D)(a b:D):Option D:=match a,b with
 | .int i,.int j=>if C i j then some (g i j) else none
 | _,_=>none
theorem vY{g:Int->Int->D}{a b:D}(h:intF C g a b=some d):∃i j,a=.int i/\b=.int j/\C i j=true/\d=g i j:=by
 unfold intF at h;split at h
 ·obtain⟨h1,h2⟩:=qQ h;exact⟨_,_,rfl,rfl,h1,h2⟩
 ·cases h
noncomputable def tt2(_ _:Int):Bool:=true
theorem od_I{K:PySem.W.Frag}{C:Int->Int->Prop}{c:Int->Int->Bool}{g:Int->Int->Int}(hc:∀i j,c i j=true->C i j):OpD K (rI C λi j=>.int (g i j)) (intF c λi j=>.int (g i j)):=λa b d e B G I H U Z x y Q r hx hy k=>by
 obtain⟨i,j,rfl,rfl,h,rfl⟩:=vY e;exact⟨i,j,qD hx,qD hy,hc i j h,k.now r (Is.int _)⟩
theorem FG{K:PySem.W.Frag}{g:Int->Int->Int}:OpD K (rI0 λi j=>.int (g i j)) (intF tt2 λi j=>.int (g i j)):=λa b d e B G I H U Z x y Q r hx hy k=>by
 obtain⟨i,j,rfl,rfl,h,rfl⟩:=vY e;exact⟨i,j,qD hx,qD hy,k.now r (Is.int _)⟩
theorem sV{K:PySem.W.Frag}{g:Int->Int->Bool}:OpD K (rI0 λi j=>.bl (g i j)) (intF tt2 λi j=>.bl (g i j)):=λa b d e B G I H U Z x y Q r hx hy k=>by
 obtain⟨i,j,rfl,rfl,h,rfl⟩:=vY e;exact⟨i,j,qD hx,qD hy,k.now r (Is.bl _)⟩
noncomputable def subI:D->D->Option D:=intF tt2 λi j=>.int (i - j)
noncomputable def mulI:D->D->Option D:=intF (λi j=>decide ((-(2 ^ 64) < i/\i < 2 ^ 64)\/(-(2 ^ 64) < j/\j < 2 ^ 64))) λi j=>.int (i*j)
noncomputable def modI:D->D->Option D:=intF (λ_ j=>decide (0 < j)) λi j=>.int (i % j)
noncomputable def divI:D->D->Option D:=intF (λ_ j=>decide (0 < j/\j < 2 ^ 200)) λi j=>.int (i / j)
noncomputable def powI:D->D->Option D:=intF (λi j=>decide (0<=j/\j<=1000000/\i.natAbs < 2 ^ 64)) λi j=>.int (i ^ j.toNat)
noncomputable def ltI:D->D->Option D:=intF tt2 λi j=>.bl (decide (i < j))
noncomputable def leI:D->D->Option D:=intF tt2 λi j=>.bl (decide (i<=j))
noncomputable def gtI:D->D->Option D:=intF tt2 λi j=>.bl (decide (j < i))
noncomputable def geI:D->D->Option D:=intF tt2 λi j=>.bl (decide (j<=i))
section
variable{B:BB}{a b c:L8}{es:List L8}{ga gb gc:M D}
theorem rp(ha:ED X B a ga)(hb:ED X B b gb):ED X B (.BinOp a .Sub b pos) (op2 subI ga gb):=tJ FK FG ha hb
theorem rz(ha:ED X B a ga)(hb:ED X B b gb):ED X B (.BinOp a .Mult b pos) (op2 mulI ga gb):=tJ Fu (od_I (C:=CMul) λi j h=>(of_decide_eq_true h:_\/_)) ha hb
theorem rO(ha:ED X B a ga)(hb:ED X B b gb):ED X B (.BinOp a .Mod b pos) (op2 modI ga gb):=tJ Ht (od_I λi j h=>of_decide_eq_true h) ha hb
theorem sD(ha:ED X B a ga)(hb:ED X B b gb):ED X B (.BinOp a .Pow b pos) (op2 powI ga gb):=tJ DF (od_I (C:=CPow) λi j h=>(of_decide_eq_true h:_/\_/\_)) ha hb
def CDivW(i j:Int):Prop:=0 < j/\j < 2 ^ 200
theorem B7:OpR X (NP .FloorDiv) (rI CDivW λi j=>.int (i / j)):=opI λi j _ _ _ _ _ hc q=>by
 have h1:(0:Int) < j:=hc.1
 have h2:j.natAbs < 2 ^ 200:=by
  have:=hc.2;omega
 have h4:j.natAbs.log2 < 9000:=by
  have h5:j.natAbs.log2 < 200:=(Nat.log2_lt (by omega)).mpr h2;omega
 refine floordiv_int (by omega) ?_ (.inl (PyProof.noPylong_of_log2 h4));rw[Int.fdiv_eq_ediv_of_nonneg _ (QZ h1)];exact q
theorem Ij(ha:ED X B a ga)(hb:ED X B b gb):ED X B (.BinOp a .FloorDiv b pos) (op2 divI ga gb):=tJ B7 (od_I (C:=CDivW) λi j h=>(of_decide_eq_true h:_/\_)) ha hb
theorem HW(ha:ED X B a ga)(hb:ED X B b gb):ED X B (.Compare a [.GtE] [b] pos) (op2 geI ga gb):=wP BE sV ha hb (nomark _)
theorem tu(ha:ED X B a ga)(hb:ED X B b gb):TD X B (.Compare a [.Lt] [b] pos) (tst (op2 ltI ga gb)):=sn xz sV ha hb (nomark _)
theorem v9(ha:ED X B a ga)(hb:ED X B b gb):TD X B (.Compare a [.Gt] [b] pos) (tst (op2 gtI ga gb)):=sn Hu sV ha hb (nomark _)
theorem wF(ha:ED X B a ga)(hb:ED X B b gb):TD X B (.Compare a [.GtE] [b] pos) (tst (op2 geI ga gb)):=sn BE sV ha hb (nomark _)
noncomputable def eqF(neg:Bool)(a b:D):Option D:=if dep a<=100/\dep b<=100 then some (.bl (if neg then !deq a b else deq a b)) else none
theorem wq{K:PySem.W.Frag}:OpD K (rEqD K neg) (eqF neg):=λa b d e B G I H U Z x y Q r hx hy k=>by
 obtain⟨h1,rfl⟩:=qQ e;exact⟨a,b,hx.mono r.iH,hy.mono r.iH,h1,k.now r (Is.bl _)⟩
variable {kr:Nat}
theorem hu100{k:Nat}(hr:Room k A):A.units+100 < NQ:=by have:=hr.un;omega
theorem xH(hr:Room kr X.A)(ha:ED X B a ga)(hb:ED X B b gb):ED X B (.Compare a [.Eq] [b] pos) (op2 (eqF false) ga gb):=wP (zR (hu100 hr)) wq ha hb (nomark _)
theorem sP(hr:Room kr X.A)(ha:ED X B a ga)(hb:ED X B b gb):TD X B (.Compare a [.Eq] [b] pos) (tst (op2 (eqF false) ga gb)):=sn (zR (hu100 hr)) wq ha hb (nomark _)
theorem su(hr:Room kr X.A)(ha:ED X B a ga)(hb:ED X B b gb):TD X B (.Compare a [.NotEq] [b] pos) (tst (op2 (eqF true) ga gb)):=sn (A8 (hu100 hr)) wq ha hb (nomark _)
noncomputable def inF(neg:Bool)(a b:D):Option D:=match seqI b with
 | some ds=>if dep a<=99/\depA ds<=99 then some (.bl (if neg then !ds.any (λd=>deq d a) else ds.any λd=>deq d a)) else none
 | none=>none
theorem Ay{K:PySem.W.Frag}:OpD K (rInD K neg) (inF neg):=λa b d e B G I H U Z x y Q r hx hy k=>by
 unfold inF at e;cases b with
 | lst ds =>
  obtain⟨h1,rfl⟩:=qQ e;exact⟨a,ds,hx.mono r.iH,.inl (hy.mono r.iH),h1,k.now r (Is.bl _)⟩
 | tup ds =>
  obtain⟨h1,rfl⟩:=qQ e;exact⟨a,ds,hx.mono r.iH,.inr (hy.mono r.iH),h1,k.now r (Is.bl _)⟩
 | _=>cases e
theorem Ja(hr:Room kr X.A)(ha:ED X B a ga)(hb:ED X B b gb)(hm:Nm .NotIn b=false:=by rfl):ED X B (.Compare a [.NotIn] [b] pos) (op2 (inF true) ga gb):=wP (yW (hu100 hr)) Ay ha hb hm
theorem DQ(hr:Room kr X.A)(ha:ED X B a ga)(hb:ED X B b gb)(hm:Nm .NotIn b=false:=by rfl):TD X B (.Compare a [.NotIn] [b] pos) (tst (op2 (inF true) ga gb)):=sn (yW (hu100 hr)) Ay ha hb hm
noncomputable def rCatTT(K:PySem.W.Frag):R2:=λx y H Q=>∃a b xs ys,x=.ref a/\y=.ref b/\SqT K H a xs/\SqT K H b ys/\xs.length+ys.length<=v_ ∧
 (xs=[]->Q (.ref b) H)/\(xs≠[]->ys=[]->Q (.ref a) H)/\(xs≠[]->ys≠[]->∀p,H p=none->Q (.ref p) (upd H p (.tup (xs++ys))))
theorem HY:OpR X (NP .Add) (rCatTT X.K):=by
 intro aa s U H x y v u Q I rx ry h;obtain⟨a,b,xs,ys,rfl,rfl,ha,hb,hz,q0,q1,q2⟩:=h;cases rx;cases ry;obtain⟨af,r1,p1,_⟩:=I.tuple ha;obtain⟨cb,r2,p2,_⟩:=I.tuple hb;by_cases hx:xs=[]
 ·subst hx;cases r1;obtain⟨⟨cls,dd,data,sl⟩,ho,hc,n,hd⟩:=id p1;obtain⟨⟨lc,im,data2,io⟩,eM,c9,n2,de⟩:=id p2;simp only at hc hd c9 de;subst hc hd c9 de
  exact Sq ⟨_,ho,rfl⟩ ⟨_,eM,rfl⟩ Qn R0 Rq Rc (Qo _ _)
   (tuple_addW0 a b _ cb.toArray n n2 dd im sl io (by simp)) ⟨ho,eM,⟨.ref b,H,I,rfl,q0 rfl⟩⟩
 ·exact Fv aa s U H (.ref a) (.ref b) _ _ Q I rfl rfl ⟨a,b,xs,ys,rfl,rfl,ha,hb,hx,hz,q1 hx,q2 hx⟩
noncomputable def addF(a b:D):Option D:=match a,b with
 | .int i,.int j=>some (.int (i+j))
 | .tup xs,.tup ys=>if xs.length+ys.length<=lim then some (.tup (xs++ys)) else none
 | .str x,.str y=>if x.length+y.length<=lim then some (.str (x++y)) else none
 | _,_=>none
theorem IsA.ne_nil{K:PySem.W.Frag}(h:IsA K I ds xs):xs=[]↔ds=[]:=by
 have:=h.length;constructor
 ·intro e;subst e;exact M7.mp this
 ·intro e;subst e;exact M7.mp this.symm
theorem qF(ha:ED X B a ga)(hb:ED X B b gb):ED X B (.BinOp a .Add b pos) (op2 addF ga gb):=tJ ((FU.or HY).or DZ) (λa b d e B G I H U Z x y Q r hx hy k=>by
 unfold addF at e;split at e
 ·cases e;exact .inl (.inl ⟨_,_,qD hx,qD hy,k.now r (Is.int _)⟩)
 ·obtain⟨hl,rfl⟩:=qQ e;obtain⟨p,xs,rfl,h1,h2⟩:=qK hx;obtain⟨q,ys,rfl,h3,h4⟩:=qK hy;refine .inl (.inr ⟨p,q,xs,ys,rfl,rfl,Same.sqT r.iH h1,Same.sqT r.iH h3,by rw[←h2.length,←h4.length];exact sm hl,λz=>?_,λ_ z=>?_,λ_ _ p' hp=>k.tup r hp (IsA.append h2 h4)⟩)
  ·have:=h2.ne_nil.mp z;subst this;exact k.now r (Is.tup h3 h4)
  ·have:=h4.ne_nil.mp z;subst this;rw[M5] at k;exact k.now r (Is.tup h1 h2)
 ·obtain⟨hl,rfl⟩:=qQ e;exact .inr ⟨_,_,rH hx,rH hy,sm hl,k.now r (Is.str _)⟩
 ·cases e) ha hb
noncomputable def rCatR(K:PySem.W.Frag):R2:=λx y H Q=>∃l b xs zs,x=.ref l/\y=.ref b/\RdK K H l xs/\RdK K H b zs/\xs.length+zs.length<=v_/\∀p,H p=none->Q (.ref p) (upd H p (.lst (xs++zs)))
theorem HN:OpR X (NP .Add) (rCatR X.K):=by
 intro aa s U H x y v u Q I rx ry h;obtain⟨l,b,xs,zs,rfl,rfl,hH,hB,hz,q⟩:=h;cases rx;cases ry;obtain⟨z,af,n,r,hl,e⟩:=wc I hH;obtain⟨z2,cb,n2,r2,dY,e2⟩:=wc I hB;refine PySem.P.add_list e e2 ?_ (by rw[l_,l_];omega);have ea:af.toArray++cb.toArray=(af++cb).toArray:=by simp
 rw[ea];exact⟨.ref _,_,I.lnew (t':=s.toks) (r.append r2) (by rw[LY];omega),rfl,q _ I.fresh⟩
noncomputable def catF(a b:D):Option (List D):=match a,b with
 | .lst xs,.lst ys=>if xs.length+ys.length<=lim then some (xs++ys) else none
 | _,_=>none
theorem rY(ha:ED X B a ga)(hb:ED X B b gb):EO X B (.BinOp a .Add b pos) (op2 catF ga gb):=Fp HN (λa b d e B G I H U Z x y Q r hx hy k=>by
 unfold catF at e;split at e
 ·obtain⟨hl,rfl⟩:=qQ e;obtain⟨p,xs,rfl,h1,h2⟩:=qJ hx;obtain⟨q,ys,rfl,h3,h4⟩:=qJ hy;exact⟨p,q,xs,ys,rfl,rfl,Same.rdK r.iH h1,Same.rdK r.iH h3,by rw[←h2.length,←h4.length];exact sm hl,λp' hp=>k.new r hp (IsA.append h2 h4)⟩
 ·cases e) ha hb
theorem IsA.at{K:PySem.W.Frag}{I:Hp}{ds:List D}{xs:List V}{i:Int}{d:D}(h:IsA K I ds xs)(e:atI ds i=some d):∃x,atI xs i=some x/\Is K I d x:=by
 unfold atI at e ⊢;rw[←h.length];cases hj:ixN ds.length i with
 | none=>rw[hj] at e;cases e
 | some j =>
  rw[hj] at e;exact h.get e
noncomputable def ixF(a b:D):Option D:=match seqI a,asI b with
 | some ds,some i=>atI ds i
 | _,_=>none
theorem Bw{a b:D}(h:ixF a b=some d):∃ds i,(a=.lst ds\/a=.tup ds)/\b=.int i/\atI ds i=some d:=by
 unfold ixF at h;cases a<;>cases b<;>simp[seqI,asI] at h
 ·exact⟨_,_,.inr rfl,rfl,h⟩
 ·exact⟨_,_,.inl rfl,rfl,h⟩
theorem qG(ha:ED X B a ga)(hb:ED X B b gb)(hs:PlainIx b:=by exact λ_ _=>rfl):ED X B (.Subscript a b pos) (op2 ixF ga gb):=Fo (z5.or Ib) (λa b d e B G I H U Z x y Q r hx hy k=>by
 obtain⟨ds,i,h1,rfl,h2⟩:=Bw e
 rcases h1 with rfl | rfl
 ·obtain⟨p,xs,rfl,h3,h4⟩:=qJ hx;obtain⟨v,e5,e6⟩:=h4.at h2;exact .inl ⟨p,xs,i,v,rfl,qD hy,(Same.rdK r.iH h3).sq,e5,k.now r e6⟩
 ·obtain⟨p,xs,rfl,h3,h4⟩:=qK hx;obtain⟨v,e5,e6⟩:=h4.at h2
  exact .inr ⟨p,xs,i,v,rfl,qD hy,Same.sqT r.iH h3,e5,k.now r e6⟩) ha hb hs
noncomputable def look(i:Nat):M D:=λZ=>match Z[i]? with
 | some (some (.own ds))=>some (.lst ds,Z)
 | some (some (.bor ds))=>some (.lst ds,Z)
 | _=>none
theorem wd{K:PySem.W.Frag}{H:Hp}{i:Nat}(h:look i Z=some (d,ah))(r:Rep K B G I H U Z):ah=Z/\∃p xs ds,d=.lst ds/\U[i]?=some (some (.ref p))/\H p=some (.lst xs)/\IsA K I ds xs:=by
 unfold look at h;cases e:Z[i]? with
 | none=>rw[e] at h;cases h
 | some o =>
  cases o with
  | none=>rw[e] at h;cases h
  | some q =>
   rw[e] at h;obtain⟨v,h1,h2⟩:=r.slot i q e;cases q with
   | val _=>cases h
   | own ds=>cases h;obtain⟨p,xs,rfl,g1,_,_,g4⟩:=h2;exact⟨rfl,p,xs,ds,rfl,h1,g1,g4⟩
   | fro ds=>cases h
   | dic ds=>cases h
   | bor ds=>cases h;obtain⟨p,xs,rfl,g1,_,_,g4⟩:=h2;exact⟨rfl,p,xs,ds,rfl,h1,g1,g4⟩
noncomputable def atN(i:Nat)(g:M D):M D:=mutS i (bnd g λn=>bnd (look i) λl=>lft (ixF l n))
theorem rq{i:Nat}{x:Str}(hv:PE X (.Name x p1) (tVar i))(hb:ED X B b gb)(hs:PlainIx b:=by exact λ_ _=>rfl):ED X B (.Subscript (.Name x p1) b pos) (atN i gb):=PE.imp (zp z5 hv hb hs) λU H Q q=>by
 obtain⟨G,I,Z,d,ah,r,e1,k⟩:=q;obtain⟨hm,e1⟩:=tU e1;obtain⟨n,ae,e2,e3⟩:=pS e1;obtain⟨l,ao,e4,e5⟩:=pS e3;obtain⟨e6,rfl⟩:=qI e5;obtain⟨p,xs,h1,h2⟩:=sH hm r;refine⟨_,h1,G,I,Z,n,ae,r,e2,λv H1 I1 r1 g1 hn=>?_⟩;obtain⟨rfl,p',bb,ds,rfl,f1,f2,f3⟩:=wd e4 r1;have hp:p'=p:=by rw[h1] at f1;cases f1;rfl
 subst hp;obtain⟨iz,j,g2,rfl,g3⟩:=Bw e6
 rcases g2 with g2 | g2
 ·cases g2;obtain⟨y,e7,e8⟩:=f3.at g3;exact⟨p',bb,j,y,rfl,qD hn,SqL.of f2,e7,(k.after g1).now r1 e8⟩
 ·cases g2
noncomputable def lenF(ds:List D):Option D:=match ds with
 | [.lst xs]=>some (.int xs.length)
 | [.tup xs]=>some (.int xs.length)
 | _=>none
theorem Jk(h:lenF ds=some d):∃xs,(ds=[.lst xs]\/ds=[.tup xs])/\d=.int xs.length:=by
 unfold lenF at h;split at h
 ·cases h;exact⟨_,.inl rfl,rfl⟩
 ·cases h;exact⟨_,.inr rfl,rfl⟩
 ·cases h
theorem rT{p:Pos}{t:M (List D)}(hg:Gl X "len")(hm:X.mg "len"=none)(ha:AD X B [e] t)(he:f_ [e] X.env=(false,Mm e X.env)::f_ [] X.env:=by rfl)(aC:(Mp pos (f_ [] X.env)).any (·.1)=false:=by rfl):
  ED X B (.Call (.Name "len" p) [e] [] pos) (fn1 lenF t):=sv BS (λds d e B G I H U Z xs Q r h k=>by
 obtain⟨ys,h1,rfl⟩:=Jk e
 rcases h1 with rfl | rfl
 ·obtain⟨x,rfl,hx⟩:=h.one;obtain⟨q,zs,rfl,h3,h4⟩:=qJ hx;exact⟨q,zs,rfl,.inl ((Same.rdK r.iH h3).sq),by rw[h4.length] at k;exact k.now r (Is.int _)⟩
 ·obtain⟨x,rfl,hx⟩:=h.one;obtain⟨q,zs,rfl,h3,h4⟩:=qK hx
  exact⟨q,zs,rfl,.inr (Same.sqT r.iH h3),by rw[h4.length] at k;exact k.now r (Is.int _)⟩) hg hm PySem.boot_len ha (by decide) (by decide) he aC
noncomputable def lenN(i:Nat):M D:=bnd (look i) λl=>lft (lenF [l])
theorem J1{i:Nat}{x:Str}{p:Pos}(hg:Gl X "len")(hm:X.mg "len"=none)(hv:PE X (.Name x p1) (tVar i))(he:f_ [.Name x p1] X.env=(false,Mm (.Name x p1) X.env)::f_ [] X.env:=by rfl)(aC:(Mp pos (f_ [] X.env)).any (·.1)=false:=by rfl):
  ED X B (.Call (.Name "len" p) [.Name x p1] [] pos) (lenN i):=PE.imp (ya BS hg hm PySem.boot_len (tH hv vG he) (by decide) (by decide) he aC) λU H Q q=>by
 obtain⟨G,I,Z,d,ah,r,e1,k⟩:=q;obtain⟨l,ae,e2,e3⟩:=pS e1;obtain⟨e4,rfl⟩:=qI e3;obtain⟨rfl,q,xs,ds,rfl,f1,f2,f3⟩:=wd e2 r;cases e4;exact⟨_,f1,q,xs,rfl,.inl (SqL.of f2),by rw[f3.length] at k;exact k.now r (Is.int _)⟩
noncomputable def cmpN(neg:Bool)(i:Nat)(g:M D):M D:=mutS i (bnd g λd=>bnd (look i) λl=>lft (eqF neg l d))
theorem Gi{K:PySem.W.Frag}{i:Nat}:∀U H Q,tD K B (cmpN neg i gb) U H Q->tOp (rEqD K neg) (tVar i) (tD K B gb) U H Q:=λU H Q q=>by
 obtain⟨G,I,Z,d,ah,r,e1,k⟩:=q;obtain⟨hm,e1⟩:=tU e1;obtain⟨n,ae,e2,e3⟩:=pS e1;obtain⟨l,ao,e4,e5⟩:=pS e3;obtain⟨e6,rfl⟩:=qI e5;obtain⟨p,xs,h1,h2⟩:=sH hm r;refine⟨_,h1,G,I,Z,n,ae,r,e2,λv H1 I1 r1 g1 hn=>?_⟩;obtain⟨rfl,p',bb,ds,rfl,f1,f2,f3⟩:=wd e4 r1;have hp:p'=p:=by rw[h1] at f1;cases f1;rfl
 subst hp;obtain⟨hd,rfl⟩:=qQ e6;exact⟨.lst ds,n,Is.lst (RdK.of f2) (f3.mono r1.iH),hn.mono r1.iH,hd,(k.after g1).now r1 (Is.bl _)⟩
theorem Cf{i:Nat}{x:Str}(hr:Room kr X.A)(hv:PE X (.Name x p1) (tVar i))(hb:ED X B b gb):TD X B (.Compare (.Name x p1) [.NotEq] [b] pos) (tst (cmpN true i gb)):=PT.imp (Bv (A8 (hu100 hr)) hv hb (nomark _)) (t8 Gi)
def partD(e:Option L8)(X:Cx)(B:BB)(g:M (Option Int)):Prop:=PO X e (λU H Q=>∃G I Z o ah,Rep X.K B G I H U Z/\g Z=some (o,ah)/\∀H' I',Rep X.K B G I' H' U ah->Grow G I I'->Q o H')
theorem rA:partD none X B (ret none):=λaa s U H Q I h=>CH aa s U H Q I (by
 obtain⟨G,I,Z,o,ah,r,e1,k⟩:=h;cases e1
 exact k _ _ r (Grow.refl _ _))
noncomputable def prt(g:M D):M (Option Int):=bnd g λd=>bnd (lft (asI d)) λi=>ret (some i)
theorem qZ(ha:ED X B a ga):partD (some a) X B (prt ga):=λaa s U H Q I h=>Eg ha aa s U H Q I (by
 obtain⟨G,I,Z,o,ah,r,e1,k⟩:=h;obtain⟨d,ae,e2,e3⟩:=pS e1;obtain⟨i,ao,e4,e5⟩:=pS e3;cases e5;obtain⟨e6,rfl⟩:=qI e4;have:=zE e6;subst this
 exact⟨G,I,Z,_,_,r,e2,λv H1 I1 r1 g1 hv=>⟨i,qD hv,k _ _ r1 g1⟩⟩)
noncomputable def cutD(ds:List D)(lo hi:Option Int):List D:=(ds.drop (HT.sIx ds.length 0 lo)).take (HT.sIx ds.length ds.length hi - HT.sIx ds.length 0 lo)
theorem IsA.cut{K:PySem.W.Frag}{I:Hp}{ds:List D}{xs:List V}(h:IsA K I ds xs)(lo hi:Option Int):IsA K I (cutD ds lo hi) (cutV xs lo hi):=by
 unfold cutD cutV;rw[←h.length];exact(h.drop _).take _
noncomputable def slF(d:D)(lo hi:Option Int):Option D:=match d with
 | .lst ds=>some (.lst (cutD ds lo hi))
 | .tup ds=>if HT.sIx ds.length 0 lo=0/\HT.sIx ds.length ds.length hi=ds.length then none else some (.tup (cutD ds lo hi))
 | _=>none
noncomputable def sl3{α:Type}(F:D->Option Int->Option Int->Option α)(g:M D)(gl gh:M (Option Int)):M α:=bnd g λd=>bnd gl λl=>bnd gh λh=>lft (F d l h)
theorem rg{lo hi:Option L8}(ha:ED X B a ga)(hl:partD lo X B gl)(hh:partD hi X B gh):ED X B (.Subscript a (.Slice lo hi none p2) pos) (sl3 slF ga gl gh):=PE.imp (DY (GF.or JZ) ha hl hh) λU H Q q=>by
 obtain⟨G,I,Z,d,ah,r,e1,k⟩:=q;obtain⟨c,ae,e2,e3⟩:=pS e1;obtain⟨l,ao,e4,e5⟩:=pS e3;obtain⟨h,aO,e6,e7⟩:=pS e5;obtain⟨e8,rfl⟩:=qI e7;refine⟨G,I,Z,c,ae,r,e2,λv H1 I1 r1 g1 hv=>⟨G,I1,ae,l,ao,r1,e4,λH2 I2 r2 g2=>⟨G,I2,ao,h,_,r2,e6,λH3 I3 r3 g3=>?_⟩⟩⟩;have gg:=g1.trans (g2.trans g3);have lM:=hv.mono (g2.trans g3).up;cases c with
 | lst ds =>
  cases e8;obtain⟨p,xs,rfl,h3,h4⟩:=qJ lM;refine .inl ⟨p,xs,rfl,(Same.rdK r3.iH h3).sq,λp' hp=>?_⟩;exact(k.after gg) _ _ _ (r3.alloc hp _) (r3.growAlloc hp _) (Is.lst (RdK.of qH) ((h4.cut l h).mono (rf (r3.iFree hp) _)))
 | tup ds =>
  unfold slF at e8;by_cases hw:HT.sIx ds.length 0 l=0/\HT.sIx ds.length ds.length h=ds.length
  ·simp only[hw,and_self,if_true] at e8;cases e8
  ·simp only[if_neg hw] at e8;cases e8;obtain⟨p,xs,rfl,h3,h4⟩:=qK lM;exact .inr ⟨p,xs,rfl,Same.sqT r3.iH h3,by rw[←h4.length];exact hw,λp' hp=>(k.after gg).tup r3 hp (h4.cut l h)⟩
 | _=>cases e8
noncomputable def minF(ds:List D):Option D:=match ds with
 | [.int i,.int j]=>some (.int (if j < i then j else i))
 | _=>none
noncomputable def maxF(ds:List D):Option D:=match ds with
 | [.int i,.int j]=>some (.int (if j > i then j else i))
 | _=>none
theorem vN{p:Pos}{t:M (List D)}(hc:X.calm=true)(hg:Gl X "min")(hm:X.mg "min"=none)(ha:AD X B (e::es) t)(he:f_ (e::es) X.env=(false,Mm e X.env)::f_ es X.env:=by rfl)(aC:(Mp pos (f_ es X.env)).any (·.1)=false:=by rfl):
  ED X B (.Call (.Name "min" p) (e::es) [] pos) (fn1 minF t):=sv (Er hc) (λds d e B G I H U Z xs Q r h k=>by
 unfold minF at e;split at e
 ·cases e;obtain⟨x,y,rfl,hx,hy⟩:=h.two;exact⟨_,_,by rw[qD hx,qD hy],k.now r (Is.int _)⟩
 ·cases e) hg hm boot_min ha (by decide) (by decide) he aC
theorem zv{p:Pos}{t:M (List D)}(hc:X.calm=true)(hg:Gl X "max")(hm:X.mg "max"=none)(ha:AD X B (e::es) t)(he:f_ (e::es) X.env=(false,Mm e X.env)::f_ es X.env:=by rfl)(aC:(Mp pos (f_ es X.env)).any (·.1)=false:=by rfl):
  ED X B (.Call (.Name "max" p) (e::es) [] pos) (fn1 maxF t):=sv (Iv hc) (λds d e B G I H U Z xs Q r h k=>by
 unfold maxF at e;split at e
 ·cases e;obtain⟨x,y,rfl,hx,hy⟩:=h.two;exact⟨_,_,by rw[qD hx,qD hy],k.now r (Is.int _)⟩
 ·cases e) hg hm boot_max ha (by decide) (by decide) he aC
noncomputable def tupF(ds:List D):Option D:=match ds with
 | [.lst xs]=>some (.tup xs)
 | [.tup xs]=>some (.tup xs)
 | _=>none
noncomputable def lstF(ds:List D):Option (List D):=match ds with
 | [.lst xs]=>some xs
 | [.tup xs]=>some xs
 | _=>none
theorem ua{p:Pos}{t:M (List D)}(hg:Gl X "list")(hm:X.mg "list"=none)(ha:AD X B [e] t)(he:f_ [e] X.env=(false,Mm e X.env)::f_ [] X.env:=by rfl)(aC:(Mp pos (f_ [] X.env)).any (·.1)=false:=by rfl):
  EO X B (.Call (.Name "list" p) [e] [] pos) (fn1 lstF t):=G0 CD (λds d e B G I H U Z xs Q r h k=>by
 unfold lstF at e;split at e
 ·cases e;obtain⟨x,rfl,hx⟩:=h.one;obtain⟨q,zs,rfl,h3,h4⟩:=qJ hx;exact⟨q,zs,rfl,.inl ((Same.rdK r.iH h3).sq),λp' hp=>k.new r hp h4⟩
 ·cases e;obtain⟨x,rfl,hx⟩:=h.one;obtain⟨q,zs,rfl,h3,h4⟩:=qK hx;exact⟨q,zs,rfl,.inr (Same.sqT r.iH h3),λp' hp=>k.new r hp h4⟩
 ·cases e) hg hm boot_list ha (by decide) (by decide) he aC
noncomputable def isN(d:D):Bool:=match d with
 | .non=>true
 | _=>false
noncomputable def isNF(neg:Bool)(a b:D):Option D:=match b with
 | .non=>some (.bl (if neg then !isN a else isN a))
 | _=>none
theorem AU{K:PySem.W.Frag}{a:D}{x:V}(h:Is K I a x):decide (x=V.non)=isN a:=by
 cases a with
 | non=>rw[rK h];rfl
 | bl _=>rw[rm h];rfl
 | int _=>rw[qD h];rfl
 | str _=>rw[rH h];rfl
 | tup _=>obtain⟨_,_,rfl,_⟩:=qK h;rfl
 | lst _=>obtain⟨_,_,rfl,_⟩:=qJ h;rfl
 | dct _=>obtain⟨_,_,_,rfl,_⟩:=tN h;rfl
theorem Jb{K:PySem.W.Frag}:OpD K (λx y H Q=>y=.non/\Q (.bl (decide (x=.non))) H) (isNF false):=λa b d e B G I H U Z x y Q r hx hy k=>by
 unfold isNF at e;split at e
 ·cases e;exact⟨rK hy,by rw[AU hx];exact k.now r (Is.bl _)⟩
 ·cases e
theorem JT{K:PySem.W.Frag}:OpD K (λx y H Q=>y=.non/\Q (.bl (!decide (x=.non))) H) (isNF true):=λa b d e B G I H U Z x y Q r hx hy k=>by
 unfold isNF at e;split at e
 ·cases e;exact⟨rK hy,by rw[AU hx];exact k.now r (Is.bl _)⟩
 ·cases e
theorem Gp(ha:ED X B a ga)(hb:ED X B b gb):TD X B (.Compare a [.Is] [b] pos) (tst (op2 (isNF false) ga gb)):=sn F4 Jb ha hb (nomark _)
theorem Cn(ha:ED X B a ga)(hb:ED X B b gb):TD X B (.Compare a [.IsNot] [b] pos) (tst (op2 (isNF true) ga gb)):=sn Hq JT ha hb (nomark _)
end
structure Kd where
 it:L4->i_->i_->Nat->Prop
 sq:L4->i_->Array b_->Prop
 nm:String
structure KdOk(k:Kd):Prop where
 itAt:∀{h h':L4}{i l:i_}{n:Nat},k.it h i l n->(∀o,h.get? i=some o->h'.get? i=some o)->k.it h' i l n
 sqAt:∀{h h':L4}{l:i_}{xs:Array b_},k.sq h l xs->(∀o,h.get? l=some o->h'.get? l=some o)->k.sq h' l xs
 itLt:∀{h:L4}{i l:i_}{n:Nat},k.it h i l n->i < h.objs.size
 sqLt:∀{h:L4}{l:i_}{xs:Array b_},k.sq h l xs->l < h.objs.size
 itObj:∀{h:L4}{i l:i_}{n:Nat},k.it h i l n->∃o,h.get? i=some o/\∀v,o.data≠.cell v
 iter:∀{prog:B_}{w:J_}{A:Ni}{E:b_->d_->Prop}{s:d_}{l:i_}{xs:Array b_}{Q:b_->d_->Prop},k.sq s.heap l xs →
  Q (.ref s.heap.objs.size) { s with heap:=s.heap.push { cls:=.type k.nm,data:=.fields #[.ref l,.int 0 0] } }->z_ (m_ prog w) A (R9 (.ref l)) Q E s
 new:∀{h:L4}{l:i_},k.it (h.push { cls:=.type k.nm,data:=.fields #[.ref l,.int 0 0] }) h.objs.size l 0
 item:∀{prog:B_}{w:J_}{A:Ni}{E:b_->d_->Prop}{s:d_}{i l:i_}{n:Nat}{xs:Array b_}{x:b_}{Q:b_->d_->Prop},k.it s.heap i l n->k.sq s.heap l xs->xs[n]?=some x →
  (∀h',k.it h' i l (n+1)->L4.SameBut i s.heap h'->Q x { s with heap:=h' })->z_ (m_ prog w) A (Sd (.ref i)) Q E s
 stop:∀{prog:B_}{w:J_}{A:Ni}{E:b_->d_->Prop}{s:d_}{i l:i_}{n:Nat}{xs:Array b_}{Q:b_->d_->Prop},A.handled=none->k.it s.heap i l n->k.sq s.heap l xs->xs[n]?=none →
  (∀h' e,L4.ExtBut i s.heap h'->(∃o,h'.get? e=some o/\o.cls=.type "StopIteration")->E (.ref e) { s with heap:=h' })->z_ (m_ prog w) A (Sd (.ref i)) Q E s
noncomputable def kdL:Kd:=⟨λh i l n=>h.IsListIter i l n,λh l xs=>h.IsList l xs, "list_iterator"⟩
noncomputable def kdT:Kd:=⟨λh i l n=>h.IsTupleIter i l n,λh l xs=>h.IsTuple l xs, "tuple_iterator"⟩
theorem r8:KdOk kdL where
 itAt:=λh k=>h.at k
 sqAt:=λh k=>h.at k
 itLt:=λh=>by obtain⟨_,e,_⟩:=h;exact F_ e
 sqLt:=λh=>by obtain⟨_,e,_⟩:=h;exact F_ e
 itObj:=λh=>by obtain⟨o,e,_,d⟩:=h;exact⟨o,e,λv z=>by rw[d] at z;cases z⟩
 iter:=λh q=>N8 h q
 new:=⟨_,s_ _ rfl,rfl,rfl⟩
 item:=λh1 h2 h3 q=>wpAny_nextOf_list_item h1 h2 h3 q
 stop:=λhh h1 h2 h3 q=>wpAny_nextOf_list_end hh h1 h2 h3 q
section
variable{prog:B_}{w:J_}{E:b_->d_->Prop}{s:d_}
theorem EG{α:Type}{Q:α->d_->Prop}(hh:A.handled=none)(k:∀(g:L4) (x:i_),(∀b o,s.heap.get? b=some o->g.get? b=some o)->(∃o,g.get? x=some o/\o.cls=.type "StopIteration")->E (.ref x) { s with heap:=g }):
  z_ (m_ prog w) A (stopIteration (α:=α)) Q E s:=by
 unfold stopIteration newExc newTuple;refine a_ (a_ (Ma (a_ (MV (a:=b_.none) (by first | rfl | (simp only[Rv];rfl)) (Ma ?_ (by size_fits)))) (by size_fits)));unfold raiseNew;refine a_ (wpAny_handled ?_);rw[hh];exact a_ (e_ (wpAny_throw (k _ _ (λb o e=>c_ _ (c_ _ e)) ⟨_,s_ _ rfl,rfl⟩)))
theorem yY{aF tp:i_}{i:Nat}{Q:b_->d_->Prop}(hi:s.heap.IsTupleIter aF tp i)(hT:s.heap.IsTuple tp cells)(one:∀v,cells[i]?=some v->∀g:L4,g.IsTupleIter aF tp (i+1)->L4.SameBut aF s.heap g->Q v { s with heap:=g })(non:cells[i]?=none->A.handled=none/\∀(g:L4) (x:i_),L4.ExtBut aF s.heap g->(∃o,g.get? x=some o/\o.cls=.type "StopIteration")->E (.ref x) { s with heap:=g }):
  z_ (m_ prog w) A (Sd (.ref aF)) Q E s:=by
 have ty:=hi.typeIs;obtain⟨oi,gi,ci,di⟩:=hi;obtain⟨ot,gt,ct,nt,dt⟩:=hT;unfold Sd;refine a_ (Mk (name:=NC "__next__") ty PU (Mn PU ty F.entry_tuple_iterator_next ?_ (F.args_tuple_iterator_next_1 _)));refine a_ (MV (a:=(b_.ref aF,[])) rfl ?_);refine a_ (MU (i:=0) gi di (x:=.ref tp) rfl (wpAny_ite_split (λno=>absurd no y_) λ_=>?_));refine a_ (MU (i:=1) gi di (x:=.int i 0) rfl (a_ (MB gt dt ?_)));dsimp only;rw[Oq];cases hv:cells[i]? with
 | some v =>
  refine a_ (OL gi di (by simp) (e_ ⟨v,rfl,e_ (one v hv _ ?_ (L4.SameBut.update ..))⟩));have low:=OM di;exact⟨_,L3 _ gi (OQ (low _)),(P8 ..).trans ci,by rw[low];simp[Nj]⟩
 | none =>
  obtain⟨hh,k⟩:=non hv;refine a_ (MZ (a_ (OL gi di (by simp) (EG hh λg x keep is=>k g x (λb o ne e=>keep b o ((L4.SameBut.update ..).extBut b o ne e)) is))))
end
theorem yQ:KdOk kdT where
 itAt:=λh k=>by obtain⟨o,e,r⟩:=h;exact⟨o,k o e,r⟩
 sqAt:=λh k=>by obtain⟨o,e,r⟩:=h;exact⟨o,k o e,r⟩
 itLt:=λh=>by obtain⟨_,e,_⟩:=h;exact F_ e
 sqLt:=λh=>by obtain⟨_,e,_⟩:=h;exact F_ e
 itObj:=λh=>by obtain⟨o,e,_,d⟩:=h;exact⟨o,e,λv z=>by rw[d] at z;cases z⟩
 iter:=λh q=>Sc h q
 new:=⟨_,s_ _ rfl,rfl,rfl⟩
 item:=λh1 h2 h3 q=>yY h1 h2 (λv e g=>by rw[h3] at e;cases e;exact q g) λe=>by rw[h3] at e;cases e
 stop:=λhh h1 h2 h3 q=>yY h1 h2 (λv e=>by rw[h3] at e;cases e) λ_=>⟨hh,q⟩
theorem wL{H:Hp}{s:d_}(I:Inv X aa U H s)(bB:∀b∈ch,FpOk X aa H b)(k:∀b u,b∉ch->s.heap.get? b=some u->h'.get? b=some u)(hT:s.heap.objs.size<=T)(new:ObjOk X.prog X.w (upd H T o) h' T o):Inv X aa U (upd H T o) { s with heap:=h',toks:=t' }:=by
 have hf:=I.hok.fresh hT;have ne:∀{b u},H b=some u->b≠T:=λ{b u} e=>rG e hf
 have cW:∀{b u},H b=some u->b∉ch:=λ{b u} e z=>by have:=(bB b z).1;rw[e] at this;cases this
 refine I.step (g':=s.gens) (d':=s.drawn) (ch:=ch) (λb hb=>⟨(bB b hb).2.2.2.1,(bB b hb).2.1,(bB b hb).2.2.2.2.1,(bB b hb).2.2.2.2.2⟩) (λb u _ _ hc e _=>k b u hc e) (λb u _ _ hc e _=>⟨u.slots,k b u hc e⟩) (λb u hc e n=>?_)
  (λb u hc e=>⟨u,k b u hc e⟩) (λb xs e=>by rw[qx (ne e)];exact e) (λb u v e=>by rw[qx (ne e)];exact e) (λb q e=>by rw[qx (ne e)];exact e) (λm hm=>?_) (λb u e=>?_) I.bare
 ·have nb:b≠T:=λz=>by have:=F_ e;rw[z] at this;exact absurd (H_ this hT) (NN _)
  rw[qx nb];exact n
 ·obtain⟨ob,es,ep,ho,r⟩:=hm;exact⟨ob,es,ep,k _ ob (λz=>(bB _ z).2.1 rfl) ho,r⟩
 ·by_cases hb:b=T
  ·subst hb;rw[qH] at e;cases e;exact new
  ·rw[qx hb] at e;refine(I.hok b u e).stay (λc v hc q=>k c v ?_ q) (λc q=>by rw[qx (ne q)];exact q) (λc xs q=>by rw[qx (ne q)];exact q) λc o u q=>by rw[qx (ne q)];exact q
   rcases hc with z | z
   ·rw[z];exact cW e
   ·exact cW z
theorem t6{H:Hp}{s:d_}(I:Inv X aa U H s)(bB:∀b∈ch,FpOk X aa H b)(k:∀b u,b∉ch->s.heap.get? b=some u->h'.get? b=some u):Inv X aa U H { s with heap:=h',toks:=t' }:=by
 have cW:∀{b u},H b=some u->b∉ch:=λ{b u} e z=>by have:=(bB b z).1;rw[e] at this;cases this
 refine I.step (g':=s.gens) (d':=s.drawn) (ch:=ch) (λb hb=>⟨(bB b hb).2.2.2.1,(bB b hb).2.1,(bB b hb).2.2.2.2.1,(bB b hb).2.2.2.2.2⟩) (λb u _ _ hc e _=>k b u hc e) (λb u _ _ hc e _=>⟨u.slots,k b u hc e⟩) (λb u hc e n=>n)
  (λb u hc e=>⟨u,k b u hc e⟩) (λb xs e=>e) (λb u v e=>e) (λ_ _ e=>e) (λm hm=>?_) (λb u e=>?_) I.bare
 ·obtain⟨ob,es,ep,ho,r⟩:=hm;exact⟨ob,es,ep,k _ ob (λz=>(bB _ z).2.1 rfl) ho,r⟩
 ·refine(I.hok b u e).stay (λc v hc q=>k c v ?_ q) (λc q=>q) (λc xs q=>q) λc o u q=>q
  rcases hc with z | z
  ·rw[z];exact cW e
  ·exact cW z
section
variable{prog:B_}{w:J_}{E:b_->d_->Prop}{s:d_}{k:Kd}
theorem uQ(ok:KdOk k){z ta p q u v:i_}{xs ys:Array b_}{c0 c1:b_}{Q:PySem.Fin->d_->Prop}(D:Tk z ta aE p q u v)(qw:Re s.heap z ta aE .none)(Ta:NJ s.heap ta (.ref p) (.ref q))(To:NJ s.heap aE c0 c1)(P:k.it s.heap p u m)(P':k.it s.heap q v n)(qv:k.sq s.heap u xs)(U':k.sq s.heap v ys)(dF:∀x y,xs[m]?=some x->ys[n]?=some y->∀g:L4,g.objs.size=s.heap.objs.size+1/\NJ g s.heap.objs.size x y->Re g z ta aE (Nj s.heap.objs.size)->NJ g aE x y->k.it g p u (m+1)/\k.it g q v (n+1) →
   (∀c o,(c≠z/\c≠aE/\c≠p/\c≠q)->s.heap.get? c=some o->g.get? c=some o)->Q (.done (.ret (.ref s.heap.objs.size))) { s with heap:=g })(ee:(xs[m]?=none\/ys[n]?=none)->A.handled=none/\∀(g:L4) (x:i_),(∀c o,(c≠z/\c≠aE/\c≠p/\c≠q)->s.heap.get? c=some o->g.get? c=some o)->(∃o,g.get? x=some o/\o.cls=.type "StopIteration")->E (.ref x) { s with heap:=g }):
  z_ (m_ prog w) A (Nk.«zip.__next__» ⟨[.ref z],[]⟩) Q E s:=by
 refine a_ (MV (a:=(b_.ref z,[])) rfl (a_ (MU (i:=2) qw rfl (x:=.bool false) rfl (a_ (MU (i:=3) qw rfl (x:=.ref ta) rfl (a_ (MB Ta rfl ?_)))))));refine a_ (m:=Qs (.ref z)) (a_ (MU (i:=0) qw rfl (x:=.none) rfl (e_ ?_)));rw[if_pos rfl];refine a_ (MZ (a_ (MU (i:=4) qw rfl (x:=.ref aE) rfl (a_ (N1 qw (by simp) λg1 Z1 b1=>?_)))));replace Z1:Re g1 z ta aE .ellipsis:=Z1
 have jV:∀(g:L4) (x:i_),Re g z ta aE .ellipsis->(∃o,g.get? x=some o/\o.cls=.type "StopIteration")->(∀g':L4,L4.SameBut z g g'->(∃o,g'.get? x=some o/\o.cls=.type "StopIteration")->E (.ref x) { s with heap:=g' }) →
   z_ (m_ prog w) A (setField (.ref z) 0 .none) (λ_ s'=>E (.ref x) s') E { s with heap:=g }:=λg x Zg is kk=>by
  obtain⟨o,e1,e2⟩:=is;refine N1 Zg (by simp) λg' _ b'=>kk g' b' ⟨o,b'.extBut _ _ (λsame=>?_) e1,e2⟩
  rw[same,Zg] at e1;cases e1;simp at e2
 have f1:∀c o,c≠z->s.heap.get? c=some o->g1.get? c=some o:=λc o ne e=>b1.extBut _ _ ne e
 refine a_ ?_;rw[Qt,Qt,List.zipIdx_nil,QW];refine a_ (a_ (wpAny_onRaise (a_ (m:=Sd (.ref p)) ?_)));have P1:=ok.itAt P λo e=>f1 _ o D.i1z e
 have U1:=ok.sqAt qv λo e=>f1 _ o D.l1z e
 cases hx:xs[m]? with
 | none =>
  obtain⟨hh,ak⟩:=ee (.inl hx);exact ok.stop hh P1 U1 hx λg2 x b2 is=>jV g2 x (b2 _ _ D.i1z.symm Z1) is λg' b' jW=>ak g' x (λc o ne e=>b'.extBut _ _ ne.1 (b2 _ _ ne.2.2.1 (f1 c o ne.1 e))) jW
 | some x =>
  refine ok.item P1 U1 hx λg2 P2 b2=>e_ ?_
  have lN:NJ g2 aE c0 c1:=b2.extBut _ _ D.TOi1 (f1 _ _ D.TOz To);refine a_ (MB lN rfl (a_ (Rw lN λg3 jX b3=>a_ (MG (e_ ?_)))));replace jX:NJ g3 aE x c1:=jX;have f3:∀c o,c≠aE->c≠p->g1.get? c=some o->g3.get? c=some o:=λc o n1 n2 e=>b3.extBut _ _ n1 (b2.extBut _ _ n2 e)
  have Z3:Re g3 z ta aE .ellipsis:=f3 _ _ D.TOz.symm D.i1z.symm Z1;dsimp only;rw[QW];refine a_ (a_ (wpAny_onRaise (a_ (m:=Sd (.ref q)) ?_)));have Q3:=ok.itAt P' λo e=>f3 _ o D.TOi2.symm D.i12.symm (f1 _ o D.i2z e)
  have V3:=ok.sqAt U' λo e=>f3 _ o D.l2TO D.l2i1 (f1 _ o D.l2z e)
  cases hy:ys[n]? with
  | none =>
   obtain⟨hh,ak⟩:=ee (.inr hy);exact ok.stop hh Q3 V3 hy λg4 x b4 is=>jV g4 x (b4 _ _ D.i2z.symm Z3) is λg' b' jW=>ak g' x (λc o ne e=>b'.extBut _ _ ne.1 (b4 _ _ ne.2.2.2 (f3 c o ne.2.1 ne.2.2.1 (f1 c o ne.1 e)))) jW
  | some y =>
   refine ok.item Q3 V3 hy λg4 Q4 b4=>e_ ?_
   have lO:NJ g4 aE x c1:=b4.extBut _ _ D.TOi2 jX;refine a_ (MB lO rfl (a_ (Rw lO λg5 iD b5=>a_ (MG (e_ ?_)))));replace iD:NJ g5 aE x y:=iD;have f5:∀c o,c≠aE->c≠q->g3.get? c=some o->g5.get? c=some o:=λc o n1 n2 e=>b5.extBut _ _ n1 (b4.extBut _ _ n2 e)
   dsimp only;rw[forIn_nil];refine e_ (a_ (MB iD rfl (a_ (ON ?_))));have same:g5.objs.size=s.heap.objs.size:=b5.1.trans (b4.1.trans (b3.1.trans (b2.1.trans b1.1)));have Z5:Re g5 z ta aE .ellipsis:=f5 _ _ D.TOz.symm D.i2z.symm Z3;have lP:g5.objs.size≠z:=Om (F_ Z5);have Z6:Re (g5.push { cls:=.type "tuple", data:=.seq #[x,y] }) z ta aE .ellipsis:=c_ _ Z5;refine a_ (m:=Nk.SmallTypes.ownedTupleHandOut (.ref z) (.ref g5.objs.size)) (a_ (N1 Z6 (by simp) λg7 Z7 b7=>?_));refine N1 Z7 (by simp) λg8 Z8 b8=>e_ ?_
   replace Z8:Re g8 z ta aE (Nj g5.objs.size):=Z8;have f8:∀c o,c≠z->g5.get? c=some o->g8.get? c=some o:=λc o ne e=>b8.extBut _ _ ne (b7.extBut _ _ ne (c_ _ e))
   have T8:NJ g8 g5.objs.size x y:=b8.extBut _ _ lP (b7.extBut _ _ lP (s_ _ rfl));have gJ:g8.objs.size=g5.objs.size+1:=b8.1.trans (b7.1.trans (M8 ..));show Q (.done (.ret (.ref g5.objs.size))) { s with heap:=g8 };rw[same] at Z8 T8 gJ ⊢
   exact dF x y hx hy g8 ⟨gJ,T8⟩ Z8 (f8 _ _ D.TOz iD) ⟨ok.itAt P2 λo e=>f8 _ o D.i1z (f5 _ o D.TOi1.symm D.i12 (b3.extBut _ _ D.TOi1.symm e)),ok.itAt Q4 λo e=>f8 _ o D.i2z (b5.extBut _ _ D.TOi2.symm e)⟩
    λc o ne e=>f8 c o ne.1 (f5 c o ne.2.1 ne.2.2.2 (f3 c o ne.2.1 ne.2.2.1 (f1 c o ne.1 e)))
noncomputable abbrev zk1(k:Kd)(h:L4)(l1:i_):L4:=h.push { cls:=.type k.nm,data:=.fields #[.ref l1,.int 0 0] }
noncomputable abbrev zk2(k:Kd)(h:L4)(l1 l2:i_):L4:=(zk1 k h l1).push { cls:=.type k.nm,data:=.fields #[.ref l2,.int 0 0] }
noncomputable abbrev zk3(k:Kd)(h:L4)(l1 l2:i_):L4:=(zk2 k h l1 l2).push { cls:=.type "tuple", data:=.seq #[.ref h.objs.size,.ref (zk1 k h l1).objs.size] }
noncomputable abbrev zk4(k:Kd)(h:L4)(l1 l2:i_):L4:=(zk3 k h l1 l2).push { cls:=.type "tuple", data:=.seq #[.none,.none] }
noncomputable abbrev zk5(k:Kd)(h:L4)(l1 l2:i_):L4:=(zk4 k h l1 l2).push { cls:=.type "zip", data:=.fields #[.none,.bool false,.bool false,.ref (zk2 k h l1 l2).objs.size,.ref (zk3 k h l1 l2).objs.size] }
theorem DE(ok:KdOk k)(l1 l2:i_)(xs ys:Array b_):
  Meets (Nk.«zip.__new__» ⟨[.type "zip", .ref l1,.ref l2],[]⟩) (λ_ R s=>k.sq s.heap l1 xs/\k.sq s.heap l2 ys ∧
   ∀h',Re h' (s.heap.objs.size+4) (s.heap.objs.size+2) (s.heap.objs.size+3) .none->NJ h' (s.heap.objs.size+2) (.ref s.heap.objs.size) (.ref (s.heap.objs.size+1)) →
    NJ h' (s.heap.objs.size+3) .none .none->k.it h' s.heap.objs.size l1 0->k.it h' (s.heap.objs.size+1) l2 0->(∀c o,s.heap.get? c=some o->h'.get? c=some o)->R (.ok (.ret (.ref (s.heap.objs.size+4)))) { s with heap:=h' }):=
 .of_wp λprog w A R s h=>by
  obtain⟨hp,gn,dw,tk,os⟩:=s;obtain⟨dR,dY,h⟩:=h;have gK:=sub_zip;have ou:k.sq (d_.heap ⟨hp,gn,dw,tk,os⟩) l1 xs:=dR;have ow:k.sq (d_.heap ⟨zk1 k hp l1,gn,dw,tk,os⟩) l2 ys:=ok.sqAt dY λo e=>c_ _ e
  wp_walk using ok.iter ou,ok.iter ow
  refine⟨_,rfl,?_⟩;have z1:(zk1 k hp l1).objs.size=hp.objs.size+1:=M8 ..;have z2:(zk2 k hp l1 l2).objs.size=hp.objs.size+2:=by rw[M8,z1]
  have z3:(zk3 k hp l1 l2).objs.size=hp.objs.size+3:=by rw[M8,z2]
  have z4:(zk4 k hp l1 l2).objs.size=hp.objs.size+4:=by rw[M8,z3]
  have g5:(zk5 k hp l1 l2).get? (zk4 k hp l1 l2).objs.size=some { cls:=.type "zip", data:=.fields #[.none,.bool false,.bool false,.ref (zk2 k hp l1 l2).objs.size,.ref (zk3 k hp l1 l2).objs.size] }:=s_ _ rfl;have g4:(zk5 k hp l1 l2).get? (zk3 k hp l1 l2).objs.size=some { cls:=.type "tuple", data:=.seq #[.none,.none] }:=c_ _ (s_ _ rfl);have g3:(zk5 k hp l1 l2).get? (zk2 k hp l1 l2).objs.size=some { cls:=.type "tuple", data:=.seq #[.ref hp.objs.size,.ref (zk1 k hp l1).objs.size] }:=c_ _ (c_ _ (s_ _ rfl));have n2:k.it (zk2 k hp l1 l2) (zk1 k hp l1).objs.size l2 0:=ok.new;have n1:k.it (zk1 k hp l1) hp.objs.size l1 0:=ok.new;have i2:k.it (zk5 k hp l1 l2) (zk1 k hp l1).objs.size l2 0:=ok.itAt n2 λo e=>c_ _ (c_ _ (c_ _ e))
  have i1:k.it (zk5 k hp l1 l2) hp.objs.size l1 0:=ok.itAt n1 λo e=>c_ _ (c_ _ (c_ _ (c_ _ e)))
  show R (.ok (.ret (.ref (zk4 k hp l1 l2).objs.size))) { heap:=zk5 k hp l1 l2,gens:=gn,drawn:=dw,toks:=tk,os:=os };rw[z2,z3,z4] at g5;rw[z1,z2] at g3;rw[z3] at g4;rw[z1] at i2;rw[z4];exact h (zk5 k hp l1 l2) g5 g3 g4 i1 i2 λc o e=>c_ _ (c_ _ (c_ _ (c_ _ (c_ _ e))))
theorem AN(ok:KdOk k){xs ys:Array b_}{Q:b_->d_->Prop}(dR:k.sq s.heap l1 xs)(dY:k.sq s.heap l2 ys)(made:∀n h',n=s.heap.objs.size->Re h' (n+4) (n+2) (n+3) .none->NJ h' (n+2) (.ref n) (.ref (n+1))->NJ h' (n+3) .none .none->k.it h' n l1 0->k.it h' (n+1) l2 0->(∀c o,s.heap.get? c=some o->h'.get? c=some o)->Q (.ref (n+4)) { s with heap:=h' }):
  z_ (m_ prog w) A (call (type "zip") ([l1,l2].map b_.ref)) Q E s:=
 callType_new F.called_zip (by decide) (F.typeCall_zip_2 _ _) (F.newCall_zip_2 _ _) (λobj=>F.args_object_init_3 obj _ _) F.entry_zip_new (DE ok l1 l2 xs ys) ⟨dR,dY,λh' b1 b2 b3 b4 b5 b6=>⟨⟨_,b1,rfl⟩,made _ h' rfl b1 b2 b3 b4 b5 b6⟩⟩
end
section
variable{k:Kd}
noncomputable def Itz(rd:Hp->i_->List V->Prop)(l1 l2:i_):It:=
 ⟨λi H=>∃xs ys x y,rd H l1 xs/\rd H l2 ys/\xs[i]?=some x/\ys[i]?=some y,
  λi H v H'=>∃p x y,H p=none/\v=.ref p/\H'=upd H p (.tup [x,y])/\(∀xs,rd H l1 xs->xs[i]?=some x)/\(∀ys,rd H l2 ys->ys[i]?=some y),
  λi H=>∃xs ys,rd H l1 xs/\rd H l2 ys/\(xs.length<=i\/ys.length<=i)⟩
structure KdRd(K:PySem.W.Frag)(k:Kd)(rd:Hp->i_->List V->Prop):Prop where
 of:∀{X:Cx}{aa:List (i_×Obj)}{U:L2.St}{H:Hp}{s:d_}{a:i_}{xs:List V},X.K=K->Inv X aa U H s->rd H a xs->∃af:List b_,Vals xs af/\k.sq s.heap a af.toArray
 inj:∀{X:Cx}{aa:List (i_×Obj)}{U:L2.St}{H:Hp}{s:d_}{a:i_}{xs ys:List V},X.K=K->Inv X aa U H s->rd H a xs->rd H a ys->xs=ys
theorem BM(K:PySem.W.Frag):KdRd K kdL (λH a xs=>SqL K H a xs) where
 of:=λe I h=>by subst e;obtain⟨af,r,t,_⟩:=I.list h;exact⟨af,r,t.isList⟩
 inj:=λe I h h'=>by subst e;exact I.list_inj h h'
theorem zg(K:PySem.W.Frag):KdRd K kdT (λH a xs=>SqT K H a xs) where
 of:=λe I h=>by subst e;obtain⟨af,r,t,_⟩:=I.tuple h;exact⟨af,r,t⟩
 inj:=λe I h h'=>by subst e;exact I.tuple_inj h h'
theorem DI{P:B_}{w:J_}{K:PySem.W.Frag}{rd:Hp->i_->List V->Prop}(ok:KdOk k)(kr:KdRd K k rd){z TI TO i1 i2:i_}(D:Tk z TI TO i1 i2 l1 l2):
  Turn P w K (.Tuple bD x1 tp) (Itz rd l1 l2) [z,TI,TO,i1,i2] z (λi h=>Re h z TI TO .none/\NJ h TI (.ref i1) (.ref i2)/\(∃a b,NJ h TO a b)/\k.it h i1 l1 i/\k.it h i2 l2 i) where
 mem:=by simp
 obj:=λi h st b hb=>by
  obtain⟨a1,a2,⟨x,y,a3⟩,a4,a5⟩:=st;rw[n_,n_,n_,n_,q_] at hb
  rcases hb with rfl | rfl | rfl | rfl | rfl
  ·exact⟨_,a1,λv q=>by cases(show fields _=RK v from q)⟩
  ·exact⟨_,a2,λv q=>by cases(show seq _ _=RK v from q)⟩
  ·exact⟨_,a3,λv q=>by cases(show seq _ _=RK v from q)⟩
  ·exact ok.itObj a4
  ·exact ok.itObj a5
 keep:=λi h h' st kk=>by
  obtain⟨a1,a2,⟨x,y,a3⟩,a4,a5⟩:=st;exact⟨kk _ (by simp) _ a1,kk _ (by simp) _ a2,⟨x,y,kk _ (by simp) _ a3⟩,ok.itAt a4 λo e=>kk _ (by simp) o e,ok.itAt a5 λo e=>kk _ (by simp) o e⟩
 item:=by
  intro X hP hw hK hc i aa s U H E I hf st hg;subst hP hw;obtain⟨a1,a2,⟨av,bv,a3⟩,a4,a5⟩:=st;obtain⟨xs,ys,x,y,g1,g2,g3,g4⟩:=hg;obtain⟨af,r1,t1⟩:=kr.of hK I g1;obtain⟨bg,r2,t2⟩:=kr.of hK I g2;obtain⟨u1,e1,e2⟩:=r1.get g3;obtain⟨u2,e3,e4⟩:=r2.get g4;have hT:s.TypeIs (.ref z) "zip":=⟨_,a1,rfl⟩;unfold Nx;refine a_ (No (Mk (name:=NC "__next__") hT Nh (Mn Nh hT OV (uQ ok D a1 a2 a3 a4 a5 t1 t2 ?_ ?_) (OO _))))
  case refine_2 =>
   intro non;have f1:af.toArray[i]?=some u1:=by simpa using e1
   have f2:bg.toArray[i]?=some u2:=by simpa using e3
   rw[f1,f2] at non
   rcases non with non | non<;>cases non
  intro y1 y2 k1 k2 h' ⟨_,b5⟩ b1 b2 ⟨b3,b4⟩ b7;have f1:af.toArray[i]?=some u1:=by simpa using e1
  have f2:bg.toArray[i]?=some u2:=by simpa using e3
  rw[f1] at k1;cases k1;rw[f2] at k2;cases k2;refine⟨_,rfl,e_ ⟨.ref s.heap.objs.size,rfl,wpAny_letOwnedTupleGo_zip b1 λh2 c1 c2=>?_⟩⟩;have lt:∀{b o},s.heap.get? b=some o->b≠s.heap.objs.size:=λ{b o} e=>LW (F_ e)
  have dm:=lt a1;have lQ:=lt a2;have lR:=lt a3
  have kk:∀b u,b∉[z,TI,TO,i1,i2]->s.heap.get? b=some u->h2.get? b=some u:=λb u hb e=>by
   simp only[n_,M2,or_false,not_or] at hb;exact c2.extBut _ _ hb.1 (b7 b u ⟨hb.1,hb.2.2.1,hb.2.2.2.1,hb.2.2.2.2⟩ e)
  have pT:NJ h2 s.heap.objs.size u1 u2:=c2.extBut _ _ (LU dm) b5;have I1:Inv X aa U (upd H s.heap.objs.size (.tup [x,y])) { s with heap:=h2 }:=wL (t':=s.toks) I hf kk (A_ _) ⟨by show 2<=v_;rw[Mq];decide,[u1,u2],.cons e2 (.cons e4 .nil),⟨_,pT,rfl,_,rfl⟩⟩;have fr:=I.hok.fresh (A_ s.heap.objs.size);refine⟨.ref s.heap.objs.size,_,I1,rfl,⟨s.heap.objs.size,x,y,fr,rfl,rfl,λzs hz=>by rw[kr.inj hK I hz g1];exact g3,λzs hz=>by rw[kr.inj hK I hz g2];exact g4⟩,⟨c1,c2.extBut _ _ D.TIz (b7 _ _ ⟨D.TIz,D.TITO,D.TIi1,D.TIi2⟩ a2),⟨u1,u2,c2.extBut _ _ D.TOz b2⟩,ok.itAt b3 λo e=>c2.extBut _ _ D.i1z e,ok.itAt b4 λo e=>c2.extBut _ _ D.i2z e⟩,λb hb=>?_⟩;have jY:=(hf b hb).1
  have nb:b≠s.heap.objs.size:=by
   rw[n_,n_,n_,n_,q_] at hb
   rcases hb with rfl | rfl | rfl | rfl | rfl
   ·exact dm
   ·exact lQ
   ·exact lR
   ·exact LW (ok.itLt a4)
   ·exact LW (ok.itLt a5)
  rw[qx nb];exact jY
 done:=by
  intro X hP hw hK hc i aa s U H E I hf st hg;subst hP hw;obtain⟨a1,a2,⟨av,bv,a3⟩,a4,a5⟩:=st;obtain⟨xs,ys,g1,g2,g3⟩:=hg;obtain⟨af,r1,t1⟩:=kr.of hK I g1;obtain⟨bg,r2,t2⟩:=kr.of hK I g2;have dR:=r1.length;have dY:=r2.length;have hT:s.TypeIs (.ref z) "zip":=⟨_,a1,rfl⟩;unfold Nx;refine a_ (No (Mk (name:=NC "__next__") hT Nh (Mn Nh hT OV (uQ ok D a1 a2 a3 a4 a5 t1 t2 ?_ λ_=>⟨I.ok.hd hc,λh' e hk he=>?_⟩) (OO _))))
  ·intro y1 y2 k1 k2;have m1:=(Mj.mp k1).1;have m2:=(Mj.mp k2).1;simp at m1 m2;omega
  ·obtain⟨o,ho,gL⟩:=he;refine a_ (Od (T:= "StopIteration") (b:=true) ⟨o,ho,gL⟩ PV ?_);refine e_ ⟨rfl,t6 (t':=s.toks) I hf λb u hb e=>?_⟩;simp only[n_,M2,or_false,not_or] at hb;exact hk b u ⟨hb.1,hb.2.2.1,hb.2.2.2.1,hb.2.2.2.2⟩ e
 self:=λ_ _ _ _ _ st h=>Qu st.1 h
end
section
variable{B:BB}{a b c:L8}{es:List L8}{ga gb gc:M D}
noncomputable def iZip(K:PySem.W.Frag)(ta:TA):TI:=λU H R=>ta U H λvs H1=>(∃l1 l2 xs ys,vs=[.ref l1,.ref l2]/\SqL K H1 l1 xs/\SqL K H1 l2 ys/\R (Itz (λH a xs=>SqL K H a xs) l1 l2) H1)\/(∃l1 l2 xs ys,vs=[.ref l1,.ref l2]/\SqT K H1 l1 xs/\SqT K H1 l2 ys/\R (Itz (λH a xs=>SqT K H a xs) l1 l2) H1)
theorem Ag{k:Kd}{rd:Hp->i_->List V->Prop}(ok:KdOk k)(kr:KdRd X.K k rd){H:Hp}{s:d_}{R:It->Hp->Prop}{ys:List V}(I:Inv X aa U H s)(h1:rd H l1 xs)(h2:rd H l2 ys)(q:R (Itz rd l1 l2) H):
  z_ (m_ X.prog X.w) X.A (call (.type "zip") [.ref l1,.ref l2]) (λv s1=>z_ (m_ X.prog X.w) X.A (R9 v) (PIE X aa U (.Tuple bD x1 tp) R) X.xe s1) X.xe s:=by
 obtain⟨af,r1,t1⟩:=kr.of rfl I h1;obtain⟨bg,r2,t2⟩:=kr.of rfl I h2;refine AN ok t1 t2 λn h' hn a1 a2 a3 a4 a5 a6=>Qu a1 ?_
 subst hn;have I1:Inv X aa U H { s with heap:=h' }:=I.kept (t':=s.toks) a6;refine⟨s.heap.objs.size+4,[s.heap.objs.size+4,s.heap.objs.size+2,s.heap.objs.size+3,s.heap.objs.size,s.heap.objs.size+1],_,_,H,rfl,I1,DI ok kr (zipApart_new (ok.sqLt t1) (ok.sqLt t2)),⟨a1,a2,⟨_,_,a3⟩,a4,a5⟩,λb hb=>?_,q⟩;rw[n_,n_,n_,n_,q_] at hb;have up:∀n,FpOk X aa H (s.heap.objs.size+n):=λn=>I.fpOk (Mr _ _) (I.hok.fresh (Mr _ _))
 rcases hb with rfl | rfl | rfl | rfl | rfl
 ·exact up 4
 ·exact up 2
 ·exact up 3
 ·exact up 0
 ·exact up 1
theorem Ke{p:Pos}(hg:Gl X "zip")(hm:X.mg "zip"=none)(ha:PA X [a,b] ta)(hs:f_ [a,b] X.env=[(false,Mm a X.env),(false,Mm b X.env)]:=by rfl)(bO:f_ [b] X.env=[(false,Mm b X.env)]:=by rfl):
  PI X (.Tuple bD x1 tp) (.Call (.Name "zip" p) [a,b] [] pos) (iZip X.K ta):=by
 intro aa s U H R I h;refine Tb (rC I hg hm boot_zip (LZ (thn (ha pos aa s U H _ I h) λus s1 ⟨vs,H1,I1,r1,q1⟩=>?_) (by rw[hs,bO]) (by rw[bO];rfl)))
 rcases q1 with⟨l1,l2,xs,ys,e,h1,h2,q⟩ | ⟨l1,l2,xs,ys,e,h1,h2,q⟩
 ·subst e;obtain⟨u1,u2,rfl,e1,e2⟩:=r1.two;cases e1;cases e2;exact Ag r8 (BM _) I1 h1 h2 q
 ·subst e;obtain⟨u1,u2,rfl,e1,e2⟩:=r1.two;cases e1;cases e2;exact Ag yQ (zg _) I1 h1 h2 q
noncomputable def pairsD(xs ys:List D):List D:=(xs.zip ys).map λp=>.tup [p.1,p.2]
noncomputable def zipI(ds:List D):Option (List D):=match ds with
 | [.lst xs,.lst ys]=>some (pairsD xs ys)
 | [.tup xs,.tup ys]=>some (pairsD xs ys)
 | _=>none
theorem Bq{K:PySem.W.Frag}{rd:Hp->i_->List V->Prop}{ys:List V}{es:List D}(mono:∀{H a xs},Same I H->rd I a xs->rd H a xs)(inj:∀{H},Same I H->(∀zs,rd H l1 zs->zs=xs)/\(∀zs,rd H l2 zs->zs=ys)\/True)(h1:rd I l1 xs)(h2:rd I l2 ys)(i1:IsA K I ds xs)(i2:IsA K I es ys):Yields K I (pairsD ds es) (Itz rd l1 l2):=λi H s=>by
 have L1:=i1.length;have L2:=i2.length;refine⟨λd hd=>?_,λhi=>⟨xs,ys,mono s h1,mono s h2,?_⟩⟩
 ·unfold pairsD at hd;obtain⟨q,e1,rfl⟩:=getMap hd;obtain⟨e2,e3⟩:=P3.mp e1;obtain⟨x,f1,f2⟩:=i1.get e2;obtain⟨y,f3,f4⟩:=i2.get e3;refine⟨⟨xs,ys,x,y,mono s h1,mono s h2,f1,f3⟩,λv H2 hy=>?_⟩;obtain⟨p,x',y',g1,g2,g3,g4,g5⟩:=hy;have k1:=g4 xs (mono s h1);have k2:=g5 ys (mono s h2);rw[f1] at k1;cases k1;rw[f3] at k2;cases k2;exact .inr ⟨p,[q.1,q.2],[x,y],rfl,g2,g1,g3,IsA.cons f2 (IsA.cons f4 IsA.nil)⟩
 ·unfold pairsD at hi;rw[x_,Tl] at hi;omega
theorem yT{p:Pos}{t:M (List D)}(hg:Gl X "zip")(hm:X.mg "zip"=none)(ha:AD X B [a,b] t)(hs:f_ [a,b] X.env=[(false,Mm a X.env),(false,Mm b X.env)]:=by rfl)(bO:f_ [b] X.env=[(false,Mm b X.env)]:=by rfl):
  ITD X B (.Tuple bD x1 tp) (.Call (.Name "zip" p) [a,b] [] pos) (fn1 zipI t):=PI.imp (Ke hg hm ha hs bO) λU H R q=>by
 obtain⟨G,I,Z,ds,ah,r,e1,k⟩:=q;obtain⟨d,ae,e2,e3⟩:=pS e1;obtain⟨e4,rfl⟩:=qI e3;refine⟨G,I,Z,d,_,r,e2,λvs H1 I1 r1 g1 hd=>?_⟩;unfold zipI at e4;split at e4
 ·cases e4;obtain⟨x,y,rfl,hx,hy⟩:=hd.two;obtain⟨l1,xs,rfl,h1,h2⟩:=qJ hx;obtain⟨l2,ys,rfl,h3,h4⟩:=qJ hy;exact .inl ⟨l1,l2,xs,ys,rfl,(Same.rdK r1.iH h1).sq,(Same.rdK r1.iH h3).sq,k _ _ _ r1 g1 (Bq (λs h=>by rcases h with h | h;exact .inl (Same.rd s h);exact .inr h) (λ_=>.inr trivial) h1.sq h3.sq h2 h4)⟩
 ·cases e4;obtain⟨x,y,rfl,hx,hy⟩:=hd.two;obtain⟨l1,xs,rfl,h1,h2⟩:=qK hx;obtain⟨l2,ys,rfl,h3,h4⟩:=qK hy;exact .inr ⟨l1,l2,xs,ys,rfl,Same.sqT r1.iH h1,Same.sqT r1.iH h3,k _ _ _ r1 g1 (Bq (λs h=>Same.sqT s h) (λ_=>.inr trivial) h1 h3 h2 h4)⟩
 ·cases e4
section
variable {k:Kd}
theorem drawsK(ok:KdOk k){prog:B_}{w:J_}(hh:A.handled=none)(it l:i_)(gI:l≠it)(items:Array b_):Draws prog w A it [it,l] items.size (λi v=>items[i]?=some v) (λi h=>k.it h it l i/\k.sq h l items) where
 live:=λi h st=>by obtain⟨o,e,_⟩:=ok.itObj st.1;exact⟨o,e⟩
 frame:=λi h h' st kk=>⟨ok.itAt st.1 λo e=>kk _ (by simp) o e,ok.sqAt st.2 λo e=>kk _ (by simp) o e⟩
 item:=λi s Q E hi st hQ=>ok.item st.1 st.2 (x:=items[i]) (by simp[hi]) λh' h1 h2=>hQ _ h' s.toks (by simp[hi]) ⟨h1,ok.sqAt st.2 λo e=>h2.extBut _ _ gI e⟩ h2
 done:=λs Q E st hE=>ok.stop hh st.1 st.2 (by simp) hE
theorem Fq(ok:KdOk k)(l:i_)(items:Array b_):
  Meets (Nk.«enumerate.__new__» ⟨[.type "enumerate", .ref l],[]⟩) (λ_ R s=>k.sq s.heap l items ∧
   R (.ok (.ret (.ref (s.heap.push { cls:=.type k.nm,data:=.fields #[.ref l,.int 0 0] }).objs.size)))
    { s with heap:=(s.heap.push { cls:=.type k.nm,data:=.fields #[.ref l,.int 0 0] }).push { cls:=.type "enumerate", data:=.fields #[.none,.bool false,.ref s.heap.objs.size,Nj 0,.none,.none] } }):=
 .of_wp λprog w A R s h=>by
  obtain⟨hp,gn,dw,tk,os⟩:=s;obtain⟨hl,h⟩:=h;have gK:=sub_enumerate;have hL:k.sq (d_.heap ⟨hp,gn,dw,tk,os⟩) l items:=hl
  wp_walk using ok.iter hL
  refine wpAny_stack_any λframes=>e_ ?_
  split
  next c _ _ _ _ _=>cases c == type "enumerate"<;>(wp_walk using ok.iter hL;exact⟨_,rfl,h⟩)
  next=>wp_walk using ok.iter hL;exact⟨_,rfl,h⟩
end
end
section
variable{prog:B_}{w:J_}{E:b_->d_->Prop}{s:d_}{k:Kd}
noncomputable abbrev en1(k:Kd)(h:L4)(l:i_):L4:=h.push { cls:=.type k.nm,data:=.fields #[.ref l,.int 0 0] }
noncomputable abbrev en2(k:Kd)(h:L4)(l:i_):L4:=(en1 k h l).push { cls:=.type "enumerate", data:=.fields #[.none,.bool false,.ref h.objs.size,Nj 0,.none,.none] }
theorem Ds(ok:KdOk k){l:i_}{Q:b_->d_->Prop}(hL:k.sq s.heap l items)(made:∀n g,n=s.heap.objs.size->IsEnum g (n+1) n 0 .none->k.it g n l 0->(∀b o,s.heap.get? b=some o->g.get? b=some o)->Q (.ref (n+1)) { s with heap:=g }):
  z_ (m_ prog w) A (call (type "enumerate") ([l].map b_.ref)) Q E s:=by
 have bE:(en1 k s.heap l).objs.size=s.heap.objs.size+1:=M8 ..;have iE:(en2 k s.heap l).get? (en1 k s.heap l).objs.size=some _:=s_ _ rfl;rw[bE] at iE;refine callType_new F.called_enumerate (by decide) (F.typeCall_enumerate_1 _) (F.newCall_enumerate_1 _) (λobj=>F.args_object_init_2 obj _) F.entry_enumerate_new (Fq ok l items) ⟨hL,?_⟩;have put:Q (.ref (s.heap.objs.size+1)) { s with heap:=en2 k s.heap l }:=made _ _ rfl iE (ok.itAt ok.new λo e=>c_ _ e) λb o x=>c_ _ (c_ _ x)
 rw[←bE] at put iE;exact⟨⟨_,iE,rfl⟩,put⟩
end
section
variable{B:BB}{a b c:L8}{es:List L8}{ga gb gc:M D}{k:Kd}
noncomputable def Ite(rd:Hp->i_->List V->Prop)(l:i_):It:=
 ⟨λi H=>∃xs x,rd H l xs/\xs[i]?=some x,λi H v H'=>∃p x,H p=none/\v=.ref p/\H'=upd H p (.tup [.int i,x])/\(∀xs,rd H l xs->xs[i]?=some x),λi H=>∃xs,rd H l xs/\xs.length<=i⟩
theorem J9{P:B_}{w:J_}{K:PySem.W.Frag}{rd:Hp->i_->List V->Prop}(ok:KdOk k)(kr:KdRd K k rd){z it l:i_}(jZ:z≠it)(lS:l≠it)(ox:z≠l):
  Turn P w K (.Tuple bD x1 tp) (Ite rd l) [z,it] z (λi h=>(∃old,IsEnum h z it i old)/\k.it h it l i) where
 mem:=by simp
 obj:=λi h st b hb=>by
  obtain⟨⟨old,a1⟩,a2⟩:=st;rw[n_,q_] at hb
  rcases hb with rfl | rfl
  ·exact⟨_,a1,λv q=>by cases(show fields _=RK v from q)⟩
  ·exact ok.itObj a2
 keep:=λi h h' st kk=>by
  obtain⟨⟨old,a1⟩,a2⟩:=st;exact⟨⟨old,kk _ (by simp) _ a1⟩,ok.itAt a2 λo e=>kk _ (by simp) o e⟩
 item:=by
  intro X hP hw hK hc i aa s U H E I hf st hg;subst hP hw;obtain⟨⟨old,a1⟩,a2⟩:=st;obtain⟨xs,x,g1,g3⟩:=hg;obtain⟨af,r1,t1⟩:=kr.of hK I g1;obtain⟨u1,e1,e2⟩:=r1.get g3
  have aM:i < af.toArray.size:=by
   have:=(D_.mp e1).1;simpa using this
  have D:=drawsK ok (prog:=X.prog) (w:=X.w) (A:=X.A.in1) (I.ok.hd hc) it l lS af.toArray;refine wpAny_pyNext_enum_itemD D a1 ⟨a2,t1⟩ aM jZ (by simp[jZ,ox]) λy h' tk b0 b1 b2 b3 b4 b5=>?_
  have hy:y=u1:=by
   have eW:af.toArray[i]?=some u1:=by simpa using e1
   have lU:af.toArray[i]?=some y:=b0;rw[eW] at lU;cases lU;rfl
  subst hy;refine⟨.ref s.heap.objs.size,rfl,wpAny_letOwnedTupleGo_enum b1 λh2 c1 c2=>?_⟩;have dm:z≠s.heap.objs.size:=LW (F_ a1);have oy:it≠s.heap.objs.size:=LW (ok.itLt a2)
  have kk:∀b u,b∉[z,it]->s.heap.get? b=some u->h2.get? b=some u:=λb u hb e=>by
   simp only[n_,M2,or_false,not_or] at hb;exact c2.extBut _ _ hb.1 (b5 b u hb.1 hb.2 e)
  have pT:=c2.extBut _ _ (LU dm) b3;have I1:Inv X aa U (upd H s.heap.objs.size (.tup [.int i,x])) { s with heap:=h2,toks:=tk+1 }:=wL (t':=tk+1) I hf kk (A_ _) ⟨by show 2<=v_;rw[Mq];decide,[.int i tk,y],.cons ⟨_,rfl⟩ (.cons e2 .nil),⟨_,pT,rfl,_,rfl⟩⟩;have fr:=I.hok.fresh (A_ s.heap.objs.size);refine⟨.ref s.heap.objs.size,_,I1,rfl,⟨s.heap.objs.size,x,fr,rfl,rfl,λzs hz=>by rw[kr.inj hK I hz g1];exact g3⟩,⟨⟨y,c1⟩,ok.itAt b2.1 λo e=>c2.extBut _ _ jZ.symm e⟩,λb hb=>?_⟩;have jY:=(hf b hb).1
  have nb:b≠s.heap.objs.size:=by
   rw[n_,q_] at hb
   rcases hb with rfl | rfl
   ·exact dm
   ·exact oy
  rw[qx nb];exact jY
 done:=by
  intro X hP hw hK hc i aa s U H E I hf st hg;subst hP hw;obtain⟨⟨old,a1⟩,a2⟩:=st;obtain⟨xs,g1,g3⟩:=hg;obtain⟨af,r1,t1⟩:=kr.of hK I g1;have dR:=r1.length;have hT:s.TypeIs (.ref z) "enumerate":=⟨_,a1,rfl⟩;have hx:af.toArray[i]?=none:=by simp;omega
  unfold Nx;refine a_ (No (Mk (name:=NC "__next__") hT Rj (Mn Rj hT F.entry_enumerate_next (a_ (MV (a:=(b_.ref z,[])) rfl (a_ (MU (i:=2) a1 rfl (x:=.ref it) rfl ?_)))) (F.args_enumerate_next_1 _))));refine a_ (ok.stop (I.ok.hd hc) a2 t1 hx λh' x fP jO=>?_);obtain⟨o,ho,gL⟩:=jO;refine a_ (Od (T:= "StopIteration") (b:=true) ⟨o,ho,gL⟩ PV ?_);refine e_ ⟨rfl,t6 (t':=s.toks) I hf λb u hb e=>?_⟩;simp only[n_,M2,or_false,not_or] at hb;exact fP b u hb.2 e
 self:=λ_ _ _ _ _ st h=>by obtain⟨⟨old,a1⟩,_⟩:=st;exact Sx a1 h
noncomputable def iEnum(K:PySem.W.Frag)(ta:TA):TI:=λU H R=>ta U H λvs H1=>(∃l xs,vs=[.ref l]/\SqL K H1 l xs/\R (Ite (λH a xs=>SqL K H a xs) l) H1)\/(∃l xs,vs=[.ref l]/\SqT K H1 l xs/\R (Ite (λH a xs=>SqT K H a xs) l) H1)
theorem yI{rd:Hp->i_->List V->Prop}(ok:KdOk k)(kr:KdRd X.K k rd){H:Hp}{s:d_}{R:It->Hp->Prop}{l:i_}(I:Inv X aa U H s)(h1:rd H l xs)(q:R (Ite rd l) H):
  z_ (m_ X.prog X.w) X.A (call (.type "enumerate") [.ref l]) (λv s1=>z_ (m_ X.prog X.w) X.A (R9 v) (PIE X aa U (.Tuple bD x1 tp) R) X.xe s1) X.xe s:=by
 obtain⟨af,r1,t1⟩:=kr.of rfl I h1;refine Ds ok t1 λn h' hn a1 a4 a6=>Sx a1 ?_
 subst hn;have I1:Inv X aa U H { s with heap:=h' }:=I.kept (t':=s.toks) a6;have lt:=ok.sqLt t1;refine⟨s.heap.objs.size+1,[s.heap.objs.size+1,s.heap.objs.size],_,_,H,rfl,I1,J9 ok kr (OW _) (LW lt) (Om (N5 lt)),⟨⟨_,a1⟩,a4⟩,λb hb=>?_,q⟩;rw[n_,q_] at hb;have up:∀n,FpOk X aa H (s.heap.objs.size+n):=λn=>I.fpOk (Mr _ _) (I.hok.fresh (Mr _ _))
 rcases hb with rfl | rfl
 ·exact up 1
 ·exact up 0
theorem E3{p:Pos}(hg:Gl X "enumerate")(hm:X.mg "enumerate"=none)(ha:PA X [a] ta)(hs:f_ [a] X.env=[(false,Mm a X.env)]:=by rfl):
  PI X (.Tuple bD x1 tp) (.Call (.Name "enumerate" p) [a] [] pos) (iEnum X.K ta):=by
 intro aa s U H R I h;refine Tb (rC I hg hm boot_enumerate (LZ (thn (ha pos aa s U H _ I h) λus s1 ⟨vs,H1,I1,r1,q1⟩=>?_) hs rfl))
 rcases q1 with⟨l1,xs,e,h1,q⟩ | ⟨l1,xs,e,h1,q⟩
 ·subst e;obtain⟨u1,rfl,e1⟩:=r1.one;cases e1;exact yI r8 (BM _) I1 h1 q
 ·subst e;obtain⟨u1,rfl,e1⟩:=r1.one;cases e1;exact yI yQ (zg _) I1 h1 q
noncomputable def numD:Nat->List D->List D
 | _,[]=>[]
 | n,d::ds=>.tup [.int n,d]::numD (n+1) ds
theorem vM:∀{ds:List D}{n i:Nat}{d:D},(numD n ds)[i]?=some d->∃x,ds[i]?=some x/\d=.tup [.int ((n+i:Nat):Int),x]
 | [],n,i,d,h=>by rw[numD] at h;simp at h
 | c::ds,n,0,d,h=>by rw[numD] at h;simp at h;exact⟨c,rfl,h.symm⟩
 | c::ds,n,i+1,d,h=>by
  rw[numD] at h;obtain⟨x,e1,e2⟩:=vM (i:=i) (by simpa using h);refine⟨x,by simpa using e1,?_⟩;rw[e2,show n+1+i=n+(i+1) from by omega]
theorem AZ:∀(ds:List D) (n:Nat),(numD n ds).length=ds.length
 | [],n=>by rw[numD]
 | c::ds,n=>by rw[numD,Md,Md,AZ ds]
noncomputable def enumI(ds:List D):Option (List D):=match ds with
 | [.lst xs]=>some (numD 0 xs)
 | [.tup xs]=>some (numD 0 xs)
 | _=>none
theorem AG{K:PySem.W.Frag}{rd:Hp->i_->List V->Prop}{l:i_}(mono:∀{H a xs},Same I H->rd I a xs->rd H a xs)(h1:rd I l xs)(i1:IsA K I ds xs):Yields K I (numD 0 ds) (Ite rd l):=λi H s=>by
 refine⟨λd hd=>?_,λhi=>⟨xs,mono s h1,?_⟩⟩
 ·obtain⟨y,e1,rfl⟩:=vM hd;obtain⟨x,f1,f2⟩:=i1.get e1;refine⟨⟨xs,x,mono s h1,f1⟩,λv H2 hy=>?_⟩;obtain⟨p,x',g1,g2,g3,g4⟩:=hy;have k1:=g4 xs (mono s h1);rw[f1] at k1;cases k1;refine .inr ⟨p,_,[.int i,x],rfl,g2,g1,g3,IsA.cons ?_ (IsA.cons f2 IsA.nil)⟩;rw[N3];exact Is.int _
 ·rw[AZ,i1.length] at hi;exact hi
theorem E9{p:Pos}{t:M (List D)}(hg:Gl X "enumerate")(hm:X.mg "enumerate"=none)(ha:AD X B [a] t)(hs:f_ [a] X.env=[(false,Mm a X.env)]:=by rfl):
  ITD X B (.Tuple bD x1 tp) (.Call (.Name "enumerate" p) [a] [] pos) (fn1 enumI t):=PI.imp (E3 hg hm ha hs) λU H R q=>by
 obtain⟨G,I,Z,ds,ah,r,e1,k⟩:=q;obtain⟨d,ae,e2,e3⟩:=pS e1;obtain⟨e4,rfl⟩:=qI e3;refine⟨G,I,Z,d,_,r,e2,λvs H1 I1 r1 g1 hd=>?_⟩;unfold enumI at e4;split at e4
 ·cases e4;obtain⟨x,rfl,hx⟩:=hd.one;obtain⟨l1,xs,rfl,h1,h2⟩:=qJ hx;exact .inl ⟨l1,xs,rfl,(Same.rdK r1.iH h1).sq,k _ _ _ r1 g1 (AG (λs h=>by rcases h with h | h;exact .inl (Same.rd s h);exact .inr h) h1.sq h2)⟩
 ·cases e4;obtain⟨x,rfl,hx⟩:=hd.one;obtain⟨l1,xs,rfl,h1,h2⟩:=qK hx;exact .inr ⟨l1,xs,rfl,Same.sqT r1.iH h1,k _ _ _ r1 g1 (AG (λs h=>Same.sqT s h) h1 h2)⟩
 ·cases e4
noncomputable def blsD:List D->Option (List Bool)
 | []=>some []
 | .bl b::ds=>match blsD ds with
  | some bs=>some (b::bs)
  | none=>none
 | _=>none
theorem yS:∀{ds:List D}{bs:List Bool},blsD ds=some bs->ds=bs.map .bl
 | [],bs,h=>by rw[blsD] at h;cases h;rfl
 | .bl b::ds,bs,h=>by
  rw[blsD] at h;cases e:blsD ds with
  | none=>rw[e] at h;cases h
  | some cs=>rw[e] at h;cases h;rw[yS e];rfl
 | .non::_,_,h=>by cases h
 | .int _::_,_,h=>by cases h
 | .str _::_,_,h=>by cases h
 | .tup _::_,_,h=>by cases h
 | .lst _::_,_,h=>by cases h
 | .dct _::_,_,h=>by cases h
theorem Ab{K:PySem.W.Frag}{I:Hp}:∀{bs:List Bool}{xs:List V},IsA K I (bs.map .bl) xs->xs=bs.map .bl
 | [],xs,h=>h.nil_inv
 | b::bs,xs,h=>by
  obtain⟨x,r,rfl,h1,h2⟩:=h.cons_inv;rw[rm h1,Ab h2];rfl
theorem z8:∀{bs:List Bool}{us:List b_},Vals (bs.map .bl) us->us=bs.map .bool
 | [],us,h=>by cases h;rfl
 | b::bs,us,h=>by
  cases h with
  | cons r t=>rw[z8 t];cases r;rfl
theorem Dr(bs:List Bool):(Nq bs.length).any (λi=>bs.getD i true)=bs.any id:=by
 induction bs with
 | nil=>rfl
 | cons b bs ih =>
  rw[Md,OK,O3,List.any_map,O3]
  congr 1
theorem Cv(hc:X.calm=true):CallR X (.builtin "any") (λxs H Q=>∃(p:i_) (bs:List Bool),xs=[.ref p]/\SqL X.K H p (bs.map .bl)/\Q (.bl (bs.any id)) H):=by
 intro aa s U H xs us Q I r h;obtain⟨p,bs,rfl,hq,q⟩:=h;obtain⟨u,rfl,ru⟩:=vals1 r;cases ru;obtain⟨af,rv,t,hz⟩:=I.list hq;have:=z8 rv;subst this;have lt:p < s.heap.objs.size:=by obtain⟨_,e,_⟩:=t.isList;exact F_ e
 refine call_any_walk (N8 t.isList ?_);refine⟨s.heap.objs.size,_,_,_,_,_,λi=>bs.getD i true,rfl,SU.list (A:=X.A.in1) (I.ok.hd hc) s.heap.objs.size p (LW lt) _,⟨⟨_,s_ _ rfl,rfl,rfl⟩,t.isList.push _⟩,?_,?_⟩
 ·intro i v s' Q' E' hv hQ;have iF:(bs.map b_.bool)[i]?=some v:=by simpa using hv
  obtain⟨b,e1,rfl⟩:=getMap iF;have hQ:Q' (bs.getD i true) s':=hQ;rw[p_,e1] at hQ;exact Mx hQ
 ·intro h' tk kk;have e1:(bs.map b_.bool).toArray.size=bs.length:=by simp
  rw[e1,Dr];refine⟨.bl (bs.any id),H,I.kept λb o e=>kk b o (by simp only[q_];exact LW (F_ e)) (c_ _ e),rfl,q⟩
noncomputable def anyF(ds:List D):Option D:=match ds with
 | [.lst xs]=>match blsD xs with
  | some bs=>some (.bl (bs.any id))
  | none=>none
 | _=>none
theorem J4{p:Pos}{t:M (List D)}(hc:X.calm=true)(hg:Gl X "any")(hm:X.mg "any"=none)(ha:AD X B [e] t)(he:f_ [e] X.env=(false,Mm e X.env)::f_ [] X.env:=by rfl)(aC:(Mp pos (f_ [] X.env)).any (·.1)=false:=by rfl):
  ED X B (.Call (.Name "any" p) [e] [] pos) (fn1 anyF t):=sv (Cv hc) (λds d e B G I H U Z xs Q r h k=>by
 unfold anyF at e;split at e
 ·split at e
  ·rename_i bs eb;cases e;have:=yS eb;subst this;obtain⟨x,rfl,hx⟩:=h.one;obtain⟨q,zs,rfl,h3,h4⟩:=qJ hx;have:=Ab h4;subst this;exact⟨q,bs,rfl,(Same.rdK r.iH h3).sq,k.now r (Is.bl _)⟩
  ·cases e
 ·cases e) hg hm boot_any ha (by decide) (by decide) he aC
noncomputable def reprF(ds:List D):Option D:=match ds with
 | [.bl b]=>some (.str (if b then "True" else "False"))
 | _=>none
end
theorem CompScope.of{cD sc:OG}{N':List Str}(h:decide (sc.kind=.function/\(∀y∈sc.names,y.2≠.cell)/\(∀y∈sc.names,y.2=.local->sc.names.lookup y.1=some .local)/\(∀y∈sc.names,y.2=.free->cD.names.lookup y.1=some .cell\/cD.names.lookup y.1=some .free)/\N'.Nodup/\N'.length=m+N.length ∧
   (∀p∈(N'.drop m).zip N,((relab sc cD).names.lookup p.1=none)\/(p.1=p.2/\(relab sc cD).names.lookup p.1≠some .local)))=true):CompScope cD sc N N' m:=by
 obtain⟨h1,h2,h3,h4,h5,h6,h7⟩:=of_decide_eq_true h;exact⟨h1,h2,h3,h4,h5,h6,h7⟩
theorem Go{K:PySem.W.Frag}{H:Hp}{a:i_}{g:List R->Option (R×List R)}(lh:RdK K H a (ns.map V.int))(hg:∃rs,g [.val (.lst (ns.map D.int))]=some (.val (.bl true),rs)):spD K g [.ref a] H (λv _=>v=.bl true) λ_ _ _=>False:=by
 obtain⟨rs,hg⟩:=hg
 have lV:∀ns:List Int,IsA K H (ns.map D.int) (ns.map V.int):=λns=>by
  induction ns with
  | nil=>exact IsA.nil
  | cons n ns ih=>exact IsA.cons (Is.int n) ih
 refine⟨H,H,[.val (.lst (ns.map D.int))],.val (.bl true),rs,?_,rfl,hg,λv H' I' r g' hv=>rm (K:=K) (I:=I') hv⟩;refine⟨Same.refl _,Same.refl _,rfl,λi r e=>?_,λi j r r' v e e' m=>?_,λi ds e=>rfl⟩
 ·match i,e with
  | 0,e=>cases e;exact⟨_,rfl,Is.lst lh (lV ns)⟩
 ·match i,e with
  | 0,e=>cases e;cases m
noncomputable def hT(K:PySem.W.Frag)(H:Hp):Hp:=λb=>match OF K "few_of" with
 | some (_,P)=>if b=P then some (.tbl "few_of.<locals>.<lambda>") else H b
 | none=>H b
theorem xX{K:PySem.W.Frag}{H:Hp}{c P:i_}(h:OF K "few_of"=some (c,P)):hT K H P=some (.tbl "few_of.<locals>.<lambda>"):=by
 unfold hT;rw[h];exact if_pos rfl
theorem vm{K:PySem.W.Frag}{H:Hp}{b:i_}:hT K H b=H b\/∃c,OF K "few_of"=some (c,b):=by
 unfold hT;cases e:OF K "few_of" with
 | none=>exact .inl rfl
 | some q =>
  obtain⟨c,P⟩:=q;dsimp only;by_cases h:b=P
  ·subst h;exact .inr ⟨c,rfl⟩
  ·exact .inl (if_neg h)
theorem JA{P:B_}{w:J_}{K:PySem.W.Frag}{mb:Str->Option b_}{CX:CXT}{k:Nat}{a:i_}{x:Str}(KX:K.In aw.heap)(fK:aw.heap.Ns My mg)(hb:aw.heap.Ns OT mb)(oz:∀x:Str,x ≠ "__name__"->mb x=NZ x)(fA:aw.heap.NoLimit)(hg:aw.gens=#[])(oA:∃bm ob,mg "__builtins__"=some (.ref bm)/\bm≠OT/\aw.heap.get? bm=some ob/\ob.cls=.type "module"/\ob.dict=some OT/\ob.data=.plain)(dG:∀c P,OF K "few_of"=some (c,P)->PySem.W.CodeHd aw.heap c P/\aw.heap.get? P=some (PySem.W.tabObj #[]))(gM:noTabs K=true)(ha:aw.heap.get? a=some { cls:=.type "list", data:=.seq vs.toArray })(hi:M9 vs ns)(hl:ns.length<=v_)(hr:Room k RL)(F:∀base:L4,K.In base->base.Ns My mg->FnOk P w K mg base CX k fa fd [x] sp)(fc:∀(s:d_) (u:b_),So s fd ⟨[u],[]⟩ [(x,u)])(dD:∀H:Hp,RdK K H a (ns.map V.int)->sp [.ref a] H (λv _=>v=.bl true) λ_ _ _=>False)(j0:∀H e s',CX [] H aw (λ_ _ _=>False) e s'->False):
  Nw (m_ P w) RL (.call (.ref fa) ⟨[.ref a],[]⟩) (λr s'=>r=.ok (.ret (.bool true))/\OldK aw.heap s'.heap/\s'.os=aw.os/\P5 s'.gens) aw:=by
 have rv:=AL hi;have lW:=hi.length
 have oB:∀{c b:i_}{o:Obj},OF K "few_of"=some (c,b)->K.lookup b=some o->False:=λ{c b o} e lk=>by
  have e1:=KX b o lk;rw[(dG c b e).2] at e1;cases e1;have:=Na.mp gM (b,_) (PySem.W.mem_of_lookupK lk);exact absurd (show false=true from this) y_
 -- from an abstract heap in which nothing but the script and the table may be cX
 have jo:∀H0:Hp,Only H0->RdK K (hT K H0) a (ns.map V.int)->HOk P w (hT K H0) aw.heap->(∀b,H0 b≠none->b=a)->(H0 a≠none->K.lookup a=none) →
   Nw (m_ P w) RL (.call (.ref fa) ⟨[.ref a],[]⟩) (λr s'=>r=.ok (.ret (.bool true))/\OldK aw.heap s'.heap/\s'.os=aw.os/\P5 s'.gens) aw:=by
  intro H0 hO hS hok hA hK;obtain⟨H,eH⟩:∃H,H=hT K H0:=⟨_,rfl⟩;have j5:∀b,H b=H0 b\/∃c,OF K "few_of"=some (c,b):=λb=>by rw[eH];exact vm
  rw[←eH] at hS hok;have cz:∀{b:i_}{o:Obj},aw.heap.get? b=some o->H b=none->(hidT aw.heap H).get? b=some o:=λe n=>G9 e n
  have free:∀{b:i_}{o:Obj},aw.heap.get? b=some o->o.cls≠.type "list"\/(∀xs n,o.data≠.seq xs n)->o.cls≠.none\/(∀vs,o.data≠.fields vs)->H b=none:=λ{b o} e n1 n2=>by
   rcases j5 b with q | ⟨c,q⟩
   ·rw[q];cases z:H0 b with
    | none=>rfl
    | some u =>
     have e':b=a:=hA b (by rw[z];simp);subst e';rw[ha] at e;cases e
     rcases n1 with n1 | n1
     ·exact absurd rfl n1
     ·exact absurd rfl (n1 _ _)
   ·rw[(dG c b q).2] at e;cases e
    rcases n2 with n2 | n2
    ·exact absurd rfl n2
    ·exact absurd rfl (n2 _)
  have iG:∀{b:i_}{m:Str->Option b_},aw.heap.Ns b m->(hidT aw.heap H).Ns b m:=λ{b m} ⟨o,es,ep,e,d,r⟩=>⟨o,es,ep,cz e (free e (.inr λxs n z=>by rw[d] at z;cases z) (.inr λvs z=>by rw[d] at z;cases z)),d,r⟩
  have lX:K.In (hidT aw.heap H):=λb o e=>cz (KX b o e) (by
   rcases j5 b with q | ⟨c,q⟩
   ·rw[q];cases z:H0 b with
    | none=>rfl
    | some u =>
     have e':b=a:=hA b (by rw[z];simp);subst e';rw[hK (by rw[z];simp)] at e;cases e
   ·exact(oB q e).elim)
  have hM:Mod K mg (hidT aw.heap H):=⟨lX,iG fK,⟨mb,iG hb,oz⟩,let ⟨mc,h1,h2⟩:=fA;⟨mc,iG h1,h2⟩,by
   obtain⟨bm,ob,b1,b2,b3,b4,b5,b6⟩:=oA;exact⟨bm,ob,b1,b2,cz b3 (free b3 (.inl (by rw[b4];decide)) (.inl (by rw[b4];decide))),b4,b5,b6⟩,λc P q=>by
   obtain⟨o,vs,jp,tf,gN,tg,inF,jq,tt,e1,e2,e3,r⟩:=(dG c P q).1
   exact⟨o,vs,jp,tf,gN,tg,inF,jq,tt,cz e1 (free e1 (.inl (by rw[e2];decide)) (.inl (by rw[e2];decide))),e2,e3,r⟩⟩
  have e0:Env0 P w K mg (hidT aw.heap H) RL [] aw H:=⟨rfl,hM,λb o e=>HU e,Sw (HC _ _),trivial,λb hb=>absurd (show b∈([]:List i_) from hb) (by simp),hok,.of_eq hg,λc P q=>by rw[eH];exact xX q⟩;refine Oc ((F _ lX (iG fK)).run RL [] aw H ⟨[.ref a],[]⟩ [.ref a] [.ref a] _ _ hr e0 (fc aw (.ref a)) (.cons rfl .nil) (dD H hS)) λr s' h=>?_
  cases r with
  | error e=>exact(j0 H e s' h).elim
  | ok fl =>
   cases fl with
   | next=>exact TJ h
   | brk=>exact TJ h
   | cont=>exact TJ h
   | ret u =>
    obtain⟨v,H',os,bare,un,jr,r',q⟩:=h;have q':v=.bl true:=q;subst q';obtain rfl:u=b_.bool true:=r';refine⟨rfl,⟨λb o e=>?_,λb o e=>un.there b o e (by simp)⟩,os,bare⟩
    rcases j5 b with q | ⟨c,q⟩
    ·cases z:H0 b with
     | none=>exact .inl (un.keep b o e (by rw[q];exact z) (by intro z;exact absurd (show b∈([]:List i_) from z) (by simp)) (by simp))
     | some u =>
      rcases hO b with z' | ⟨ob,xs,z'⟩
      ·rw[z] at z';cases z'
      ·rw[←q] at z';have z2:=un.frzs b ob _ z';obtain⟨e1,_⟩:=hok b _ z';obtain⟨e2,_⟩:=jr b _ z2;rw[e] at e1;cases e1;exact .inl e2
    ·have z2:=un.tbls b _ (e0.tb c b q);obtain⟨ps,e2,_⟩:=jr b _ z2;obtain⟨⟨oc,gO,jp,tf,gN,tg,inF,jq,tt,c1,c2,c3,c4,_⟩,e3⟩:=dG c b q;rw[e3] at e;cases e;exact .inr (.inl ⟨⟨c,oc,gO,c1,c2,c3,c4⟩,rfl,#[],ps,rfl,by rw[Array.empty_append];exact e2⟩)
 have gP:∀{H0:Hp}{c b:i_},OF K "few_of"=some (c,b)->ObjOk P w (hT K H0) aw.heap b (.tbl "few_of.<locals>.<lambda>"):=λ{H0 c b} q=>⟨#[],(dG c b q).2,trivial,λpos cv z=>by cases z⟩
 have oC:∀{c:i_},OF K "few_of"≠some (c,a):=λ{c} q=>by
  have:=(dG c a q).2;rw[ha] at this;cases this
 cases hk:K.lookup a with
 | some o =>
  -- the script is one of the module's own objects
  have e:=KX a o hk;rw[ha] at e;cases e;refine jo (λ_=>none) (λ_=>.inl rfl) (.inr ⟨vs,_,hk,rv,by rw[lW];exact hl⟩) (λb u z=>?_) (λb z=>absurd rfl z) λz=>absurd rfl z
  rcases vm (K:=K) (H:=λ_=>none) (b:=b) with q | ⟨c,q⟩
  ·rw[q] at z;cases z
  ·rw[xX q] at z;cases z;exact gP q
 | none =>
  have aG:hT K (λb=>if b=a then some (.frz { cls:=.type "list", data:=.seq vs.toArray } (.lst (ns.map V.int))) else none) a=some (.frz { cls:=.type "list", data:=.seq vs.toArray } (.lst (ns.map V.int))):=by
   rcases vm (K:=K) (H:=λb=>if b=a then some (.frz { cls:=.type "list", data:=.seq vs.toArray } (.lst (ns.map V.int))) else none) (b:=a) with q | ⟨c,q⟩
   ·rw[q];exact if_pos rfl
   ·exact absurd q oC
  refine jo (λb=>if b=a then some (.frz { cls:=.type "list", data:=.seq vs.toArray } (.lst (ns.map V.int))) else none) (λb=>?_) (.inl (.inr ⟨_,aG⟩)) (λb u z=>?_) (λb z=>?_) λ_=>hk
  ·by_cases hb:b=a
   ·exact .inr ⟨_,_,if_pos hb⟩
   ·exact .inl (if_neg hb)
  ·rcases vm (K:=K) (H:=λb=>if b=a then some (.frz { cls:=.type "list", data:=.seq vs.toArray } (.lst (ns.map V.int))) else none) (b:=b) with q | ⟨c,q⟩
   ·rw[q] at z;by_cases hb:b=a
    ·have z':=(if_pos hb).symm.trans z;cases z';subst hb;exact⟨ha,by rw[x_];exact hl,vs,_,rv,ha⟩
    ·have z':=(if_neg hb).symm.trans z;cases z'
   ·rw[xX q] at z;cases z;exact gP q
  ·by_cases hb:b=a
   ·exact hb
   ·exact absurd (if_neg hb) z
theorem Iq{l:PySem.W.OpenLaw}{k:Nat}{q:B_}{XP:(Str->Option b_)->L4->Prop}{YP:J_->L4->Prop}{d:DefRec}{K:Params->PySem.W.Frag}{CX:J_->CXT}{sp:J_->Sp}{x:Str}(hn:l.most=some n)(oD:n<=v_)(gy:d.params.defaults=[])(hr:Room k RL)(cx:∃d',(recsOf q).find? (λe=>e.name == ("few_of":Str))=some d')(gM:∀p,noTabs (K p)=true)(hY:∀(w:J_) (h:L4),YP w h->(K w.params).In h)(F:∀(w:J_) (mg:Str->Option b_) (fa:i_) (h:L4),(K w.params).In h->h.Ns My mg->mg d.name=some (.ref fa) →
   ∃fd:PP,(∀(s:d_) (u:b_),So s fd ⟨[u],[]⟩ [(x,u)]) ∧
    ∀base:L4,(K w.params).In base->base.Ns My mg->FnOk l.prog w (K w.params) mg base (CX w) k fa fd [x] (sp w))(dD:∀(w:J_) (H:Hp) (a:i_) (ns:List Int),ns.length<=n->RdK (K w.params) H a (ns.map V.int)->sp w [.ref a] H (λv _=>v=.bl true) λ_ _ _=>False)(j0:∀(w:J_) (H:Hp) (s:d_) (e:b_) (s':d_),CX w [] H s (λ_ _ _=>False) e s'->False):
  PySem.W.WalkO q cC XP YP l.row.toRowW d [] (λf vs=>PySem.call f vs):=by
 refine Att.GG hn gy λw s₀ aw mg mb fa o pm cd bQ a vs ns G Y ho hd aW gz gA eN aM hg=>?_
 have KX:=hY w _ Y;obtain⟨fd,hb,hF⟩:=F w mg fa _ KX G.T.g gz;obtain⟨d',bj⟩:=cx;exact JA KX G.T.g G.T.b G.T.builtins G.T.nolimit hg G.T.bmain (λc P q=>PySem.W.tab_of G.T KX bj q) (gM _) gA eN (MY aM oD) hr hF hb (λH hS=>dD w H a ns aM hS) λH e s'=>j0 w H aw e s'
noncomputable def un1{α:Type}(F:D->Option α)(g:M D):M α:=bnd g λd=>lft (F d)
section
variable{B:BB}{ga:M D}
noncomputable def negI(d:D):Option D:=match d with
 | .int i=>some (.int (-i))
 | _=>none
theorem Gx:∀U H Q,tD X.K B (un1 negI ga) U H Q->tUn (rU λi=>.int (-i)) (tD X.K B ga) U H Q:=λU H Q q=>by
 obtain⟨G,I,Z,d,ah,r,e1,k⟩:=q;obtain⟨d1,ae,e2,e3⟩:=pS e1;obtain⟨e4,rfl⟩:=qI e3;unfold negI at e4;split at e4
 ·cases e4;exact⟨G,I,Z,_,_,r,e2,λv H1 I1 r1 g1 h1=>⟨_,qD h1,k _ _ _ r1 g1 (Is.int _)⟩⟩
 ·cases e4
theorem sd(ha:ED X B e ga):ED X B (.UnaryOp .USub e pos) (un1 negI ga):=PE.imp (FZ Gc ha) Gx
end
end DL
namespace PySem.SeqAt
def RcLtAt(A:Ni)(s:d_)(y x:b_)(b:Bool):Prop:=
 ∀(prog:B_) (w:J_) (E:b_->d_->Prop) (Q:b_->d_->Prop),Q (.bool b) s->z_ (m_ prog w) A (Rx .Lt y x) Q E s
noncomputable def ltFrom(e lt:Nat->Bool)(d:Bool):List Nat->Bool
 | []=>d
 | i::r=>if e i then ltFrom e lt d r else lt i
theorem Dl(u v:i_)(us vs:Array b_)(p q:Nat)(du dv:Option i_)(ku kv:Array (Option b_))(e lt:Nat->Bool):
  Meets (Nk.«tuple.__lt__» ⟨[.ref u,.ref v],[]⟩) (λA ak s=>(s.heap.get? u=some ⟨.type "tuple", du,.seq us p,ku⟩/\s.heap.get? v=some ⟨.type "tuple", dv,.seq vs q,kv⟩) ∧
    (∀j (h1:j < us.size) (h2:j < vs.size),TU A.in1 s us[j] vs[j] (e j)/\(e j=false->RcLtAt A.in1 s us[j] vs[j] (lt j)))/\ak (.ok (.ret (.bool (ltFrom e lt (decide (us.size < vs.size)) (Nq (min us.size vs.size)))))) s):=
 .of_wp λprog w A ak s given=>by
  obtain⟨hp,gn,dw,tk,os⟩:=s;obtain⟨⟨gu,gv⟩,gQ,lY⟩:=given;obtain⟨gR,hs⟩:∃gR:Nat->Prop,gR=λi=>ak (.ok (.ret (.bool (ltFrom e lt (decide (us.size < vs.size)) ((Nq (min us.size vs.size)).drop i))))) ⟨hp,gn,dw,tk,os⟩:=⟨_,rfl⟩
  have dF:=AutoSeq1.sub_tuple_tuple;have len:(us.toList.zip vs.toList).length=min us.size vs.size:=by rw[Tl];rfl
  wp_walk using Qk gu,Qk gv,wpAny_forIn_list _ (λleft eV now=>eV.1=none/\now=⟨hp,gn,dw,tk,os⟩/\∃i,left=(us.toList.zip vs.toList).drop i/\gR i) _
  case turn =>
   rintro⟨y,x⟩ left eV now ⟨aH,rfl,i,aF,say⟩
   have aG:i < min us.size vs.size:=by
    rw[←len];exact Nat.lt_of_not_le λno=>by rw[M0 no] at aF;exact List.cons_ne_nil _ _ aF
   have k1:i < us.size:=by omega
   have k2:i < vs.size:=by omega
   have cut:=LV (l:=us.toList.zip vs.toList) (i:=i) (len▸aG);rw[←aF,List.getElem_zip] at cut;obtain⟨yx,fB⟩:=List.cons.inj cut;obtain⟨rfl,rfl⟩:=Prod.mk.inj yx;rw[hs] at say;have jt:=LV (l:=Nq (min us.size vs.size)) (i:=i) (by simpa using aG);rw[Qi] at jt;rw[jt,ltFrom] at say;have two:=gQ i k1 k2;refine a_ (two.1 prog w _ _ ?_);cases like:e i with
   | true =>
    rw[like,if_pos rfl] at say
    wp_walk
    exact⟨rfl,rfl,i+1,fB,by rw[hs];exact say⟩
   | false =>
    rw[like,if_neg y_] at say;refine a_ (MZ (a_ (two.2 like prog w _ _ ?_)))
    wp_walk
    exact⟨_,rfl,say⟩
  case fin =>
   rintro⟨eV,_⟩ now ⟨aH,rfl,i,aF,say⟩;cases aH
   have past:min us.size vs.size<=i:=by
    rw[←len];exact Ry.mp aF.symm
   rw[hs] at say;rw[M0 (by simpa using past),ltFrom] at say
   wp_walk
   exact⟨_,rfl,by simpa[Nk.Tuple.tupleCompareSizes] using say⟩
  case h=>exact⟨rfl,rfl,0,rfl,by rw[hs];exact lY⟩
theorem RcLtAt.tuples{s:d_}{u v:i_}{us vs:Array b_}{e lt:Nat->Bool}(hu:s.heap.IsTuple u us)(hv:s.heap.IsTuple v vs)(room:A.units < NQ)(gQ:∀j (h1:j < us.size) (h2:j < vs.size),TU A.in1 s us[j] vs[j] (e j)/\(e j=false->RcLtAt A.in1 s us[j] vs[j] (lt j))):RcLtAt A s (.ref u) (.ref v) (ltFrom e lt (decide (us.size < vs.size)) (Nq (min us.size vs.size))):=by
 obtain⟨⟨_,du,_,ku⟩,gu,rfl,p,rfl⟩:=hu;obtain⟨⟨_,dv,_,kv⟩,gv,rfl,q,rfl⟩:=hv;exact λprog w E Q h=>richCompare_meets_room (op:=.Lt) ⟨_,gu,rfl⟩ ⟨_,gv,rfl⟩ F.slot_tuple_lt F.entry_tuple_lt (F.args_tuple_lt_2 _ _) (Dl u v us vs p q du dv ku kv e lt) ⟨⟨gu,gv⟩,gQ,b_.noConfusion,h⟩ room
theorem RcLtAt.int_int{s:d_}(a:Int)(t:Tok)(b:Int)(u:Tok):RcLtAt A s (.int a t) (.int b u) (decide (a < b)):=λprog w E Q h=>PyProof.Rows.lt_int h
end PySem.SeqAt
namespace DL
open PySem PySem.Spec PyProof.Rows L2
section
variable{B:BB}{a b c:L8}{es:List L8}
theorem uB:∀{xs:List V}{us:List b_},xs.length=us.length->(∀(i:Nat) x u,xs[i]?=some x->us[i]?=some u->RelV x u)->Vals xs us
 | [],[],_,_=>.nil
 | [],_::_,h,_=>by cases h
 | _::_,[],h,_=>by cases h
 | x::xs,u::us,h,k=>.cons (k 0 x u rfl rfl) (uB (Oe h) λi y v e f=>k (i+1) y v e f)
end
section
variable{B:BB}{a b c:L8}{es:List L8}{kr:Nat}
noncomputable def prD(p:Int×Int):D:=.tup [.int p.1,.int p.2]
open PySem.SeqAt in
end
end DL
namespace DL
open PySem PySem.W PyProof.Rows
structure Ord(lt:Nat->Nat->Bool):Prop where
 as:∀a b,lt a b=true->lt b a=false
 tr:∀a b c,lt b a=false->lt c b=false->lt c a=false
section
variable{lt:Nat->Nat->Bool}{s:d_}
def askIn(n:Nat)(lt:Nat->Nat->Bool):Nat->Nat->(Bool->d_->Prop)->d_->Prop:=λi j C s=>i < n/\j < n/\C (lt i j) s
noncomputable def gt(p:Array Nat)(i:Nat):Nat:=p.getD i 0
def Pm(n:Nat)(p:Array Nat):Prop:=p.Perm (Nq n).toArray
def Dn(lt:Nat->Nat->Bool)(p:Array Nat)(m:Nat):Prop:=∀i j,i < j->j < m->lt (gt p i) (gt p j)=false
def Up(lt:Nat->Nat->Bool)(p:Array Nat)(m:Nat):Prop:=∀i j,i < j->j < m->lt (gt p j) (gt p i)=false
def Eqs(lt:Nat->Nat->Bool)(p:Array Nat)(a b:Nat):Prop:=∀i j,a<=i->i < b->a<=j->j < b->lt (gt p i) (gt p j)=false
theorem Pm.size{p:Array Nat}(h:Pm n p):p.size=n:=by
 have:=h.size_eq;simpa using this
theorem Pm.bd{p:Array Nat}(h:Pm n p)(pos:0 < n)(i:Nat):gt p i < n:=by
 unfold gt;by_cases hi:i < p.size
 ·have:p[i]∈(Nq n).toArray:=h.mem_iff.mp (P9 hi);rw[TV,dif_pos hi];simpa using this
 ·rw[TV,dif_neg hi];exact pos
theorem uZ{p:Array Nat}{i:Nat}:gt p i=p[i]?.getD 0:=by
 unfold gt;exact M4 ..
theorem sA{p:Array Nat}{i:Nat}(hj:j<=p.size)(k:Nat):gt (Sy p i j) k=if i<=k/\k < j then gt p (i+j - 1 - k) else gt p k:=by
 rw[uZ,uZ,uZ];unfold Sy;rw[RQ hj];split<;>rfl
theorem yM{p:Array Nat}{cE d:Nat}(hs:cE < p.size)(hd:d<=cE)(k:Nat):gt (bubble p cE d) k=if k=cE - d then gt p cE else if cE - d < k/\k<=cE then gt p (k - 1) else gt p k:=by
 simp only[uZ];rw[getElem?_bubble hs d hd];split
 ·rfl
 ·split<;>rfl
theorem Pm.rev{p:Array Nat}(h:Pm n p)(i j:Nat):Pm n (Sy p i j):=trans (mirror_perm _ _ _ _) h
theorem uy{α:Type}{lZ:Nat->Nat->(Bool->d_->Prop)->d_->Prop}{Q:α->d_->Prop}{P:α->Prop}(hc:∀i j C,i < n->j < n->C (lt i j) s->lZ i j C s)(hq:∀a,P a->Q a s):∀t:KasT α,t.kasWp (askIn n lt) (λa _=>P a) s->t.kasWp lZ Q s
 | .ret a,h=>hq a h
 | .ask i j k,⟨h1,h2,h3⟩=>hc i j _ h1 h2 (uy hc hq (k (lt i j)) h3)
theorem ub{α β:Type}{t:KasT α}{f:α->KasT β}{P:α->Prop}{Q:β->Prop}(h:t.kasWp (askIn n lt) (λa _=>P a) s)(k:∀a,P a->(f a).kasWp (askIn n lt) (λb _=>Q b) s):(t.bind f).kasWp (askIn n lt) (λb _=>Q b) s:=by
 rw[KasT.kasWp_bind];exact uy (λi j C h1 h2 h3=>⟨h1,h2,h3⟩) (λa ha=>k a ha) t h
variable (O:Ord lt)(two:2<=n)
include O
theorem Ord.irr(a:Nat):lt a a=false:=by
 cases h:lt a a with
 | false=>rfl
 | true=>rw[←h];exact O.as a a h
theorem Ord.lt_le{a b c:Nat}(h1:lt a b=true)(h2:lt c b=false):lt a c=true:=by
 cases h:lt a c with
 | true=>rfl
 | false =>
  -- c<=a,b<=c
  have:=O.tr b c a h2 h;rw[this] at h1;cases h1
include two
theorem xT{p:Array Nat}(hp:Pm n p):∀(f m:Nat),1<=m->(kas_asc p f m).kasWp (askIn n lt) (λm' _=>m<=m'/\m'<=m+f/\(∀k,m<=k->k < m'->lt (gt p k) (gt p (k - 1))=false)/\(m' < m+f->lt (gt p m') (gt p (m' - 1))=true)) s
 | 0,m,_=>by
  rw[kas_asc];exact⟨A_ _,A_ _,λk h1 h2=>by omega,λh=>by omega⟩
 | f+1,m,hm=>by
  rw[kas_asc];refine⟨hp.bd (by omega) m,hp.bd (by omega) (m - 1),?_⟩;cases h:lt (p.getD m 0) (p.getD (m - 1) 0) with
  | true =>
   dsimp only;rw[if_pos rfl];exact⟨A_ _,by omega,λk h1 h2=>by omega,λ_=>h⟩
  | false =>
   dsimp only;rw[if_neg y_];refine uy (λi j C h1 h2 h3=>⟨h1,h2,h3⟩) (λm' h'=>?_) _ (xT hp f (m+1) (by omega));obtain⟨a1,a2,a3,a4⟩:=h';refine⟨by omega,by omega,λk h1 h2=>?_,λh'=>a4 (by omega)⟩;by_cases z:k=m
   ·rw[z];exact h
   ·exact a3 k (by omega) h2
omit two in
theorem Up.of_steps{p:Array Nat}{m':Nat}(hm:Up lt p m)(st:∀k,m<=k->k < m'->1<=k->lt (gt p k) (gt p (k - 1))=false):Up lt p m':=by
 intro i j
 induction j with
 | zero=>intro h;omega
 | succ j ih =>
  intro bw hj;by_cases z:j+1 < m
  ·exact hm i (j+1) bw z
  ·have s1:=st (j+1) (by omega) hj (by omega);rw[Nat.add_sub_cancel] at s1;by_cases e:i=j
   ·rw[e];exact s1
   ·exact O.tr _ _ _ (ih (by omega) (by omega)) s1
omit two O in
theorem Dn.up{p:Array Nat}(hm:m<=p.size)(h:Dn lt p m):Up lt (Sy p 0 m) m:=by
 intro i j bw hj;rw[sA hm,sA hm,if_pos ⟨Me _,hj⟩,if_pos ⟨Me _,by omega⟩];exact h _ _ (by omega) (by omega)
omit two O in
theorem Dn.turn{p:Array Nat}{a:Nat}(hm:m<=p.size)(h:Dn lt p m)(e:Eqs lt p a m):Dn lt (Sy p a m) m:=by
 intro i j bw hj;rw[sA hm,sA hm];by_cases h1:a<=i
 ·rw[if_pos ⟨h1,by omega⟩,if_pos ⟨by omega,hj⟩];exact e _ _ (by omega) (by omega) (by omega) (by omega)
 ·rw[if_neg (by omega)];by_cases h2:a<=j
  ·rw[if_pos ⟨h2,hj⟩];exact h _ _ (by omega) (by omega)
  ·rw[if_neg (by omega)];exact h _ _ bw hj
omit two in
theorem Dn.next{p:Array Nat}(h:Dn lt p m)(hm:1<=m)(st:lt (gt p (m - 1)) (gt p m)=false):Dn lt p (m+1):=by
 intro i j bw hj;by_cases z:j < m
 ·exact h i j bw z
 ·have:j=m:=by omega
  subst this;by_cases e:i=j - 1
  ·rw[e];exact st
  ·exact O.tr _ _ _ st (h i (j - 1) (by omega) (by omega))
theorem vf:∀(f:Nat) (p:Array Nat) (m q:Nat),Pm n p->1<=m->m+f<=n->q < m->Dn lt p m->Eqs lt p (m - (q+1)) m →
  (kas_desc f p m q).kasWp (askIn n lt) (λr _=>Pm n r.1/\1<=r.2.1/\r.2.1<=n/\r.2.2 < r.2.1/\Dn lt r.1 r.2.1/\Eqs lt r.1 (r.2.1 - (r.2.2+1)) r.2.1) s
 | 0,p,m,q,hp,h1,h2,h3,h4,h5=>by
  rw[kas_desc];exact⟨hp,h1,(by show m<=n;omega),h3,h4,h5⟩
 | f+1,p,m,q,hp,h1,h2,h3,h4,h5=>by
  rw[kas_desc]
  have one:∀(p':Array Nat),Pm n p'->Eqs lt p' (m+1 - (0+1)) (m+1):=λp' _ i j a b c d=>by
   have:i=m:=by omega
   have:j=m:=by omega
   subst i;subst j;exact O.irr _
  refine⟨hp.bd (by omega) m,hp.bd (by omega) (m - 1),?_⟩;cases h:lt (p.getD m 0) (p.getD (m - 1) 0) with
  | true =>
   dsimp only;rw[if_pos rfl];have st:lt (gt p (m - 1)) (gt p m)=false:=O.as _ _ h;split
   ·have sz:m<=p.size:=by rw[hp.size];omega
    refine vf f _ (m+1) 0 (hp.rev _ _) (by omega) (by omega) (by omega) (Dn.next O (h4.turn sz h5) h1 ?_) (one _ (hp.rev _ _));rw[sA sz,sA sz,if_pos ⟨by omega,by omega⟩,if_neg (by omega)];refine O.tr _ _ _ st ?_;exact h5 _ _ (by omega) (by omega) (by omega) (by omega)
   ·exact vf f _ (m+1) 0 hp (by omega) (by omega) (by omega) (Dn.next O h4 h1 st) (one _ hp)
  | false =>
   dsimp only;rw[if_neg y_];refine⟨hp.bd (by omega) (m - 1),hp.bd (by omega) m,?_⟩;cases h':lt (p.getD (m - 1) 0) (p.getD m 0) with
   | true =>
    dsimp only;rw[if_pos rfl];exact⟨hp,h1,(by show m<=n;omega),h3,h4,h5⟩
   | false =>
    dsimp only;rw[if_neg y_];refine vf f p (m+1) (q+1) hp (by omega) (by omega) (by omega) (Dn.next O h4 h1 h') λi j a b c d=>?_
    have up:∀i,m - (q+1)<=i->i < m->lt (gt p i) (gt p m)=false:=λi x y=>O.tr _ _ _ h' (h5 i (m - 1) x y (by omega) (by omega))
    have dn:∀i,m - (q+1)<=i->i < m->lt (gt p m) (gt p i)=false:=λi x y=>O.tr _ _ _ (h5 (m - 1) i (by omega) (by omega) x y) h
    by_cases zi:i=m
    ·by_cases zj:j=m
     ·rw[zi,zj];exact O.irr _
     ·rw[zi];exact dn j (by omega) (by omega)
    ·by_cases zj:j=m
     ·rw[zj];exact up i (by omega) (by omega)
     ·exact h5 i j (by omega) (by omega) (by omega) (by omega)
theorem z6{p:Array Nat}(hp:Pm n p)(h1:1<=m)(h2:m<=n)(h:Dn lt p m):(kas_tail3 m n p).kasWp (askIn n lt) (λr _=>1<=r.1/\r.1<=n/\Pm n r.2/\Up lt r.2 r.1) s:=by
 unfold kas_tail3;refine ub (xT O two (hp.rev 0 m) (n - m) m h1) λm' ⟨a1,a2,a3,_⟩=>?_
 have up:=h.up (by rw[hp.size];exact h2);exact⟨by omega,by omega,hp.rev 0 m,Up.of_steps O up λk x y _=>a3 k x y⟩
theorem yF{p:Array Nat}(hp:Pm n p)(h1:1<=m)(h2:m < n)(h:Dn lt p (m+1)):(kas_descPart m n p).kasWp (askIn n lt) (λr _=>1<=r.1/\r.1<=n/\Pm n r.2/\Up lt r.2 r.1) s:=by
 unfold kas_descPart;refine ub (vf O two (n - (m+1)) p (m+1) 0 hp (by omega) (by omega) (by omega) h λi j a b c d=>?_) λr ⟨b1,b2,b3,b4,b5,b6⟩=>?_
 ·have:i=m:=by omega
  have:j=m:=by omega
  subst i;subst j;exact O.irr _
 ·split
  ·exact z6 O two (b1.rev _ _) b2 b3 (b5.turn (by rw[b1.size];exact b3) b6)
  ·exact z6 O two b1 b2 b3 b5
theorem ww{p:Array Nat}(hp:Pm n p):(kas_count n p).kasWp (askIn n lt) (λr _=>1<=r.1/\r.1<=n/\Pm n r.2/\Up lt r.2 r.1) s:=by
 unfold kas_count;refine ub (xT O two hp (n - 1) 1 (A_ _)) λm ⟨a1,a2,a3,a4⟩=>?_
 have up1:Up lt p m:=Up.of_steps O (m:=1) (λi j x y=>by omega) λk x y z=>a3 k x y
 split
 ·exact⟨a1,by omega,hp,up1⟩
 ·rename_i ne;have ne:m≠n:=by simpa using ne
  have last:=a4 (by omega);split
  ·refine⟨hp.bd (by omega) 0,hp.bd (by omega) (m - 1),?_⟩;cases h:lt (p.getD 0 0) (p.getD (m - 1) 0) with
   | true =>
    dsimp only;rw[if_pos rfl];exact⟨a1,by omega,hp,up1⟩
   | false =>
    dsimp only;rw[if_neg y_]
    have all:Eqs lt p 0 m:=λi j x1 x2 y1 y2=>by
     -- the first is not less than the last,and they rise
     have l0:∀i,i < m->lt (gt p i) (gt p 0)=false:=λi x=>by
      by_cases z:i=0
      ·rw[z];exact O.irr _
      ·exact up1 0 i (by omega) x
     have lz:∀j,j < m->lt (gt p (m - 1)) (gt p j)=false:=λj x=>by
      by_cases z:j=m - 1
      ·rw[z];exact O.irr _
      ·exact up1 j (m - 1) (by omega) (by omega)
     -- i against j: i<=last<=first<=j,whichever
     have f1:lt (gt p i) (gt p (m - 1))=false:=O.tr _ _ _ h (l0 i x2);exact O.tr _ _ _ (lz j y2) f1
    have sz:m<=p.size:=by rw[hp.size];omega
    have all2:Dn lt (Sy p 0 m) m:=Dn.turn sz (λi j x y=>all i j (Me _) (by omega) (Me _) y) all;refine yF O two (hp.rev _ _) a1 (by omega) (Dn.next O all2 a1 ?_);rw[sA sz,sA sz,if_pos ⟨Me _,by omega⟩,if_neg (by omega)];refine O.tr _ _ _ (O.as _ _ last) ?_;exact all _ _ (Me _) (by omega) (Me _) (by omega)
  ·have:m=1:=by omega
   subst this;exact yF O two hp (A_ _) (by omega) (Dn.next O (λi j x y=>by omega) (A_ _) (O.as _ _ last))
theorem wz{p:Array Nat}{k:Nat}(hp:Pm n p)(hk:k < n)(up:Up lt p k):∀(f l r:Nat),l<=r->r<=k->r - l<=f->(∀i,i < l->lt (gt p k) (gt p i)=false)->(∀i,r<=i->i < k->lt (gt p k) (gt p i)=true) →
  (kas_place p k f l r).kasWp (askIn n lt) (λl' _=>l'<=k/\(∀i,i < l'->lt (gt p k) (gt p i)=false)/\∀i,l'<=i->i < k->lt (gt p k) (gt p i)=true) s
 | 0,l,r,h1,h2,h3,h4,h5=>by
  rw[kas_place];exact⟨by omega,h4,λi x y=>h5 i (by omega) y⟩
 | f+1,l,r,h1,h2,h3,h4,h5=>by
  rw[kas_place];split
  ·exact⟨by omega,h4,λi x y=>h5 i (by omega) y⟩
  ·refine⟨hp.bd (by omega) k,hp.bd (by omega) _,?_⟩;cases h:lt (p.getD k 0) (p.getD ((l+r) / 2) 0) with
   | true =>
    dsimp only;rw[if_pos rfl];refine wz hp hk up f l ((l+r) / 2) (by omega) (by omega) (by omega) h4 λi x y=>?_
    by_cases z:i=(l+r) / 2
    ·rw[z];exact h
    ·exact O.lt_le h (up _ _ (by omega) y)
   | false =>
    dsimp only;rw[if_neg y_];refine wz hp hk up f ((l+r) / 2+1) r (by omega) (by omega) (by omega) (λi x=>?_) h5;by_cases z:i=(l+r) / 2
    ·rw[z];exact h
    ·exact O.tr _ _ _ (up i ((l+r) / 2) (by omega) (by omega)) h
theorem yn:∀(f:Nat) (p:Array Nat) (k:Nat),Pm n p->Up lt p k->1<=k->k+f=n->(kas_bin f p k).kasWp (askIn n lt) (λp' _=>Pm n p'/\Up lt p' n) s
 | 0,p,k,hp,up,h1,h2=>by
  rw[kas_bin];have:k=n:=by omega
  subst this;exact⟨hp,up⟩
 | f+1,p,k,hp,up,h1,h2=>by
  rw[kas_bin];refine ub (wz O two hp (by omega) up k 0 k (Me _) (A_ _) (by omega) (λi h=>by omega) λi x y=>by omega) λl ⟨c1,c2,c3⟩=>?_
  refine yn f _ (k+1) (trans (bubble_perm _ _ _) hp) (λi j bw hj=>?_) (by omega) (by omega);have hk:k < p.size:=by rw[hp.size];omega
  rw[yM hk (by omega),yM hk (by omega),show k - (k - l)=l by omega];by_cases j1:j=l
  ·rw[if_pos j1,if_neg (by omega),if_neg (by omega)];exact c2 i (by omega)
  ·rw[if_neg j1];by_cases j2:l < j/\j<=k
   ·rw[if_pos j2];by_cases i1:i=l
    ·rw[if_pos i1];exact O.as _ _ (c3 (j - 1) (by omega) (by omega))
    ·rw[if_neg i1];by_cases i2:l < i/\i<=k
     ·rw[if_pos i2];exact up _ _ (by omega) (by omega)
     ·rw[if_neg i2];exact up _ _ (by omega) (by omega)
   ·rw[if_neg j2,if_neg (by omega),if_neg (by omega)];exact up _ _ bw (by omega)
theorem xJ:(Tn n).kasWp (askIn n lt) (λp _=>Pm n p/\Up lt p n) s:=by
 unfold Tn;refine ub (ww O two (p:=(Nq n).toArray) (Rf _)) λr ⟨a1,a2,a3,a4⟩=>?_
 split
 ·refine yn O two _ _ _ a3 ?_ (by omega) (by omega);rw[Nat.max_eq_left a1];exact a4
 ·have:r.1=n:=by omega
  rw[this] at a4;exact⟨a3,a4⟩
end
end DL
namespace DL
open PySem PySem.W PySem.Spec PyProof.Rows
section
variable{prog:B_}{w:J_}{E:b_->d_->Prop}{s:d_}
noncomputable def byP(vs:List b_)(p:Array Nat):List b_:=p.toList.map λi=>vs.getD i b_.none
theorem Bl(vs:List b_):byP vs (Nq vs.length).toArray=vs:=by
 unfold byP;refine P_ (by simp) λi h1 h2=>?_
 simp[h2]
theorem IF{p:Array Nat}(h:Pm vs.length p):(byP vs p).length=vs.length:=by
 unfold byP;rw[x_,LS,h.size]
def KeptBut(a:i_)(h h':L4):Prop:=∀b o,b≠a->h.get? b=some o->h'.get? b=some o
theorem CJ{a:i_}{e:Nat}{κ:SortKind}{lt:Nat->Nat->Bool}{P:PySem.Fin->d_->Prop}(ho:s.heap.get? a=some (Ml "list" vs.toArray e))(bY:vs.length < 64)(O:Ord lt)(kind:∀h' Q,KeptBut a s.heap h'->2<=vs.length->Q κ { s with heap:=h' }->z_ (m_ prog w) A (Tp vs.toArray) Q E { s with heap:=h' })(less:∀h' i j C,KeptBut a s.heap h'->i < vs.length->j < vs.length->C (lt i j) { s with heap:=h' }->z_ (m_ prog w) A (keyLt' κ (vs.getD i b_.none) (vs.getD j b_.none)) C (λ_ _=>False) { s with heap:=h' })(fin:∀p h' c,Pm vs.length p->Up lt p vs.length->KeptBut a s.heap h'->h'.get? a=some (Ml "list" (byP vs p).toArray c)->P (.done (.ret .none)) { s with heap:=h' }):
  z_ (m_ prog w) A (Nk.«list.sort» ⟨[.ref a],[]⟩) P E s:=by
 have line:64<=v_:=by rw[Mq];decide
 obtain⟨g1,cn⟩:∃g1,g1=s.heap.update a (M_ λ_=>(#[]:Array b_)):=⟨_,rfl⟩;obtain⟨e1,o1⟩:∃e1,g1.get? a=some (Ml "list" #[] e1):=⟨_,by rw[cn];exact Ny ho _⟩;have k1:KeptBut a s.heap g1:=λb o ne x=>by rw[cn];exact(C_ _ _ (LU ne)).trans x
 obtain⟨g2,cq⟩:∃g2,g2=(g1.push (Ml "tuple" vs.toArray 0)).push (Ml "list" #[] 0):=⟨_,rfl⟩;have o2:g2.get? a=some (Ml "list" #[] e1):=by rw[cq];exact c_ _ (c_ _ o1)
 have k2:KeptBut a s.heap g2:=λb o ne x=>by rw[cq];exact c_ _ (c_ _ (k1 b o ne x))
 have eu:∀fe,(2<=vs.length->fe=κ)->z_ (m_ prog w) A ((if vs.toArray.size < 2 then pure () else SR).run (mk' fe (vs.toArray.zip vs.toArray) #[] 7 none))
   (λr s'=>s'={ s with heap:=g2 }/\∃p,Pm vs.length p/\Up lt p vs.length/\(r_ r.2).map (·.2)=(byP vs p).toArray/\O4 r.2=none) E { s with heap:=g2 }:=λfe j6=>by
  rcases N4 vs.length 2 with cr | big
  ·rw[if_pos (by rw[l_];exact cr)];refine e_ ⟨rfl,(Nq vs.length).toArray,Rf _,λi j x y=>by omega,?_,rfl⟩;rw[Bl];show((vs.toArray.zip vs.toArray).map (·.2))=_;refine SS (by simp) λi h1 h2=>by simp
  ·rw[if_neg (by rw[l_];omega),j6 big];refine kat_run (ks:=vs) (vs:=vs) (G:=λp s'=>(Pm vs.length p/\Up lt p vs.length)/\s'={ s with heap:=g2 }) (Q:=λst s'=>s'={ s with heap:=g2 }/\∃p,Pm vs.length p/\Up lt p vs.length/\(r_ st).map (·.2)=(byP vs p).toArray/\O4 st=none) rfl big bY ?_ ?_
   ·rintro p st s' hz aR aH ⟨⟨hp,up⟩,rfl⟩;exact⟨rfl,p,hp,up,kat_snds rfl aR,aH⟩
   ·exact uy (P:=λp=>Pm vs.length p/\Up lt p vs.length) (λi j C h1 h2 h3=>less g2 i j C k2 h1 h2 h3) (λp hp=>⟨hp,rfl⟩) _ (xJ O big)
 rw[list_sort_plain];refine a_ (Q0 ho rfl (a_ (NK ho rfl ?_ (by rw[l_];omega) (Me _))));rw[←cn];refine a_ (O5 o1 rfl (a_ (ON (a_ (Os (LX ?_) (Me _))) (by show vs.length<=_;omega))));show z_ (m_ prog w) A _ P E { s with heap:=(g1.push (Ml "tuple" vs.toArray 0)).push (Ml "list" #[] 0) };rw[←cq];dsimp only
 rcases N4 vs.length 2 with cr | big
 all_goals
  first
   | (rw[if_pos (by rw[l_];exact cr)];refine a_ (e_ ?_);have step:=eu general' λh=>by omega)
   | (rw[if_neg (by rw[l_];omega)];refine a_ (kind g2 _ k2 big ?_);have step:=eu κ λ_=>rfl)
  refine a_ (Mz step (λr s' h=>?_) λ_ _ x=>x);obtain⟨rfl,p,hp,up,aR,aH⟩:=h;rw[aR,aH];refine a_ (O5 o2 rfl (a_ (NK o2 rfl ?_ (Me _) ?_)))
  ·dsimp only;rw[bne_self_eq_false,if_neg y_];exact e_ (fin p _ _ hp up (λb o ne x=>(C_ _ _ (LU ne)).trans (k2 b o ne x)) (Ny o2 λ_=>(byP vs p).toArray))
  ·show(byP vs p).toArray.size<=_;rw[l_,IF hp];omega
theorem wH{l:i_}{κ:SortKind}{lt:Nat->Nat->Bool}{Q:b_->d_->Prop}(bY:vs.length < 64)(O:Ord lt)(col:∀Q':List b_->d_->Prop,(∀h' tk,(∀b o,s.heap.get? b=some o->h'.get? b=some o)->s.heap.objs.size<=h'.objs.size->Q' vs { s with heap:=h',toks:=tk })->z_ (m_ prog w) A.in1 (S8 (.ref l)) Q' E s)(kind:∀h' tk Q,(∀b o,s.heap.get? b=some o->h'.get? b=some o)->2<=vs.length->Q κ { s with heap:=h',toks:=tk }->z_ (m_ prog w) A.in1.in1 (Tp vs.toArray) Q (λ_ _=>False) { s with heap:=h',toks:=tk })(less:∀h' tk i j C,(∀b o,s.heap.get? b=some o->h'.get? b=some o)->i < vs.length->j < vs.length->C (lt i j) { s with heap:=h',toks:=tk }->z_ (m_ prog w) A.in1.in1 (keyLt' κ (vs.getD i b_.none) (vs.getD j b_.none)) C (λ_ _=>False) { s with heap:=h',toks:=tk })(fin:∀p h' tk D c,Pm vs.length p->Up lt p vs.length->(∀b o,s.heap.get? b=some o->h'.get? b=some o)->s.heap.objs.size<=D->h'.get? D=some (Ml "list" (byP vs p).toArray c)->Q (.ref D) { s with heap:=h',toks:=tk }):
  z_ (m_ prog w) A (call (.builtin "sorted") [b_.ref l]) Q E s:=by
 have line:64<=v_:=by rw[Mq];decide
 refine P4 SZ Sz SA (args_sorted1 _) ?_;refine a_ (m:=Tq "sorted" 1 1 _) (e_ (a_ (col _ λg tk kg above=>a_ (Os ?_ (by omega)))));have aF:(g.push (Ml "list" vs.toArray 0)).get? g.objs.size=some (Ml "list" vs.toArray 0):=s_ _ rfl
 have old:∀(h':L4),KeptBut g.objs.size (g.push (Ml "list" vs.toArray 0)) h'->∀b o,s.heap.get? b=some o->h'.get? b=some o:=λh' k b o x =>
  k b o (LW (H_ (F_ x) above)) (c_ _ (kg b o x))
 refine a_ (LX (Mn Pw ⟨_,aF,rfl⟩ Pk ?_ (args_list_sort _)));refine CJ (s:={ s with heap:=g.push (Ml "list" vs.toArray 0),toks:=tk }) (lt:=lt) (κ:=κ) aF bY O (λh' Q' k two q=>Mz (kind h' tk Q' (old h' k) two q) (λ_ _ x=>x) λ_ _ x=>x.elim) (λh' i j C k=>less h' tk i j C (old h' k)) λp h' c hp up k aG=>?_
 exact⟨_,rfl,e_ ⟨_,rfl,fin p h' tk _ c hp up (old h' k) above aG⟩⟩
end
end DL
namespace DL
open PySem PySem.W PySem.Spec PyProof.Rows L2
noncomputable def rk:D->Nat
 | .non=>0
 | .bl _=>1
 | .int _=>2
 | .str _=>3
 | .tup _=>4
 | .lst _=>5
 | .dct _=>6
noncomputable def cI(a b:Int):Ordering:=if a < b then .lt else if b < a then .gt else .eq
mutual
noncomputable def cO:D->D->Ordering
 | .int a,.int b=>cI a b
 | .tup xs,.tup ys=>cOA xs ys
 | a,b=>cI (rk a) (rk b)
noncomputable def cOA:List D->List D->Ordering
 | [],[]=>.eq
 | [],_::_=>.lt
 | _::_,[]=>.gt
 | x::xs,y::ys=>(cO x y).then (cOA xs ys)
end
theorem sU(a b:Int):cI b a=(cI a b).swap:=by
 unfold cI;by_cases h1:a < b
 ·rw[if_pos h1,if_neg (by omega),if_pos h1];rfl
 ·by_cases h2:b < a
  ·rw[if_pos h2,if_neg h1,if_pos h2];rfl
  ·rw[if_neg h2,if_neg h1,if_neg h1,if_neg h2];rfl
theorem Bh{a b:D}(h:rk a≠rk b):cO a b=cI (rk a) (rk b):=by
 cases a<;>cases b<;>first | rfl | (exact absurd rfl h) | (simp[cO];done)
mutual
theorem yi:∀a b:D,cO b a=(cO a b).swap
 | .int a,b=>by
  cases b<;>simp only[cO]<;>exact sU _ _
 | .tup xs,b=>by
  cases b<;>simp only[cO]<;>first | exact sU _ _ | exact A9 _ _
 | .non,b=>by cases b<;>simp only[cO]<;>exact sU _ _
 | .bl _,b=>by cases b<;>simp only[cO]<;>exact sU _ _
 | .str _,b=>by cases b<;>simp only[cO]<;>exact sU _ _
 | .lst _,b=>by cases b<;>simp only[cO]<;>exact sU _ _
 | .dct _,b=>by cases b<;>simp only[cO]<;>exact sU _ _
theorem A9:∀xs ys:List D,cOA ys xs=(cOA xs ys).swap
 | [],[]=>by simp[cOA]
 | [],_::_=>by simp[cOA]
 | _::_,[]=>by simp[cOA]
 | x::xs,y::ys=>by
  rw[cOA,cOA,yi x y,A9 xs ys];cases cO x y<;>rfl
end
noncomputable def dl(a b:D):Bool:=cO a b == .lt
noncomputable def dlA(xs ys:List D):Bool:=cOA xs ys == .lt
theorem wT(a b:Int):(cI a b == Ordering.lt)=decide (a < b):=by
 unfold cI;by_cases h1:a < b
 ·rw[if_pos h1];simp[h1]
 ·rw[if_neg h1];split<;>simp[h1]
theorem sE{a b:Int}:dl (.int a) (.int b)=decide (a < b):=by
 unfold dl;rw[cO,wT]
theorem tx{xs:List D}:dl (.tup xs) (.tup ys)=dlA xs ys:=by
 unfold dl dlA;rw[cO]
theorem vK:dlA [] []=false:=by unfold dlA;simp[cOA]
theorem t5{y:D}:dlA [] (y::ys)=true:=by unfold dlA;simp[cOA]
theorem uo{y:D}:dlA (y::ys) []=false:=by unfold dlA;simp[cOA]
theorem ut{x y:D}{xs:List D}:dlA (x::xs) (y::ys)=(dl x y||(!dl y x&&dlA xs ys)):=by
 unfold dlA dl;rw[cOA,yi x y];cases cO x y<;>simp[Ordering.then,Ordering.swap]
theorem AF{a b:D}(h:rk a < rk b):dl a b=true:=by
 unfold dl;rw[Bh (LW h),wT];simp;omega
theorem IP{a b:D}(h:rk b < rk a):dl a b=false:=by
 unfold dl;rw[Bh (Om h),wT];simp;omega
theorem t9{a b:D}(h:rk a=rk b)(h1:rk a≠2)(h2:rk a≠4):dl a b=false:=by
 unfold dl;cases a<;>cases b<;>first | (simp[rk] at h;done) | (exact absurd rfl h1) | (exact absurd rfl h2) | (simp[cO,cI,rk];done)
mutual
theorem uE:∀a b c:D,dl b a=false->dl c b=false->dl c a=false:=λa b c h1 h2=>by
 have r1:rk a<=rk b:=Qp λh=>by rw[AF h] at h1;cases h1
 have r2:rk b<=rk c:=Qp λh=>by rw[AF h] at h2;cases h2
 rcases N4 (rk a) (rk c) with h | h
 ·exact IP h
 ·have e1:rk b=rk a:=by omega
  have e2:rk c=rk a:=by omega
  match a,b,c with
  | .int a,.int b,.int c =>
   rw[sE] at h1 h2 ⊢;simp at h1 h2 ⊢;omega
  | .tup xs,.tup ys,.tup zs =>
   rw[tx] at h1 h2 ⊢;exact zN xs ys zs h1 h2
  | .non,_,_=>exact t9 e2 (by rw[e2];decide) (by rw[e2];decide)
  | .bl _,_,_=>exact t9 e2 (by rw[e2];simp[rk]) (by rw[e2];simp[rk])
  | .str _,_,_=>exact t9 e2 (by rw[e2];simp[rk]) (by rw[e2];simp[rk])
  | .lst _,_,_=>exact t9 e2 (by rw[e2];simp[rk]) (by rw[e2];simp[rk])
  | .dct _,_,_=>exact t9 e2 (by rw[e2];simp[rk]) (by rw[e2];simp[rk])
termination_by a b c=>sizeOf a+sizeOf b+sizeOf c
decreasing_by all_goals (simp_wf;omega)
theorem zN:∀xs ys zs:List D,dlA ys xs=false->dlA zs ys=false->dlA zs xs=false
 | [],_,[],_,_=>vK
 | [],_,z::zs,_,_=>uo
 | x::xs,[],_,h1,_=>by rw[t5] at h1;cases h1
 | x::xs,y::ys,[],_,h2=>by rw[t5] at h2;cases h2
 | x::xs,y::ys,z::zs,h1,h2=>by
  simp only[ut,Bool.or_eq_false_iff,Bool.and_eq_false_iff,Ql] at h1 h2 ⊢;obtain⟨a1,a2⟩:=h1;obtain⟨b1,b2⟩:=h2;refine⟨uE x y z a1 b1,?_⟩;cases hx:dl x z with
  | true=>exact .inl rfl
  | false =>
   right
   rcases a2 with a2 | a2
   ·have:=uE y z x b1 hx;rw[a2] at this;cases this
   ·rcases b2 with b2 | b2
    ·have:=uE z x y hx a1;rw[b2] at this;cases this
    ·exact zN xs ys zs a2 b2
termination_by xs ys zs=>sizeOf xs+sizeOf ys+sizeOf zs
decreasing_by all_goals (simp_wf;omega)
end
theorem Bj(a b:D)(h:dl a b=true):dl b a=false:=by
 unfold dl at h ⊢;rw[yi a b];cases e:cO a b<;>rw[e] at h<;>first | rfl | (cases h;done)
theorem v7(ds:List D):Ord λi j=>dl (ds.getD i .non) (ds.getD j .non):=⟨λa b h=>Bj _ _ h,λa b c h1 h2=>uE _ _ _ h1 h2⟩
mutual
noncomputable def cmB:D->D->Bool
 | .int _,.int _=>true
 | .tup xs,.tup ys=>cmA xs ys
 | _,_=>false
noncomputable def cmA:List D->List D->Bool
 | x::xs,y::ys=>cmB x y&&cmA xs ys
 | _,_=>true
end
mutual
theorem u6:∀a b:D,cmB a b=true->deq a b=(!dl a b&&!dl b a)
 | .int a,.int b,_=>by
  rw[sE,sE];by_cases h:a=b
  ·simp[deq,h]
  ·rcases Int.lt_or_gt_of_ne h with h' | h'
   ·simp[deq,h,h']
   ·simp[deq,h,h']
 | .tup xs,.tup ys,h=>by
  rw[cmB] at h;rw[deq,tx,tx];exact AO xs ys h
 | .non,_,h=>by simp[cmB] at h
 | .bl _,_,h=>by simp[cmB] at h
 | .str _,_,h=>by simp[cmB] at h
 | .lst _,_,h=>by simp[cmB] at h
 | .dct _,_,h=>by simp[cmB] at h
 | .int _,.dct _,h=>by simp[cmB] at h
 | .tup _,.dct _,h=>by simp[cmB] at h
 | .int _,.non,h=>by simp[cmB] at h
 | .int _,.bl _,h=>by simp[cmB] at h
 | .int _,.str _,h=>by simp[cmB] at h
 | .int _,.tup _,h=>by simp[cmB] at h
 | .int _,.lst _,h=>by simp[cmB] at h
 | .tup _,.non,h=>by simp[cmB] at h
 | .tup _,.bl _,h=>by simp[cmB] at h
 | .tup _,.str _,h=>by simp[cmB] at h
 | .tup _,.int _,h=>by simp[cmB] at h
 | .tup _,.lst _,h=>by simp[cmB] at h
theorem AO:∀xs ys:List D,cmA xs ys=true->deqA xs ys=(!dlA xs ys&&!dlA ys xs)
 | [],[],_=>by simp[deqA,vK]
 | [],_::_,_=>by simp[deqA,t5,uo]
 | _::_,[],_=>by simp[deqA,t5,uo]
 | x::xs,y::ys,h=>by
  rw[cmA,M'] at h;rw[deqA,u6 x y h.1,AO xs ys h.2,ut,ut];cases h1:dl x y<;>cases h2:dl y x<;>simp
end
mutual
theorem yD:∀a b:D,cmB a b=true->deq a b=true->a=b
 | .int a,.int b,_,h=>by simp[deq] at h;rw[h]
 | .tup xs,.tup ys,c,h=>by
  rw[cmB] at c;rw[deq] at h;rw[yV xs ys c h]
 | .non,_,h,_=>by simp[cmB] at h
 | .bl _,_,h,_=>by simp[cmB] at h
 | .str _,_,h,_=>by simp[cmB] at h
 | .lst _,_,h,_=>by simp[cmB] at h
 | .dct _,_,h,_=>by simp[cmB] at h
 | .int _,.dct _,h,_=>by simp[cmB] at h
 | .tup _,.dct _,h,_=>by simp[cmB] at h
 | .int _,.non,h,_=>by simp[cmB] at h
 | .int _,.bl _,h,_=>by simp[cmB] at h
 | .int _,.str _,h,_=>by simp[cmB] at h
 | .int _,.tup _,h,_=>by simp[cmB] at h
 | .int _,.lst _,h,_=>by simp[cmB] at h
 | .tup _,.non,h,_=>by simp[cmB] at h
 | .tup _,.bl _,h,_=>by simp[cmB] at h
 | .tup _,.str _,h,_=>by simp[cmB] at h
 | .tup _,.int _,h,_=>by simp[cmB] at h
 | .tup _,.lst _,h,_=>by simp[cmB] at h
theorem yV:∀xs ys:List D,cmA xs ys=true->deqA xs ys=true->xs=ys
 | [],[],_,_=>rfl
 | [],_::_,_,h=>by simp[deqA] at h
 | _::_,[],_,h=>by simp[deqA] at h
 | x::xs,y::ys,c,h=>by
  rw[cmA,M'] at c;rw[deqA,M'] at h;rw[yD x y c.1 h.1,yV xs ys c.2 h.2]
end
open PySem.SeqAt in
theorem Aw(e lt:Nat->Bool)(d:Bool)(f:Nat->Nat):∀l:List Nat,ltFrom e lt d (l.map f)=ltFrom (λi=>e (f i)) (λi=>lt (f i)) d l
 | []=>rfl
 | i::l=>by rw[K_,ltFrom,ltFrom,Aw e lt d f l]
open PySem.SeqAt in
theorem zI:∀xs ys:List D,cmA xs ys=true->ltFrom (λj=>deq (xs.getD j .non) (ys.getD j .non)) (λj=>dl (xs.getD j .non) (ys.getD j .non)) (decide (xs.length < ys.length)) (Nq (min xs.length ys.length))=dlA xs ys
 | [],[],_=>by simp[ltFrom,vK]
 | [],_::_,_=>by simp[ltFrom,t5]
 | _::_,[],_=>by simp[ltFrom,uo]
 | x::xs,y::ys,c=>by
  rw[cmA,M'] at c;have ih:=zI xs ys c.2;rw[Md,Md,Nat.succ_min_succ,OK,ltFrom,Aw,ut]
  have e:ltFrom (λi=>deq ((x::xs).getD i.succ .non) ((y::ys).getD i.succ .non)) (λi=>dl ((x::xs).getD i.succ .non) ((y::ys).getD i.succ .non)) (decide (xs.length+1 < ys.length+1)) (Nq (min xs.length ys.length))=dlA xs ys:=by
   rw[←ih]
   congr 1
   simp
  rw[e];show(if deq x y=true then dlA xs ys else dl x y)=_;rw[u6 x y c.1];cases h1:dl x y<;>cases h2:dl y x<;>simp
theorem zJ:∀(xs ys:List D),cmA xs ys=true->∀j,j < xs.length->j < ys.length->cmB (xs.getD j .non) (ys.getD j .non)=true
 | [],_,_,j,h,_=>by simp at h
 | _::_,[],_,j,_,h=>by simp at h
 | x::xs,y::ys,c,j,h1,h2=>by
  rw[cmA,M'] at c;cases j with
  | zero=>exact c.1
  | succ j=>exact zJ xs ys c.2 j (by simpa using h1) (by simpa using h2)
section
variable{H:Hp}{s:d_}
open PySem.SeqAt in
theorem En(I:Inv X aa U H s):∀(n:Nat) (A:Ni),A.units+n < NQ->n < 900->∀(a b:D) (x y:V) (u v:b_),(dep a<=n/\dep b<=n)->cmB a b=true->Is X.K H a x->Is X.K H b y->RelV x u->RelV y v->RcLtAt A s u v (dl a b):=by
 intro n
 induction n with
 | zero =>
  intro A hu hn a b x y u v hd c ha hb ru rv;cases a<;>cases b<;>simp[cmB] at c
  ·rename_i i j;rw[qD ha] at ru;rw[qD hb] at rv;obtain⟨t1,rfl⟩:=ru;obtain⟨t2,rfl⟩:=rv;rw[sE];exact RcLtAt.int_int _ _ _ _
  ·rw[dep] at hd;omega
 | succ n ih =>
  intro A hu hn a b x y u v hd c ha hb ru rv;cases a<;>cases b<;>simp[cmB] at c
  ·rename_i i j;rw[qD ha] at ru;rw[qD hb] at rv;obtain⟨t1,rfl⟩:=ru;obtain⟨t2,rfl⟩:=rv;rw[sE];exact RcLtAt.int_int _ _ _ _
  ·rename_i ds es;have eZ:A.in1.units+n < NQ:=by show A.units+1+n < NQ;omega
   obtain⟨p,xs,rfl,h1,h2⟩:=qK ha;obtain⟨q,ys,rfl,h3,h4⟩:=qK hb;cases ru;cases rv;obtain⟨af,r1,t1,_⟩:=I.tuple h1;obtain⟨bg,r2,t2,_⟩:=I.tuple h3;have l1:af.toArray.size=ds.length:=by rw[l_,←r1.length,h2.length]
   have l2:bg.toArray.size=es.length:=by rw[l_,←r2.length,h4.length]
   have two:∀j (g1:j < af.toArray.size) (g2:j < bg.toArray.size),TU A.in1 s af.toArray[j] bg.toArray[j] (deq (ds.getD j .non) (es.getD j .non))/\(deq (ds.getD j .non) (es.getD j .non)=false->RcLtAt A.in1 s af.toArray[j] bg.toArray[j] (dl (ds.getD j .non) (es.getD j .non))):=λj g1 g2=>by
    obtain⟨v1,q1,q2⟩:=h2.getU r1 g1;obtain⟨v2,q3,q4⟩:=h4.getU r2 g2
    have m1:ds.getD j .non∈ds:=by
     rw[p_,h_ (by omega)];exact MF _
    have m2:es.getD j .non∈es:=by
     rw[p_,h_ (by omega)];exact MF _
    have k1:=rR m1;have k2:=rR m2;rw[dep,dep] at hd;exact⟨(uw I n A.in1 eZ (by omega) _ _ _ _ _ _ (by omega) q2 q4 q1 q3).2.1,λ_=>ih A.in1 eZ (by omega) _ _ _ _ _ _ (by omega) (zJ ds es c j (by omega) (by omega)) q2 q4 q1 q3⟩
   have R1:=RcLtAt.tuples (A:=A) t1 t2 (by omega) two;rw[l1,l2,zI ds es c] at R1;rw[tx];exact R1
end
end DL
namespace DL
open PySem PySem.W PySem.Spec PyProof.Rows L2
noncomputable def leD(a b:D):Bool:=!dl b a
noncomputable def sortD(ds:List D):List D:=ds.mergeSort leD
theorem BQ(a b c:D)(h1:leD a b=true)(h2:leD b c=true):leD a c=true:=by
 unfold leD at *;simp only[NE] at *;exact uE a b c h1 h2
theorem yy(a b:D):(leD a b||leD b a)=true:=by
 unfold leD;cases h:dl b a with
 | false=>rfl
 | true=>rw[Bj b a h];rfl
theorem IN(ds:List D):(sortD ds).Perm ds:=RR ds leD
theorem Jw(ds:List D):(sortD ds).Pairwise λa b=>leD a b=true:=Qv BQ yy ds
theorem A4:∀(l m:List D),l.Perm m->(l.Pairwise λa b=>leD a b=true)->(m.Pairwise λa b=>leD a b=true)->(∀a∈l,∀b∈l,leD a b=true->leD b a=true->a=b)->l=m
 | [],m,p,_,_,_=>by rw[List.nil_perm.mp p]
 | a::l,[],p,_,_,_=>by have:=p.length_eq;simp at this
 | a::l,b::m,p,h1,h2,an=>by
  have e:a=b:=by
   have ia:a∈b::m:=p.mem_iff.mp g_;have ib:b∈a::l:=p.mem_iff.mpr g_
   rcases n_.mp ia with h | h
   ·exact h
   ·rcases n_.mp ib with h' | h'
    ·exact h'.symm
    ·exact an a g_ b ib ((I_.mp h1).1 b h') ((I_.mp h2).1 a h)
  subst e;rw[A4 l m ((List.perm_cons a).mp p) (I_.mp h1).2 (I_.mp h2).2 λx hx y hy=>an x (j_ _ hx) y (j_ _ hy)]
noncomputable def permD(p:Array Nat)(ds:List D):List D:=p.toList.map λi=>ds.getD i .non
noncomputable def permV(p:Array Nat)(zs:List V):List V:=p.toList.map λi=>zs.getD i .non
noncomputable def cmAll(ds:List D):Bool:=ds.all λa=>ds.all λb=>cmB a b
theorem Jh{p:Array Nat}(hp:Pm ds.length p)(up:Up (λi j=>dl (ds.getD i .non) (ds.getD j .non)) p ds.length)(cm:cmAll ds=true):permD p ds=sortD ds:=by
 have pm:(permD p ds).Perm ds:=by
  have h1:p.toList.Perm (Nq ds.length):=by
   have:=Ms.mp hp;simpa using this
  have h2:=h1.map λi=>ds.getD i .non
  have h3:((Nq ds.length).map λi=>ds.getD i .non)=ds:=by
   refine P_ (by simp) λi h1 h2=>?_
   simp[h2]
  rw[h3] at h2;exact h2
 have oE:∀a∈permD p ds,∀b∈permD p ds,cmB a b=true:=λa ha b hb=>by
  have:=Na.mp cm a (pm.mem_iff.mp ha);exact Na.mp this b (pm.mem_iff.mp hb)
 refine A4 _ _ (pm.trans (IN ds).symm) ?_ (Jw ds) λa ha b hb h1 h2=>?_
 ·rw[NF];intro i j hi hj bw;unfold permD at hi hj ⊢;rw[x_,LS,hp.size] at hi hj;have:=up i j bw hj;simp only[O6,Rz];unfold gt at this;rw[TV,dif_pos (by rw[hp.size];exact hj),TV,dif_pos (by rw[hp.size];exact hi)] at this;unfold leD;rw[NE];exact this
 ·have c:=oE a ha b hb;refine yD a b c ?_;rw[u6 a b c];unfold leD at h1 h2;rw[h1,h2];rfl
section
variable{H:Hp}{s:d_}
noncomputable def fstI:D->Bool
 | .tup (.int _::_)=>true
 | _=>false
noncomputable def fstT:D->Bool
 | .tup (.tup _::_)=>true
 | _=>false
noncomputable def isInt:D->Bool
 | .int _=>true
 | _=>false
theorem zo(I:Inv X aa U H s){prog:B_}{w:J_}{n:Nat}{b fin:Bool}{Q:Bool->d_->Prop}(hu:A.units+n < NQ)(hn:n < 900):∀(ds es:List D) (xs ys:List V) (us vs:List b_) (i:Nat),IsA X.K H ds xs->IsA X.K H es ys->Vals xs us->Vals ys vs →
  (depA ds<=n/\depA es<=n)->cmA ds es=true->fin=decide (ds.length < es.length)->(b=true->i=0->∀d e r r',ds=d::r->es=e::r'->isInt d=true/\isInt e=true)->Q (dlA ds es) s->KatLex prog w A b fin Q (us.zip vs) i s
 | [],es,xs,ys,us,vs,i,h1,h2,h3,h4,hd,c,hf,fl,q=>by
  have:=h1.nil_inv;subst this;cases h3;rw[List.zip_nil_left];refine kat_nil ?_;rw[hf];cases es with
  | nil=>rw[vK] at q;exact q
  | cons e es=>rw[t5] at q;simpa using q
 | d::ds,[],xs,ys,us,vs,i,h1,h2,h3,h4,hd,c,hf,fl,q=>by
  have:=h2.nil_inv;subst this;cases h4;rw[List.zip_nil_right];refine kat_nil ?_;rw[hf];rw[uo] at q;simpa using q
 | d::ds,e::es,xs,ys,us,vs,i,h1,h2,h3,h4,hd,c,hf,fl,q=>by
  obtain⟨x,xr,rfl,a1,a2⟩:=h1.cons_inv;obtain⟨y,yr,rfl,b1,b2⟩:=h2.cons_inv;cases h3 with
  | cons r1 r2 =>
   cases h4 with
   | cons s1 s2 =>
    rename_i u oF v gO;rw[depA,depA] at hd;rw[cmA,M'] at c;rw[ut] at q;have eq:=(uw I n A hu hn d e x y u v (by omega) a1 b1 r1 s1).2.1;have lt:=En I n A hu hn d e x y u v (by omega) c.1 a1 b1 r1 s1;have ed:=u6 d e c.1;rw[O0];refine kat_cons (eq prog w _ _ (kat_go (λh=>kat_yes ?_) λh=>kat_no ?_))
    ·refine zo I hu hn ds es xr yr oF gO (i+1) a2 b2 r2 s2 (by omega) c.2 (by rw[hf];simp) (λ_ z=>by omega) ?_;rw[h] at ed;have ed:=ed.symm;simp only[M',NE] at ed;rw[ed.1,ed.2] at q;simpa using q
    ·have q':Q (dl d e) s:=by
      rw[h] at ed;cases h1:dl d e with
      | true=>rw[h1] at q;simpa using q
      | false =>
       rw[h1] at ed q;cases h2:dl e d with
       | true=>rw[h2] at q;simpa using q
       | false=>rw[h2] at ed;cases ed
     by_cases z:b=true/\i=0
     ·obtain⟨zb,zi⟩:=z;obtain⟨f1,f2⟩:=fl zb zi d e ds es rfl rfl;subst zb;subst zi;cases d<;>simp[isInt] at f1
      cases e<;>simp[isInt] at f2
      rw[qD a1] at r1;rw[qD b1] at s1;obtain⟨t1,rfl⟩:=r1;obtain⟨t2,rfl⟩:=s1;show z_ _ _ (oneLt' true _ _) _ _ _;rw[←keyLt'_oneType];rw[sE] at q';exact Tr q'
     ·have:(b&&i == 0)=false:=by
       cases b
       ·rfl
       ·simp at z ⊢;exact z
      rw[this];exact kat_one _ _ (lt prog w _ _ q')
theorem at_k(h:IsA X.K H ds zs)(r:Vals zs vs){k:Nat}(hk:k < vs.length):∃x,Is X.K H (ds.getD k .non) x/\RelV x (vs.getD k .none)/\ds.getD k .non∈ds/\zs[k]?=some x:=by
 have l1:=h.length;have l2:=r.length;have eA:k < ds.length:=by omega
 obtain⟨x,e1,e2⟩:=h.get (h_ eA);obtain⟨u,e3,e4⟩:=r.get e1;refine⟨x,?_,?_,?_,e1⟩
 ·rw[p_,h_ eA];exact e2
 ·rw[p_,e3];exact e4
 ·rw[p_,h_ eA];exact MF _
theorem v6(I:Inv X aa U H s)(prog:B_)(w:J_)(P:D->Bool)(T:b_)(hP:∀d,P d=true->∃f r,d=.tup (f::r)/\∀x u,Is X.K H f x->RelV x u->TX (m_ prog w) s.heap (typeOf u) T):
  ∀(ds:List D) (zs:List V) (vs:List b_),IsA X.K H ds zs->Vals zs vs->ds.all P=true->∃fs,KatTups s.heap vs fs/\fs.length=vs.length/\∀v∈fs,TX (m_ prog w) s.heap (typeOf v) T
 | [],zs,vs,h,r,_=>by
  have:=h.nil_inv;subst this;cases r;exact⟨[],KatTups.nil,rfl,λv hv=>nomatch hv⟩
 | d::ds,zs,vs,h,r,ok=>by
  obtain⟨x,zr,rfl,h1,h2⟩:=h.cons_inv;rw[Sv,M'] at ok;cases r with
  | cons r1 r2 =>
   obtain⟨fs,k1,k2,k3⟩:=v6 I prog w P T hP ds zr _ h2 r2 ok.2;obtain⟨f,aB,rfl,look⟩:=hP d ok.1;obtain⟨a,ys,rfl,g1,g2⟩:=qK h1;cases r1;obtain⟨af,q1,q2,_⟩:=I.tuple g1;obtain⟨y,yr,rfl,g3,g4⟩:=g2.cons_inv;cases q1 with
   | cons q3 q4 =>
    obtain⟨o,e1,e2,n,e3⟩:=q2;refine⟨_::fs,KatTups.cons e1 e2 e3 rfl k1,by simp[k2],λv hv=>?_⟩
    rcases n_.mp hv with rfl | hv
    ·exact look y _ g3 q3
    ·exact k3 v hv
def SortOk(ds:List D):Prop:=ds.length < 64/\cmAll ds=true/\depA ds<=50/\(ds.all isInt=true\/ds.all fstI=true\/ds.all fstT=true)
theorem DV(hu:X.A.units+100 < NQ){l:i_}{Q:VK}(I:Inv X aa U H s)(ha:IsA X.K H ds zs)(rv:Vals zs af)(ok:SortOk ds)(col:∀Q':List b_->d_->Prop,(∀h' tk,(∀b o,s.heap.get? b=some o->h'.get? b=some o)->s.heap.objs.size<=h'.objs.size->Q' af { s with heap:=h',toks:=tk })->z_ (m_ X.prog X.w) X.A.in1 (S8 (.ref l)) Q' X.xe s)(k:∀l q,Pm ds.length q->permD q ds=sortD ds->H l=none->Q (.ref l) (upd H l (.lst (permV q zs)))):z_ (m_ X.prog X.w) X.A (call (.builtin "sorted") [.ref l]) (EP X aa U Q) X.xe s:=by
 obtain⟨bY,cm,dp,kd⟩:=ok;have l1:=ha.length;have l2:=rv.length;have n1:af.length=ds.length:=by omega
 have l9:∀i j,i < af.length->j < af.length->cmB (ds.getD i .non) (ds.getD j .non)=true:=λi j hi hj=>by
  obtain⟨_,_,_,mi,_⟩:=at_k ha rv hi;obtain⟨_,_,_,mj,_⟩:=at_k ha rv hj;exact Na.mp (Na.mp cm _ mi) _ mj
 have ak:∀q h' tk D c,Pm af.length q->Up (λi j=>dl (ds.getD i .non) (ds.getD j .non)) q af.length->(∀b o,s.heap.get? b=some o->h'.get? b=some o)->s.heap.objs.size<=D->h'.get? D=some (Ml "list" (byP af q).toArray c)->EP X aa U Q (.ref D) { s with heap:=h',toks:=tk }:=λq h' tk D c hp up keep above aG=>by
  rw[n1] at hp up
  have hv:Vals (permV q zs) (byP af q):=by
   refine uB (by simp[permV,byP]) λi x u e1 e2=>?_
   obtain⟨j,f1,rfl⟩:=getMap e1;obtain⟨j',f2,rfl⟩:=getMap e2;rw[f1] at f2;cases f2
   have hj:j < ds.length:=by
    have h1:j∈q.toList:=Mf f1;have h2:=(Ms.mp hp).mem_iff.mp h1;simpa using h2
   obtain⟨x,_,e4,_,e5⟩:=at_k ha rv (k:=j) (by omega);rw[p_,e5];exact e4
  refine⟨.ref D,_,I.laid (t':=tk) keep above (o:=.lst (permV q zs)) ⟨?_,byP af q,c,hv,aG⟩,rfl,k D q hp (Jh hp up cm) (I.hok.fresh above)⟩;show(permV q zs).length<=v_;rw[permV,x_,LS,hp.size,Mq];omega
 have gS:∀(b:Bool) (P:D->Bool),(∀d,P d=true->∃f r,d=.tup (f::r)/\(b=true->isInt f=true))->ds.all P=true->∀h' tk i j C,(∀b o,s.heap.get? b=some o->h'.get? b=some o)->i < af.length->j < af.length->C (dl (ds.getD i .non) (ds.getD j .non)) { s with heap:=h',toks:=tk } →
   z_ (m_ X.prog X.w) X.A.in1.in1 (keyLt' (tuples' b) (af.getD i b_.none) (af.getD j b_.none)) C (λ_ _=>False) { s with heap:=h',toks:=tk }:=λb P hP all h' tk i j C keep hi hj hc=>by
  have I':Inv X aa U H { s with heap:=h',toks:=tk }:=I.kept (t':=tk) keep;obtain⟨x,a1,a2,a3,_⟩:=at_k ha rv hi;obtain⟨y,b1,b2,b3,_⟩:=at_k ha rv hj;have cc:=l9 i j hi hj;have dq:=rR a3;have ma:=rR b3;obtain⟨f1,r1,e1,g1⟩:=hP _ (Na.mp all _ a3);obtain⟨f2,r2,e2,g2⟩:=hP _ (Na.mp all _ b3);rw[e1] at a1 cc hc dq;rw[e2] at b1 cc hc ma;obtain⟨pa,xs,rfl,x1,x2⟩:=qK a1;obtain⟨pb,ys,rfl,y1,y2⟩:=qK b1;generalize af.getD i b_.none=ui at a2;generalize af.getD j b_.none=uj at b2;cases a2;cases b2;obtain⟨us,q1,q2,_⟩:=I'.tuple x1;obtain⟨vs,q3,q4,_⟩:=I'.tuple y1;obtain⟨oa,m1,m2,na,m3⟩:=q2;obtain⟨ob,m4,m5,nb,m6⟩:=q4;rw[tx] at hc;rw[cmB] at cc;rw[dep] at dq ma;refine kat_lt m1 m3 m4 m6 (zo I' (n:=50) (by show X.A.units+1+1+50 < NQ;omega) (by decide) _ _ xs ys _ _ 0 x2 y2 q1 q3 (by omega) cc ?_ (λzb _ d e rr qc z1 z2=>?_) hc)
  ·have:=x2.length;have:=y2.length;have:=q1.length;have:=q3.length;simp only[l_]
   congr 1
   apply propext
   constructor<;>intro _<;>omega
  ·cases z1;cases z2;exact⟨g1 zb,g2 zb⟩
 rcases kd with kd | kd | kd
 ·-- bu numbers
  have j7:∀k,k < af.length->∃i t,af.getD k b_.none=.int i t/\ds.getD k .non=.int i:=λk hk=>by
   obtain⟨x,a1,a2,a3,_⟩:=at_k ha rv hk;have:=Na.mp kd _ a3;cases e:ds.getD k .non<;>rw[e] at this a1<;>simp[isInt] at this
   rw[qD a1] at a2;obtain⟨t,a2⟩:=a2;exact⟨_,t,a2,rfl⟩
  refine wH (κ:=M1) (lt:=λi j=>dl (ds.getD i .non) (ds.getD j .non)) (by omega) (v7 ds) col (λh' tk Q' keep two q=>?_) (λh' tk i j C keep hi hj hc=>?_) ak
  ·refine kas_kind (T:=.type "int") two (λv hv=>?_) (by decide) (by decide) q;obtain⟨k,hk,rfl⟩:=RS hv;obtain⟨i,t,e,_⟩:=j7 k hk;rw[p_,h_ hk] at e
   change af[k]=_ at e
   rw[e];exact TX.now
  ·obtain⟨a,t1,e1,f1⟩:=j7 i hi;obtain⟨b,t2,e2,f2⟩:=j7 j hj;rw[f1,f2,sE] at hc;rw[e1,e2];exact Tr hc
 ·-- tuples that begin with a bu number
  refine wH (κ:=tuples' true) (lt:=λi j=>dl (ds.getD i .non) (ds.getD j .non)) (by omega) (v7 ds) col (λh' tk Q' keep two q=>?_) (λh' tk i j C keep hi hj hc=>gS true fstI (λd hd=>?_) kd h' tk i j C keep hi hj hc) ak
  ·have I':Inv X aa U H { s with heap:=h',toks:=tk }:=I.kept (t':=tk) keep
   obtain⟨fs,k1,k2,k3⟩:=v6 I' X.prog X.w fstI (.type "int") (λd hd=>by
    unfold fstI at hd;split at hd
    ·refine⟨_,_,rfl,λx u hx hr=>?_⟩;rw[qD hx] at hr;obtain⟨t,rfl⟩:=hr;exact TX.now
    ·cases hd) ds zs af ha rv kd
   exact kat_kind k1 (by omega) k3 (by decide) q
  ·unfold fstI at hd;split at hd
   ·exact⟨_,_,rfl,λ_=>rfl⟩
   ·cases hd
 ·-- tuples that begin with a tuple
  refine wH (κ:=tuples' false) (lt:=λi j=>dl (ds.getD i .non) (ds.getD j .non)) (by omega) (v7 ds) col (λh' tk Q' keep two q=>?_) (λh' tk i j C keep hi hj hc=>gS false fstT (λd hd=>?_) kd h' tk i j C keep hi hj hc) ak
  ·have I':Inv X aa U H { s with heap:=h',toks:=tk }:=I.kept (t':=tk) keep
   obtain⟨fs,k1,k2,k3⟩:=v6 I' X.prog X.w fstT (.type "tuple") (λd hd=>by
    unfold fstT at hd;split at hd
    ·refine⟨_,_,rfl,λx u hx hr=>?_⟩;obtain⟨a,ys,rfl,g1,g2⟩:=qK hx;cases hr;obtain⟨bg,q1,q2,_⟩:=I'.tuple g1;obtain⟨o,e1,e2,n,e3⟩:=q2;have look:TX (m_ X.prog X.w) h' (typeOf (.ref a)) o.cls:=(TX.ld e1).andThen .now;rw[e2] at look;exact look
    ·cases hd) ds zs af ha rv kd
   exact kat_kind k1 (by omega) k3 (by decide) q
  ·unfold fstT at hd;split at hd
   ·exact⟨_,_,rfl,λh=>by cases h⟩
   ·cases hd
theorem FC(hu:X.A.units+100 < NQ):CallR X (.builtin "sorted") (λxs H Q=>∃(p:i_) (zs:List V) (ds:List D),xs=[.ref p]/\SqL X.K H p zs/\IsA X.K H ds zs/\SortOk ds/\∀l q,Pm ds.length q->permD q ds=sortD ds->H l=none->Q (.ref l) (upd H l (.lst (permV q zs)))):=by
 intro aa s U H xs us Q I r h;obtain⟨p,zs,ds,rfl,hq,ha,ok,k⟩:=h;obtain⟨u,rfl,ru⟩:=vals1 r;cases ru;obtain⟨af,rv,t,hz⟩:=I.list hq;have l1:=ha.length;have l2:=rv.length;have line:64<=v_:=by rw[Mq];decide
 refine DV hu I ha rv ok (λQ' q=>collect_list t.isList (q _ s.toks (λb o x=>?_) ?_) (by have:=ok.1;omega)) k
 ·exact(C_ _ _ (LU (LW (F_ x)))).trans (c_ _ x)
 ·rw[RA,size_push'];exact RM _
end
section
variable{B:BB}{kr:Nat}
noncomputable def sortF(ds:List D):Option (List D):=match ds with
 | [.lst xs]=>if xs.length < 64/\cmAll xs=true/\depA xs<=50/\(xs.all isInt=true\/xs.all fstI=true\/xs.all fstT=true) then some (sortD xs) else none
 | _=>none
theorem IsA.perm{K:PySem.W.Frag}{q:Array Nat}(h:IsA K I ds zs)(hp:Pm ds.length q):IsA K I (permD q ds) (permV q zs):=by
 have low:∀j∈q.toList,j < ds.length:=λj hj=>by
  have:=(Ms.mp hp).mem_iff.mp hj;simpa using this
 unfold permD permV;clear hp;generalize q.toList=js at low
 induction js with
 | nil=>exact IsA.nil
 | cons j js ih =>
  rw[K_,K_];refine IsA.cons ?_ (ih λi hi=>low i (j_ _ hi));have hj:=low j g_;obtain⟨x,e1,e2⟩:=h.get (h_ hj);rw[p_,p_,e1,h_ hj];exact e2
theorem IG{p:Pos}{t:M (List D)}(hr:Room kr X.A)(hg:Gl X "sorted")(hm:X.mg "sorted"=none)(ha:AD X B [e] t)(he:f_ [e] X.env=(false,Mm e X.env)::f_ [] X.env:=by rfl)(aC:(Mp pos (f_ [] X.env)).any (·.1)=false:=by rfl):
  EO X B (.Call (.Name "sorted" p) [e] [] pos) (fn1 sortF t):=Ce (FC (hu100 hr)) (λds d e B G I H U Z xs Q r h k=>by
 unfold sortF at e;split at e
 ·obtain⟨ok,rfl⟩:=qQ e;obtain⟨x,rfl,hx⟩:=h.one;obtain⟨q,zs,rfl,h3,h4⟩:=qJ hx;refine⟨q,zs,_,rfl,(Same.rdK r.iH h3).sq,h4.mono r.iH,ok,λl q' hp es hl=>?_⟩;refine k.new r hl ?_;rw[←es];exact h4.perm hp
 ·cases e) hg hm S0 ha (by decide) (by decide) he aC
end
end DL
namespace DL
open PySem PySem.SetTable
def Ris(xs:Array Nat):Prop:=∀i j (hi:i < xs.size) (hj:j < xs.size),i < j->xs[i] < xs[j]
theorem xC{xs:Array Nat}(R:Ris xs)(j:Nat):∀(f lo hi:Nat),hi<=xs.size->lo<=hi->hi - lo<=f->(∀i (h:i < xs.size),i < lo->xs[i] < j)->(∀i (h:i < xs.size),hi<=i->j<=xs[i]) →
  (OR.go xs j f lo hi<=xs.size/\(∀i (h:i < xs.size),i < OR.go xs j f lo hi->xs[i] < j)/\∀i (h:i < xs.size),OR.go xs j f lo hi<=i->j<=xs[i])
 | 0,lo,hi,h1,h2,h3,h4,h5=>by
  rw[OR.go];exact⟨by omega,h4,λi h x=>h5 i h (by omega)⟩
 | f+1,lo,hi,h1,h2,h3,h4,h5=>by
  rw[OR.go];split
  ·have hm:(lo+hi) / 2 < xs.size:=by omega
   have e:xs.getD ((lo+hi) / 2) j=xs[(lo+hi) / 2]:=by rw[TV,dif_pos hm];rfl
   dsimp only;rw[e];split
   ·rename_i lt;refine xC R j f ((lo+hi) / 2+1) hi h1 (by omega) (by omega) (λi h x=>?_) h5;by_cases z:i=(lo+hi) / 2
    ·subst z;exact lt
    ·exact Rt (R i _ h hm (by omega)) lt
   ·rename_i qe;refine xC R j f lo ((lo+hi) / 2) (by omega) (by omega) (by omega) h4 λi h x=>?_
    by_cases z:i=(lo+hi) / 2
    ·subst z;omega
    ·have:=R _ i hm h (by omega);omega
  ·exact⟨by omega,h4,λi h x=>h5 i h (by omega)⟩
theorem uT{xs:Array Nat}(R:Ris xs)(j:Nat):OR xs j<=xs.size/\(∀i (h:i < xs.size),i < OR xs j->xs[i] < j)/\∀i (h:i < xs.size),OR xs j<=i->j<=xs[i]:=
 xC R j xs.size 0 xs.size (A_ _) (Me _) (A_ _) (λi h x=>by omega) λi h x=>by omega
theorem GH{xs:Array Nat}(R:Ris xs){i:Nat}(h:i < xs.size):OR xs xs[i]=i:=by
 obtain⟨b1,b2,b3⟩:=uT R xs[i]
 rcases SC (OR xs xs[i]) i with l | l | l
 ·have:=b3 (OR xs xs[i]) (by omega) (A_ _);have:=R _ i (by omega) h l;omega
 ·exact l
 ·have:=b2 i h l;omega
section
variable {t:MW}
theorem Df(R:Ris t.place){i:Nat}(h:i < t.place.size):t.slot t.place[i]=.live i:=by
 unfold slot;dsimp only;rw[GH R h,w_ h];simp
theorem CA(R:Ris t.place)(hd:t.dummies=#[])(h:j∉t.place):t.slot j=.empty:=by
 unfold slot;dsimp only
 have e:¬(t.place[OR t.place j]? == some j)=true:=by
  intro z;have z:t.place[OR t.place j]?=some j:=by simpa using z
  exact h (OS z)
 rw[if_neg e];unfold has;rw[hd];simp
noncomputable def hd(m i p:Nat):Probe:=⟨i,N6 m i - i,i,p,none⟩
noncomputable def adv(m:Nat)(p:Probe):Probe:=match p with
 | ⟨j,k+1,i,q,d⟩=>⟨j+1,k,i,q,d⟩
 | ⟨_,0,i,q,d⟩=>⟨(S5 m i q).1,N6 m (S5 m i q).1 - (S5 m i q).1,(S5 m i q).1,(S5 m i q).2,d⟩
noncomputable def pth(m:Nat)(h:Int):Nat->Probe
 | 0=>hd m (RT h % (m+1)) (RT h)
 | k+1=>adv m (pth m h k)
theorem F9(h:Int):t.probeStart h=pth t.mask h 0:=rfl
theorem Js(h:Int)(k:Nat):t.advance (pth t.mask h k)=pth t.mask h (k+1):=by
 rw[pth]
 rcases pth t.mask h k with⟨j,more,i,q,d⟩
 cases more<;>rfl
theorem BW(m:Nat)(h:Int):∀k,(pth m h k).dummy=none
 | 0=>rfl
 | k+1=>by
  have ih:=BW m h k;rw[pth]
  revert ih
  rcases pth m h k with⟨j,more,i,q,d⟩
  intro ih;cases more<;>exact ih
noncomputable def sl(m:Nat)(h:Int)(k:Nat):Nat:=(pth m h k).j
theorem w6{m:Nat}{h:Int}{c i p:Nat}(e:pth m h c=hd m i p):∀d,d<=N6 m i - i->pth m h (c+d)=⟨i+d,N6 m i - i - d,i,p,none⟩
 | 0,_=>e
 | d+1,bj=>by
  have ih:=w6 e d (by omega);rw[←Nat.add_assoc,pth,ih];obtain⟨k,hk⟩:∃k,N6 m i - i - d=k+1:=⟨N6 m i - i - d - 1,by omega⟩;rw[hk,show N6 m i - i - (d+1)=k by omega];rfl
theorem Bc{h:Int}{c i p:Nat}(e:pth m h c=hd m i p):pth m h (c+(N6 m i - i)+1)=hd m (S5 m i p).1 (S5 m i p).2:=by
 have:=w6 e (N6 m i - i) (A_ _);rw[pth,this,SE];rfl
theorem Dz(m i:Nat):N6 m i - i<=9:=by
 unfold N6;split<;>omega
noncomputable def lp(m:Nat):Nat->Nat->Nat->Nat×Nat
 | 0,i,p=>(i,p)
 | n+1,i,p=>lp m n (S5 m i p).1 (S5 m i p).2
theorem B3{m:Nat}{h:Int}:∀(n c i p:Nat),pth m h c=hd m i p->∃c',c<=c'/\c'<=c+10*n/\pth m h c'=hd m (lp m n i p).1 (lp m n i p).2
 | 0,c,i,p,e=>⟨c,A_ _,by omega,e⟩
 | n+1,c,i,p,e=>by
  obtain⟨c',h1,h2,h3⟩:=B3 n _ _ _ (Bc e);have:=Dz m i;exact⟨c',by omega,by omega,h3⟩
theorem tL(m:Nat):∀(a b i p:Nat),lp m (a+b) i p=lp m b (lp m a i p).1 (lp m a i p).2
 | 0,b,i,p=>by rw[N3];rfl
 | a+1,b,i,p=>by rw[Nat.succ_add,lp,tL m a b];rfl
theorem v4(m:Nat):∀(n i p:Nat),(lp m n i p).2=p / 32 ^ n
 | 0,i,p=>by simp[lp]
 | n+1,i,p=>by
  rw[lp,v4 m n];show(p / 32) / 32 ^ n=_;rw[Nat.div_div_eq_div_mul,Nat.pow_succ,Nat.mul_comm]
theorem yq{m:Nat}:∀(n i p:Nat),i < m+1->(lp m n i p).1 < m+1
 | 0,i,p,h=>h
 | n+1,i,p,h=>by
  rw[lp];exact yq n _ _ (TN _ (Ts _))
theorem Gn(h:Int):RT h < 2 ^ 64:=by
 unfold RT;have h1:=N_ h (b:=2 ^ 64) (by decide);have h2:=O7 h (b:=2 ^ 64) (by decide);omega
def Round(m:Nat):Prop:=∀i,i < m+1->∀j,j < m+1->∃n,n < m+1/\(lp m n i 0).1=j
theorem round7:Round 7:=by
 have:∀i,i < 8->∀j,j < 8->∃n,n < 8/\(lp 7 n i 0).1=j:=by decide +kernel
 exact this
theorem round31:Round 31:=by
 have:∀i,i < 32->∀j,j < 32->∃n,n < 32/\(lp 31 n i 0).1=j:=by decide +kernel
 exact this
theorem zm(R:Round m)(h:Int)(hj:j < m+1):∃n,n < m+14/\(lp m n (RT h % (m+1)) (RT h)).1=j:=by
 have p0:(lp m 13 (RT h % (m+1)) (RT h)).2=0:=by
  rw[v4];refine Nat.div_eq_of_lt (H_ (Gn h) ?_);decide
 have l0:=yq (m:=m) 13 (RT h % (m+1)) (RT h) (TN _ (Ts _));obtain⟨n,h1,h2⟩:=R _ l0 j hj;refine⟨13+n,by omega,?_⟩;rw[tL,p0];exact h2
theorem J6(R:Round m)(h:Int)(hj:j < m+1):∃k,k < 10*(m+14)/\sl m h k=j:=by
 obtain⟨n,h1,h2⟩:=zm R h hj;obtain⟨c,h3,h4,h5⟩:=B3 (m:=m) (h:=h) n 0 _ _ rfl;refine⟨c,by omega,?_⟩;unfold sl;rw[h5];exact h2
end
noncomputable def orb(m:Nat):Nat->Nat->List Nat
 | 0,_=>[]
 | k+1,i=>i::orb m k (S5 m i 0).1
theorem Cg(m i:Nat):(S5 m i 0).2=0:=by
 show 0 / 32=0;rfl
theorem DS(m n i:Nat):lp m (n+1) i 0=lp m n (S5 m i 0).1 0:=by
 rw[lp,Cg]
theorem vn(m n i:Nat):(lp m n i 0).2=0:=by rw[v4];simp
theorem Az(m:Nat):∀(k i n:Nat),n < k->(orb m k i)[n]?=some (lp m n i 0).1
 | 0,_,_,h=>by omega
 | k+1,i,0,_=>rfl
 | k+1,i,n+1,h=>by
  rw[orb,NS,Az m k _ n (by omega),DS]
theorem Ap{k i:Nat}(h:j∈orb m k i)(hl:(orb m k i).length=k):∃n,n < k/\(lp m n i 0).1=j:=by
 obtain⟨n,hn,e⟩:=RS h;refine⟨n,by omega,?_⟩;have:=Az m k i n (by omega);rw[h_ hn,e] at this;exact(L0 this).symm
theorem xK(m:Nat):∀(k i:Nat),(orb m k i).length=k
 | 0,_=>rfl
 | k+1,i=>by rw[orb,Md,xK m k]
theorem round127:Round 127:=by
 have all:∀j,j < 128->∃n,n < 128/\(lp 127 n 0 0).1=j:=λj hj=>by
  have c:∀j,j < 128->j∈orb 127 128 0:=by decide +kernel
  exact Ap (c j hj) (xK _ _ _)
 have turn:(lp 127 128 0 0).1=0:=by decide +kernel
 intro i hi j hj;obtain⟨a,ha,ea⟩:=all i hi;obtain⟨b,hb,eb⟩:=all j hj;have dz:∀n,lp 127 n i 0=lp 127 (a+n) 0 0:=λn=>by rw[tL,ea,vn]
 rcases N4 b a with z | z
 ·refine⟨b+128 - a,by omega,?_⟩;rw[dz,show a+(b+128 - a)=128+b by omega,tL,turn,vn,eb]
 ·exact⟨b - a,by omega,by rw[dz,show a+(b - a)=b by omega,eb]⟩
theorem round511:Round 511:=by
 have all:∀j,j < 512->∃n,n < 512/\(lp 511 n 0 0).1=j:=λj hj=>by
  have c:∀j,j < 512->j∈orb 511 512 0:=by decide +kernel
  exact Ap (c j hj) (xK _ _ _)
 have turn:(lp 511 512 0 0).1=0:=by decide +kernel
 intro i hi j hj;obtain⟨a,ha,ea⟩:=all i hi;obtain⟨b,hb,eb⟩:=all j hj;have dz:∀n,lp 511 n i 0=lp 511 (a+n) 0 0:=λn=>by rw[tL,ea,vn]
 rcases N4 b a with z | z
 ·refine⟨b+512 - a,by omega,?_⟩;rw[dz,show a+(b+512 - a)=512+b by omega,tL,turn,vn,eb]
 ·exact⟨b - a,by omega,by rw[dz,show a+(b - a)=b by omega,eb]⟩
structure TabOk(t:MW)(es:Array (Int×b_)):Prop where
 nd:t.dummies=#[]
 ris:Ris t.place
 sz:t.place.size=es.size
 low:∀i (h:i < t.place.size),t.place[i]<=t.mask
 few:t.place.size<=300/\(t.mask=511\/(t.mask=127/\t.place.size<=76)\/(t.mask=31/\t.place.size<=18)\/(t.mask=7/\t.place.size<=4))
 pl:t.plain=true
 reach:∀i (h:i < es.size) (h':i < t.place.size),∃k,sl t.mask es[i].1 k=t.place[i]/\∀k',k' < k->sl t.mask es[i].1 k'∈t.place
theorem xD:∀(n:Nat) (l:List Nat),(∀j,j < n->j∈l)->n<=l.length
 | 0,_,_=>Me _
 | n+1,l,h=>by
  have:=xD n (l.erase n) λj hj=>(List.mem_erase_of_ne (by omega)).mpr (h j (by omega))
  rw[Qm (h n (by omega))] at this;have:0 < l.length:=List.length_pos_of_mem (h n (by omega));omega
section
variable {t:MW}{es:Array (Int×b_)}
theorem TabOk.round(T:TabOk t es):Round t.mask:=by
 rcases T.few.2 with h | h | h | h
 ·rw[h];exact round511
 ·rw[h.1];exact round127
 ·rw[h.1];exact round31
 ·rw[h.1];exact round7
theorem TabOk.free(T:TabOk t es)(h:Int):∃K,K < 10*(t.mask+14)/\sl t.mask h K∉t.place/\∀k,k < K->sl t.mask h k∈t.place:=by
 have ex:∃k,k < 10*(t.mask+14)/\sl t.mask h k∉t.place:=by
  apply Pl
  intro no
  have:t.mask+1<=t.place.toList.length:=xD (t.mask+1) _ λj hj=>by
   obtain⟨k,k1,k2⟩:=J6 T.round h hj
   apply Pl
   intro nj;exact no ⟨k,k1,by rw[k2];simpa using nj⟩
  rw[LS] at this;have:=T.few;omega
 obtain⟨k,k1,k2⟩:=ex
 induction k using Nat.strongRecOn with
 | ind k ih =>
  by_cases z:∃k',k' < k/\sl t.mask h k'∉t.place
  ·obtain⟨k',a,b⟩:=z;exact ih k' a (by omega) b
  ·refine⟨k,k1,k2,λk' dj=>?_⟩
   apply Pl
   intro nj;exact z ⟨k',dj,nj⟩
theorem zG{i:Nat}(h:i<=m):i+(N6 m i - i)<=m:=by
 unfold N6;split<;>omega
theorem vx(m:Nat)(h:Int):∀k,(pth m h k).j+(pth m h k).more<=m/\(pth m h k).i<=m
 | 0=>by
  have:RT h % (m+1)<=m:=SF (TN _ (Ts _));exact⟨zG this,this⟩
 | k+1=>by
  have ih:=vx m h k;rw[pth]
  revert ih
  rcases pth m h k with⟨j,more,i,q,d⟩
  intro ih;cases more with
  | zero =>
   have:(S5 m i q).1<=m:=SF (TN _ (Ts _));exact⟨zG this,this⟩
  | succ more =>
   dsimp only at ih;exact⟨by show j+1+more<=m;omega,ih.2⟩
theorem GQ{xs:Array Nat}(h:j∈xs):∃i,∃h:i < xs.size,xs[i]=j:=by
 obtain⟨i,hi,e⟩:=RB h;exact⟨i,hi,e⟩
theorem tm{α:Type}{xs:Array α}{p:Nat}(hp:p<=xs.size)(x:α)(i:Nat):(MH xs p x)[i]?=if i < p then xs[i]? else if i=p then some x else xs[i - 1]?:=by
 unfold MH;rw[Array.getElem?_append,Pn,Px];have e:min p xs.size - 0=p:=by omega
 rw[e];by_cases h1:i < p
 ·rw[if_pos (by omega),if_pos h1,RU,Px,e,if_neg (by omega),Of,if_pos (by omega),N3]
 ·rw[if_neg h1];by_cases h2:i=p
  ·rw[if_pos (by omega),if_pos h2,RU,Px,e,if_pos h2]
  ·rw[if_neg (by omega),if_neg h2,Of];by_cases h3:i - (p+1) < min xs.size xs.size - p
   ·rw[if_pos h3]
    congr 1
    omega
   ·rw[if_neg h3]
    symm
    rw[Og];omega
theorem wn{α:Type}{xs:Array α}{p:Nat}(hp:p<=xs.size)(x:α):(MH xs p x).size=xs.size+1:=by
 unfold MH;rw[Array.size_append,Pn,Px,Px];omega
theorem BU{α:Type}{xs:Array α}{p:Nat}(hp:p<=xs.size)(x y:α):y∈MH xs p x↔y=x\/y∈xs:=by
 constructor
 ·intro h;obtain⟨i,e⟩:=Oh.mp h;rw[tm hp] at e;split at e
  ·exact .inr (OS e)
  ·split at e
   ·cases e;exact .inl rfl
   ·exact .inr (OS e)
 ·rintro(rfl | h)
  ·refine Oh.mpr ⟨p,?_⟩;rw[tm hp,if_neg (by omega),if_pos rfl]
  ·obtain⟨i,e⟩:=Oh.mp h;by_cases z:i < p
   ·exact Oh.mpr ⟨i,by rw[tm hp,if_pos z];exact e⟩
   ·exact Oh.mpr ⟨i+1,by rw[tm hp,if_neg (by omega),if_neg (by omega)];exact e⟩
theorem GY(T:TabOk t es){h:Int}{x:b_}{K:Nat}(hK:sl t.mask h K∉t.place)(hk:∀k,k < K->sl t.mask h k∈t.place):
  let q:=t.put (sl t.mask h K)
  q.1.dummies=#[]/\Ris q.1.place/\q.1.place.size=(MH es q.2 (h,x)).size/\(∀i (h:i < q.1.place.size),q.1.place[i]<=q.1.mask)/\q.1.mask=t.mask/\q.1.plain=t.plain/\q.1.led=t.led/\q.1.moves=t.moves/\q.1.place.size=t.place.size+1/\q.2<=es.size ∧
   (∀i (h1:i < (MH es q.2 (h,x)).size) (h2:i < q.1.place.size),∃k,sl q.1.mask (MH es q.2 (h,x))[i].1 k=q.1.place[i]/\∀k',k' < k->sl q.1.mask (MH es q.2 (h,x))[i].1 k'∈q.1.place):=by
 intro q;obtain⟨b1,b2,b3⟩:=uT T.ris (sl t.mask h K);have q2:q.2=OR t.place (sl t.mask h K):=rfl;have q1:q.1.place=MH t.place (OR t.place (sl t.mask h K)) (sl t.mask h K):=rfl;have hp:q.2<=es.size:=by rw[q2,←T.sz];exact b1
 have nh:has t.dummies (sl t.mask h K)=false:=by rw[T.nd];rfl
 have qd:q.1.dummies=#[]:=by
  show(if has t.dummies (sl t.mask h K)=true then _ else t.dummies)=_;rw[nh,if_neg y_];exact T.nd
 have get:∀i (h2:i < q.1.place.size),(i < q.2/\∃hi:i < t.place.size,q.1.place[i]=t.place[i])\/(i=q.2/\q.1.place[i]=sl t.mask h K)\/(q.2 < i/\∃hi:i - 1 < t.place.size,q.1.place[i]=t.place[i - 1]):=λi h2=>by
  have e:=tm (x:=sl t.mask h K) b1 i;rw[←q1,←q2,w_ h2] at e;by_cases z1:i < q.2
  ·rw[if_pos z1] at e;obtain⟨hi,e⟩:=Mj.mp e.symm;exact .inl ⟨z1,hi,e.symm⟩
  ·rw[if_neg z1] at e;by_cases z2:i=q.2
   ·rw[if_pos z2] at e;exact .inr (.inl ⟨z2,L0 e⟩)
   ·rw[if_neg z2] at e;obtain⟨hi,e⟩:=Mj.mp e.symm;exact .inr (.inr ⟨by omega,hi,e.symm⟩)
 have sz:q.1.place.size=t.place.size+1:=by rw[q1];exact wn b1 _
 have ne:∀i (hi:i < t.place.size),t.place[i]≠sl t.mask h K:=λi hi z=>hK (by rw[←z];exact P9 hi)
 refine⟨qd,?_,by rw[sz,wn hp,T.sz],?_,rfl,rfl,rfl,rfl,sz,hp,?_⟩
 ·intro i j hi hj lt
  rcases get i hi with⟨a1,a2,a3⟩ | ⟨a1,a3⟩ | ⟨a1,a2,a3⟩<;>rcases get j hj with⟨c1,c2,c3⟩ | ⟨c1,c3⟩ | ⟨c1,c2,c3⟩
  ·rw[a3,c3];exact T.ris i j a2 c2 lt
  ·rw[a3,c3];exact b2 i a2 (by omega)
  ·rw[a3,c3];have:=b2 i a2 (by omega);have:=b3 (j - 1) c2 (by omega);omega
  ·omega
  ·omega
  ·rw[a3,c3];have:=b3 (j - 1) c2 (by omega);have:=ne (j - 1) c2;omega
  ·omega
  ·omega
  ·rw[a3,c3];exact T.ris (i - 1) (j - 1) a2 c2 (by omega)
 ·intro i hi;show _<=t.mask
  rcases get i hi with⟨a1,a2,a3⟩ | ⟨a1,a3⟩ | ⟨a1,a2,a3⟩
  ·rw[a3];exact T.low _ _
  ·rw[a3];have:=(vx t.mask h K).1;unfold sl;omega
  ·rw[a3];exact T.low _ _
 ·intro i h1 h2;have dH:∀y,y∈t.place->y∈q.1.place:=λy hy=>by rw[q1];exact(BU b1 _ _).mpr (.inr hy)
  have e:=tm (x:=(h,x)) hp i;rw[w_ h1] at e;show ∃k,sl t.mask _ k=_/\∀k',k' < k->sl t.mask _ k'∈_
  rcases get i h2 with⟨a1,a2,a3⟩ | ⟨a1,a3⟩ | ⟨a1,a2,a3⟩
  ·rw[if_pos a1] at e;obtain⟨hi,e⟩:=Mj.mp e.symm;obtain⟨k,k1,k2⟩:=T.reach i hi a2;rw[←e,a3];exact⟨k,k1,λk' dj=>dH _ (k2 k' dj)⟩
  ·rw[if_neg (by omega),if_pos a1] at e;rw[L0 e,a3];exact⟨K,rfl,λk' dj=>dH _ (hk k' dj)⟩
  ·rw[if_neg (by omega),if_neg (by omega)] at e;obtain⟨hi,e⟩:=Mj.mp e.symm;obtain⟨k,k1,k2⟩:=T.reach (i - 1) hi a2;rw[←e,a3];exact⟨k,k1,λk' dj=>dH _ (k2 k' dj)⟩
end
noncomputable def tak(o:Array (Option Nat))(j:Nat):Bool:=(o.getD j (some 0)).isSome
theorem yE{m:Nat}{o:Array (Option Nat)}{h:Int}:∀(f c i p:Nat),pth m h c=hd m i p →
  (∃k,c<=k/\O1 m o f i p=some (sl m h k)/\tak o (sl m h k)=false/\∀k',c<=k'->k' < k->tak o (sl m h k')=true)\/(∀n,n < f->tak o (lp m n i p).1=true)
 | 0,c,i,p,e=>.inr λn h=>by omega
 | f+1,c,i,p,e=>by
  have run:=λd bj=>w6 e d bj
  have aF:∀d,d<=N6 m i - i->sl m h (c+d)=i+d:=λd bj=>by unfold sl;rw[run d bj]
  have up:i<=N6 m i:=by unfold N6;split<;>omega
  rw[O1];cases hf:(Nq (N6 m i+1 - i)).find? λk=>(o.getD (i+k) (some 0)).isNone with
  | some d =>
   obtain⟨d1,d2,d3⟩:=List.find?_range_eq_some.mp hf;rw[Ob] at d2;left;refine⟨c+d,by omega,?_,?_,λk' a b=>?_⟩
   ·dsimp only;rw[aF d (by omega)]
   ·rw[aF d (by omega)];unfold tak;cases x:o.getD (i+d) (some 0) with
    | none=>rfl
    | some v=>rw[x] at d1;cases d1
   ·obtain⟨d',rfl⟩:∃d',k'=c+d':=⟨k' - c,by omega⟩;rw[aF d' (by omega)];have:=d3 d' (by omega);unfold tak;cases x:o.getD (i+d') (some 0) with
    | none=>rw[x] at this;cases this
    | some v=>rfl
  | none =>
   have no:=List.find?_range_eq_none.mp hf
   have all:∀k',c<=k'->k' < c+(N6 m i - i)+1->tak o (sl m h k')=true:=λk' a b=>by
    obtain⟨d',rfl⟩:∃d',k'=c+d':=⟨k' - c,by omega⟩;rw[aF d' (by omega)];have:=no d' (by omega);unfold tak;cases x:o.getD (i+d') (some 0) with
    | none=>rw[x] at this;cases this
    | some v=>rfl
   dsimp only
   rcases yE (o:=o) f _ _ _ (Bc e) with⟨k,k1,k2,k3,k4⟩ | aB
   ·left;refine⟨k,by omega,k2,k3,λk' a b=>?_⟩;by_cases z:k' < c+(N6 m i - i)+1
    ·exact all k' a z
    ·exact k4 k' (by omega) b
   ·right;intro n hn;cases n with
    | zero =>
     have:=all c (A_ _) (by omega);rw[←Nat.add_zero c,aF 0 (by omega)] at this;exact this
    | succ n =>
     rw[lp];exact aB n (by omega)
theorem vz:∀(k:Nat) (l:List Nat),l.Nodup->(∀x∈l,x < k)->l.length<=k
 | 0,l,_,h=>by
  cases l with
  | nil=>exact A_ _
  | cons x l=>exact absurd (h x g_) (RC _)
 | k+1,l,nd,h=>by
  by_cases z:k∈l
  ·have:=vz k (l.erase k) (nd.erase k) λx hx=>by
    have h1:=h x (List.mem_of_mem_erase hx)
    have h2:x≠k:=λe=>by
     subst e;exact(Tt.not_mem_erase nd) hx
    omega
   rw[Qm z] at this;omega
  ·have:=vz k l nd λx hx=>by
    have h1:=h x hx;have h2:x≠k:=λe=>z (e▸hx)
    omega
   omega
structure Laid(m:Nat)(hs:List Int)(o:Array (Option Nat))(k:Nat):Prop where
 sz:o.size=m+1
 old:∀(j v:Nat),o[j]?=some (some v)->v < k
 one:∀(j j' v:Nat),o[j]?=some (some v)->o[j']?=some (some v)->j=j'
 way:∀(v:Nat),v < k->∃(j c:Nat),o[j]?=some (some v)/\sl m (hs.getD v 0) c=j/\∀c',c' < c->tak o (sl m (hs.getD v 0) c')=true
theorem Laid.room{o:Array (Option Nat)}{k:Nat}(L:Laid m hs o k)(hk:k<=m):∃j,j < m+1/\tak o j=false:=by
 apply Pl
 intro no
 have all:∀j,j < m+1->∃v,o[j]?=some (some v):=λj hj=>by
  have t:tak o j=true:=by
   cases x:tak o j with
   | true=>rfl
   | false=>exact absurd ⟨j,hj,x⟩ no
  unfold tak at t;rw[TV,dif_pos (by rw[L.sz];exact hj)] at t;rw[w_ (by rw[L.sz];exact hj)];cases x:o[j]'(by rw[L.sz];exact hj) with
  | none=>simp[x] at t
  | some v=>exact⟨v,rfl⟩
 have nd:((Nq (m+1)).map λj=>((o[j]?).bind id).getD 0).Nodup:=by
  unfold Tt;rw[Q5];refine Tu ?_ List.nodup_range;intro a b ha hb ne e;obtain⟨v,hv⟩:=all a (Ob.mp ha);obtain⟨v',iF⟩:=all b (Ob.mp hb);rw[hv,iF] at e;have e:v=v':=e;subst e;exact ne (L.one a b v hv iF)
 have:=vz k _ nd λx hx=>by
  obtain⟨j,hj,rfl⟩:=Nf.mp hx;obtain⟨v,hv⟩:=all j (Ob.mp hj);rw[hv];exact L.old j v hv
 rw[x_,Pv] at this;omega
theorem Laid.step(R:Round m){o:Array (Option Nat)}{k:Nat}(L:Laid m hs o k)(hk:k<=m):∃j,O1 m o (TY m) (RT (hs.getD k 0) % (m+1)) (RT (hs.getD k 0))=some j/\Laid m hs (o.setIfInBounds j (some k)) (k+1):=by
 rcases yE (m:=m) (o:=o) (h:=hs.getD k 0) (TY m) 0 _ _ rfl with⟨K,_,k2,k3,k4⟩ | full
 ·refine⟨_,k2,?_⟩
  have hj:sl m (hs.getD k 0) K < o.size:=by
   rw[L.sz];have:=(vx m (hs.getD k 0) K).1;unfold sl;omega
  have free:o[sl m (hs.getD k 0) K]?=some none:=by
   unfold tak at k3;rw[M4,w_ hj] at k3;rw[w_ hj];cases x:o[sl m (hs.getD k 0) K] with
   | none=>rfl
   | some v=>rw[x] at k3;cases k3
  have get:∀i,(o.setIfInBounds (sl m (hs.getD k 0) K) (some k))[i]?=if sl m (hs.getD k 0) K=i then some (some k) else o[i]?:=λi=>by
   rw[Array.getElem?_setIfInBounds];split
   ·rename_i e;subst e;simp[hj]
   ·rfl
  have more:∀i,tak o i=true->tak (o.setIfInBounds (sl m (hs.getD k 0) K) (some k)) i=true:=λi hi=>by
   unfold tak at hi ⊢;rw[M4] at hi ⊢;rw[get];split
   ·rfl
   ·exact hi
  refine⟨by rw[Array.size_setIfInBounds];exact L.sz,λj v e=>?_,λj j' v e e'=>?_,λv hv=>?_⟩
  ·rw[get] at e;split at e
   ·cases e;omega
   ·have:=L.old j v e;omega
  ·rw[get] at e e';split at e
   ·cases e;split at e'
    ·omega
    ·have:=L.old j' k e';omega
   ·split at e'
    ·cases e';have:=L.old j k e;omega
    ·exact L.one j j' v e e'
  ·by_cases z:v=k
   ·subst z;exact⟨_,K,by rw[get,if_pos rfl],rfl,λc' bX=>more _ (k4 c' (Me _) bX)⟩
   ·obtain⟨j,c,e1,e2,e3⟩:=L.way v (by omega);refine⟨j,c,?_,e2,λc' bX=>more _ (e3 c' bX)⟩;rw[get,if_neg ?_]
    ·exact e1
    ·intro e;subst e;rw[free] at e1;cases e1
 ·obtain⟨j,hj,tj⟩:=L.room hk;obtain⟨n,n1,n2⟩:=zm R (hs.getD k 0) hj;have:=full n (by unfold TY;omega);rw[n2,tj] at this;cases this
theorem Gh(R:Round m)(hs:List Int)(hm:hs.length<=m):∃o,layClean m hs.toArray=some o/\Laid m hs o hs.length:=by
 unfold layClean;rw[←Array.foldl_toList]
 have key:∀(l pre:List Int) (o:Array (Option Nat)),hs=pre++l->Laid m hs o pre.length->∃o',List.foldl (λam h=>do
   let (owner,k) ←am
   let j ←O1 m owner (TY m) (RT h % (m+1)) (RT h)
   pure (owner.setIfInBounds j (some k),k+1)) (some (o,pre.length)) l=some (o',hs.length)/\Laid m hs o' hs.length:=by
  intro l
  induction l with
  | nil =>
   intro pre o e L;rw[M5] at e;subst e;exact⟨o,rfl,L⟩
  | cons h l ih =>
   intro pre o e L;have gk:hs.getD pre.length 0=h:=by rw[e,p_];simp
   have lk:pre.length<=m:=by
    have:=congrArg length e;simp at this;omega
   obtain⟨j,j1,j2⟩:=L.step R lk;rw[gk] at j1;obtain⟨o',h1,h2⟩:=ih (pre++[h]) (o.setIfInBounds j (some pre.length)) (by rw[e];simp) (by simpa using j2);refine⟨o',?_,h2⟩;rw[Nu,←h1]
   congr 1
   show(O1 m o (TY m) (RT h % (m+1)) (RT h)).bind _=_;rw[j1];simp
 have aH:∀(j v:Nat),(Array.replicate (m+1) (none:Option Nat))[j]?=some (some v)->False:=λj v e=>by
  rw[Array.getElem?_replicate] at e;split at e
  ·cases e
  ·cases e
 obtain⟨o',h1,h2⟩:=key hs [] (Array.replicate (m+1) none) rfl ⟨by simp,λj v e=>(aH j v e).elim,λj j' v e=>(aH j v e).elim,λv hv=>absurd hv (RC _)⟩
 exact⟨o',by
  have:=congrArg (Option.map (·.1)) h1
  exact this,h2⟩
theorem EI{es:Array (Int×b_)}(R:Round m)(few:(m=31/\es.size<=18)\/(m=127/\es.size<=76)\/(m=511/\es.size<=300))(finger moves:Nat)(led:Bool):∃t bR,laid m finger moves led true (es.map (·.1))=some (t,bR)/\(bR.filterMap (es[·]?)).size=es.size/\TabOk t (bR.filterMap (es[·]?))/\t.mask=m/\t.led=led ∧
  (∀x,x∈bR.filterMap (es[·]?)↔x∈es)/\bR.toList.Perm (Nq es.size):=by
 obtain⟨o,h1,L⟩:=Gh R (es.map (·.1)).toList (by simp;omega);rw[O8] at h1;have nl:(es.map (·.1)).toList.length=es.size:=by simp
 rw[nl] at L;obtain⟨live,dS⟩:∃live:List (Nat×Nat),live=(Nq (m+1)).filterMap λj=>(o.getD j none).map (j,·):=⟨_,rfl⟩
 have mem:∀j v,(j,v)∈live↔o[j]?=some (some v):=λj v=>by
  rw[dS,PN];constructor
  ·rintro⟨a,ha,e⟩;rw[M4] at e;cases x:o[a]? with
   | none=>rw[x] at e;cases e
   | some w =>
    rw[x] at e;cases w with
    | none=>cases e
    | some w=>cases e;exact x
  ·intro e;have:=(Mj.mp e).1;refine⟨j,Ob.mpr (by rw[L.sz] at this;exact this),?_⟩;rw[M4,e];rfl
 have ris:live.Pairwise λa b=>a.1 < b.1:=by
  rw[dS,List.pairwise_filterMap];refine Nn.imp ?_ Q6;intro a b lt x hx y hy;cases e:o.getD a none with
  | none=>rw[e] at hx;cases hx
  | some v =>
   rw[e] at hx;cases hx;cases e':o.getD b none with
   | none=>rw[e'] at hy;cases hy
   | some v'=>rw[e'] at hy;cases hy;exact lt
 have j8:(live.map (·.2)).Nodup:=by
  unfold Tt;rw[Q5];refine Tu ?_ ris;intro a b ha hb lt e;have h1:=(mem a.1 a.2).mp ha;have h2:=(mem b.1 b.2).mp hb;rw[e] at h1;have:=L.one _ _ _ h1 h2;omega
 have lo:live.length=es.size:=by
  refine Nat.le_antisymm ?_ ?_
  ·have:=vz es.size (live.map (·.2)) j8 λx hx=>by
    obtain⟨q,hq,rfl⟩:=Nf.mp hx;exact L.old q.1 q.2 ((mem _ _).mp hq)
   simpa using this
  ·have:=xD es.size (live.map (·.2)) λv hv=>by
    obtain⟨j,c,e,_⟩:=L.way v hv;exact Nf.mpr ⟨(j,v),(mem j v).mpr e,rfl⟩
   simpa using this
 have low:∀q∈live,q.2 < es.size:=λq hq=>L.old q.1 q.2 ((mem _ _).mp hq)
 have ak:((live.map (·.2)).toArray.filterMap (es[·]?)).toList=live.map λq=>es[q.2]?.getD (0,b_.none):=by
  rw[Array.toList_filterMap];show(live.map (·.2)).filterMap (es[·]?)=_;clear lo j8 ris mem dS
  induction live with
  | nil=>rfl
  | cons q live ih =>
   have hq:=low q g_;rw[K_,PK,w_ hq,K_,w_ hq];rw[ih λq hq=>low q (j_ _ hq)];rfl
 refine⟨{ mask:=m,place:=(live.map (·.1)).toArray,dummies:=#[],finger,led,moves,plain:=true },(live.map (·.2)).toArray,?_,?_,?_,rfl,rfl,λx=>?_,?_⟩
 ·unfold laid;rw[h1];show some _=some _;rw[dS]
 ·rw[←LS,ak,x_,lo]
 ·have oG:((live.map (·.2)).toArray.filterMap (es[·]?)).size=live.length:=by rw[←LS,ak,x_]
  have oH:∀i (h1:i < ((live.map (·.2)).toArray.filterMap (es[·]?)).size) (h2:i < live.length),((live.map (·.2)).toArray.filterMap (es[·]?))[i]=es[live[i].2]?.getD (0,b_.none):=λi h1 h2=>by
   rw[←Rz]
   have:((live.map (·.2)).toArray.filterMap (es[·]?)).toList[i]'(by rw[LS];exact h1)=(live.map λq=>es[q.2]?.getD (0,b_.none))[i]'(by simpa using h2):=by
    congr 1
   rw[this,O6]
  refine⟨rfl,λi j hi hj lt=>?_,?_,λi hi=>?_,⟨?_,?_⟩,rfl,λi h1 h2=>?_⟩
  ·simp at hi hj;simp only[O9,O6];exact(NF.mp ris) i j hi hj lt
  ·rw[oG];simp
  ·simp at hi;simp only[O9,O6];have:=(mem live[i].1 live[i].2).mp (MF hi);have:=(Mj.mp this).1;rw[L.sz] at this;show _<=m;omega
  ·simp;omega
  ·have ll:(live.map (·.1)).toArray.size=live.length:=by simp
   show m=511\/(m=127/\(live.map (·.1)).toArray.size<=76)\/(m=31/\(live.map (·.1)).toArray.size<=18)\/(m=7/\_)
   rcases few with z | z | z
   ·exact .inr (.inr (.inl ⟨z.1,by rw[ll];omega⟩))
   ·exact .inr (.inl ⟨z.1,by rw[ll];omega⟩)
   ·exact .inl z.1
  ·have j9:i < live.length:=by simpa using h2
   rw[oH i h1 j9];simp only[O9,O6];have m1:=(mem live[i].1 live[i].2).mp (MF j9);have v1:=low live[i] (MF j9);obtain⟨j,c,e1,e2,e3⟩:=L.way live[i].2 v1;have:j=live[i].1:=L.one _ _ _ e1 m1;subst this
   have hh:(es.map (·.1)).toList.getD live[i].2 0=es[live[i].2].1:=by
    rw[p_];simp[v1]
   rw[hh] at e2 e3;rw[w_ v1];refine⟨c,e2,λc' bX=>?_⟩;have tk:=e3 c' bX;unfold tak at tk;have lt:=(vx m es[live[i].2].1 c').1;have lt:sl m es[live[i].2].1 c' < o.size:=by rw[L.sz];unfold sl;omega
   rw[TV,dif_pos lt] at tk;show sl m es[live[i].2].1 c'∈_;cases x:o[sl m es[live[i].2].1 c'] with
   | none=>simp[x] at tk
   | some v =>
    have:(sl m es[live[i].2].1 c',v)∈live:=(mem _ _).mpr (by rw[w_ lt,x]);simp only[List.mem_toArray,Nf];exact⟨_,this,rfl⟩
 ·rw[←Array.mem_toList_iff,ak,Nf];constructor
  ·rintro⟨q,hq,rfl⟩;rw[w_ (low q hq)];exact P9 _
  ·intro hx;obtain⟨v,hv,rfl⟩:=RB hx;obtain⟨j,c,e,_⟩:=L.way v hv;refine⟨(j,v),(mem j v).mpr e,?_⟩;dsimp only;rw[w_ hv];rfl
 ·show(live.map (·.2)).Perm _;refine(List.perm_ext_iff_of_nodup j8 List.nodup_range).mpr λv=>⟨λh=>?_,λh=>?_⟩
  ·obtain⟨q,hq,rfl⟩:=Nf.mp h;exact Ob.mpr (low q hq)
  ·obtain⟨j,c,e,_⟩:=L.way v (Ob.mp h);exact Nf.mpr ⟨(j,v),(mem j v).mpr e,rfl⟩
end DL
namespace DL
open PySem PySem.W PySem.Spec PyProof.Rows L2
end DL
namespace DL
open PySem PySem.W PySem.Spec PyProof.Rows L2 PySem.SetTable
section
variable{prog:B_}{w:J_}{E:b_->d_->Prop}{s:d_}
theorem TabOk.fits{t:MW}{es:Array (Int×b_)}(T:TabOk t es):t.fits es.size=true:=by
 have:=T.few;have:=T.sz;unfold MW.fits MW.fill;rw[T.nd];simp[T.sz];omega
end
section
variable{prog:B_}{w:J_}{E:b_->d_->Prop}{s:d_}
def SetAt(h:L4)(a:i_)(led:Bool)(es:Array (Int×b_)):Prop:=∃o ep t,h.get? a=some o/\o.cls=.type "set"/\o.data=.set es ep t/\TabOk t es/\t.led=led
theorem Aa{a:i_}{o:Obj}{es es':Array (Int×b_)}{t t':MW}(ho:h.get? a=some o)(hd:o.data=.set es ep t):(h.update a (putSet es' t')).get? a=some { o with data:=.set es' (ep+1) t' }:=by
 have e:=putSet_of es' t' hd;have:=L3 (putSet es' t') ho (by rw[e];rfl);rw[e] at this;exact this
end
section
variable{H:Hp}{s0 s:d_}{prog:B_}{w:J_}{E:b_->d_->Prop}
def Ext(s0 s:d_):Prop:=∃h tk,s={ s0 with heap:=h,toks:=tk }/\∀b o,s0.heap.get? b=some o->h.get? b=some o
theorem Ext.inv(I:Inv X aa U H s0)(e:Ext s0 s):Inv X aa U H s:=by
 obtain⟨h,tk,rfl,k⟩:=e;exact I.kept (t':=tk) k
theorem Ext.next(e:Ext s0 s)(k:∀b o,b < s0.heap.objs.size->s.heap.get? b=some o->h'.get? b=some o):Ext s0 { s with heap:=h',toks:=tk }:=by
 obtain⟨h,t,rfl,k0⟩:=e;exact⟨h',tk,rfl,λb o x=>k b o (F_ x) (k0 b o x)⟩
theorem SetAt.kept{a:i_}{led:Bool}{es:Array (Int×b_)}(S:SetAt h a led es)(k:∀o,h.get? a=some o->h'.get? a=some o):SetAt h' a led es:=by
 obtain⟨o,ep,t,r1,r2⟩:=S;exact⟨o,ep,t,k _ r1,r2⟩
end
theorem At:Manifest.owners.lookup (String.ofList ['r','o','t','a','r','e','t','i','_','t','e','s'].reverse)=some Manifest.sig_set_iterator:=by kernel_rfl
theorem tG:Slot "set_iterator" "__next__" "set_iterator.__next__":=.of (owner:= "set_iterator") (n:= "__next__") (by rw[Po,N7];kernel_rfl) (by decide +kernel) (by decide +kernel) (by decide +kernel) (by first | exact .inl (by decide +kernel) | exact .inr (by decide +kernel)) (by rw[isSubtype_type];kernel_rfl)
theorem A':Tv table "set_iterator.__next__"=some Nk.«set_iterator.__next__»:=entryFor_of_tree (by kernel_rfl)
theorem Bm(a:b_):Se "set_iterator.__next__" ⟨[a],[]⟩:=by
 unfold Se;rw[signature?_of (id:= "set_iterator.__next__") (n:=['_','_','t','x','e','n','_','_']) (o:=['r','o','t','a','r','e','t','i','_','t','e','s']) (by kernel_rfl) At]
 kernel_rfl
theorem Ck:Tv table "set.__iter__"=some Nk.«frozenset.__iter__»:=entryFor_alias (id':= "frozenset.__iter__") (by kernel_rfl) rfl (by decide +kernel) (by kernel_rfl)
theorem A5{α:Type}:∀(l:List α) (i:Nat) (h:i < l.length),(l[i]::l.eraseIdx i).Perm l
 | a::l,0,h=>PX _
 | a::l,i+1,h=>by
  rw[List.eraseIdx_cons_succ,List.getElem_cons_succ];exact(swap a _ _).trans ((A5 l i (by simpa using h)).cons a)
theorem Bx{α:Type}(next:Nat->Nat):∀(f k:Nat) (left:List α) (ak:Array α),left.length=f->(Qw.go next f k left ak).toList.Perm (ak.toList++left)
 | 0,k,left,ak,h=>by
  rw[Qw.go,M7.mp h,M5]
 | f+1,k,left,ak,h=>by
  have lt:next k % left.length < left.length:=TN _ (by omega);rw[Qw.go,h_ lt];dsimp only;refine(Bx next f (k+1) _ _ (by rw[List.length_eraseIdx_of_lt lt];omega)).trans ?_;rw[O',MR];exact Qa _ (A5 left _ lt)
theorem IK{α:Type}(next:Nat->Nat)(xs:Array α):(Qw next xs).toList.Perm xs.toList:=by
 have:=Bx next xs.size 0 xs.toList #[] (by simp);simpa[Qw] using this
section
variable{prog:B_}{w:J_}{E:b_->d_->Prop}{s:d_}
noncomputable def byTx(w:J_):Bool:=w.params.followText "set-order"
noncomputable def walkOf(w:J_)(S:i_)(ep:Nat)(es:Array (Int×b_)):Array (Int×b_):=if byTx w=true then Qw (w.params.setOrder S ep) es else es
theorem AQ(w:J_)(S:i_)(ep:Nat)(es:Array (Int×b_)):(walkOf w S ep es).toList.Perm es.toList:=by
 unfold walkOf;split
 ·exact IK _ _
 ·exact PX _
theorem vA(w:J_)(S:i_)(ep:Nat)(es:Array (Int×b_)):(walkOf w S ep es).size=es.size:=by
 have:=(AQ w S ep es).length_eq;simpa using this
noncomputable def slotAt(w:J_)(t:MW)(k:Nat):Nat:=if byTx w=true then 0 else match k with
 | 0=>0
 | k+1=>t.place.getD k 0+1
def SitAt(h:L4)(I S:i_)(slot k n ep:Nat):Prop:=∃o,h.get? I=some o/\o.cls=.type "set_iterator"/\o.data=.fields #[.int slot 0,.int k 0,.ref S,.int n 0,.int ep 0]
def SetIs(h:L4)(S:i_)(es:Array (Int×b_))(ep:Nat)(t:MW):Prop:=∃o,h.get? S=some o/\o.cls=.type "set"/\o.data=.set es ep t
theorem Fz{w:J_}{t:MW}{es:Array (Int×b_)}(T:TabOk t es)(hb:byTx w=false){k:Nat}(hk:k<=es.size):OR t.place (slotAt w t k)=k:=by
 unfold slotAt;rw[hb,if_neg y_];have sz:=T.sz;cases k with
 | zero =>
  dsimp only;obtain⟨b1,b2,b3⟩:=uT T.ris 0
  rcases Sf (OR t.place 0) with h | h
  ·exact h
  ·have:=b2 0 (by omega) h;omega
 | succ k =>
  dsimp only;have lt:k < t.place.size:=by omega
  rw[TV,dif_pos lt]
  change OR t.place (t.place[k]+1)=k+1
  obtain⟨b1,b2,b3⟩:=uT T.ris (t.place[k]+1)
  rcases SC (OR t.place (t.place[k]+1)) (k+1) with l | l | l
  ·have:=b3 k lt (by omega);omega
  ·exact l
  ·have h1:k+1 < t.place.size:=by omega
   have:=b2 (k+1) h1 l;have:=T.ris k (k+1) lt h1 (by omega);omega
theorem xN{Q:Bool->d_->Prop}(q:Q (byTx w) s):z_ (m_ prog w) A setsByText Q E s:=a_ (Qx (e_ q))
theorem Ba{es:Array (Int×b_)}{t:MW}(T:TabOk t es)(led:t.led=!byTx w)(hS:SetIs s.heap S es ep t){k:Nat}(hk:k<=es.size){Q:Option (b_×Nat)->d_->Prop}(q:Q ((walkOf w S ep es)[k]?.map λe=>(e.2,slotAt w t (k+1))) s):z_ (m_ prog w) A (TQ S (slotAt w t k) k ep) Q E s:=by
 obtain⟨o,ho,hc,hd⟩:=hS;unfold TQ;refine a_ (N9 ho hd T.fits ?_);dsimp only;refine a_ (xN ?_);cases hb:byTx w with
 | true =>
  rw[if_pos rfl,bne_self_eq_false,if_neg y_];have z:∀k,slotAt w t k=0:=λk=>by unfold slotAt;rw[hb,if_pos rfl]
  rw[z];rw[z] at q;refine a_ ?_;unfold setWalk;refine a_ (N9 ho hd T.fits ?_);dsimp only;refine a_ (xN ?_);rw[hb,if_pos rfl];refine a_ (Qx (e_ (e_ ?_)));unfold walkOf at q;rw[hb,if_pos rfl] at q;exact q
 | false =>
  rw[if_neg y_];show z_ _ _ (if(!t.plain&&decide (es.size > 1))=true then _ else _) _ _ _;rw[T.pl,Bool.not_true,Rm,if_neg y_];refine a_ ?_;show z_ _ _ (if(!t.led&&!es.isEmpty)=true then _ else _) _ _ _;rw[led,hb,Bool.not_false,Bool.not_true,Rm,if_neg y_];refine e_ (e_ ?_);rw[Fz T hb hk];unfold walkOf at q;rw[hb,if_neg y_] at q;have sz:=T.sz;by_cases lt:k < es.size
  ·have lt':k < t.place.size:=by omega
   rw[w_ lt,w_ lt'];rw[w_ lt] at q;unfold slotAt at q;rw[hb,if_neg y_] at q;simp only[map_some,TV,lt',dif_pos] at q;exact q
  ·rw[Og (by omega)];rw[Og (by omega)] at q;exact q
end
section
variable{prog:B_}{w:J_}{E:b_->d_->Prop}{s:d_}
theorem zO:Slot "set_iterator" "__iter__" "set_iterator.__iter__":=.of (owner:= "set_iterator") (n:= "__iter__") (by rw[Po,N7];kernel_rfl) (by decide +kernel) (by decide +kernel) (by decide +kernel) (by first | exact .inl (by decide +kernel) | exact .inr (by decide +kernel)) (by rw[isSubtype_type];kernel_rfl)
theorem EQ:Tv table "set_iterator.__iter__"=some Nk.«dict_keyiterator.__iter__»:=entryFor_alias (id':= "dict_keyiterator.__iter__") (by kernel_rfl) rfl (by decide +kernel) (by kernel_rfl)
theorem GU(a:b_):Se "set_iterator.__iter__" ⟨[a],[]⟩:=by
 unfold Se;rw[signature?_of (id:= "set_iterator.__iter__") (n:=['_','_','r','e','t','i','_','_']) (o:=['r','o','t','a','r','e','t','i','_','t','e','s']) (by kernel_rfl) At]
 kernel_rfl
theorem SitAt.type{I:i_}{slot k:Nat}(h:SitAt s.heap I S slot k n ep):s.TypeIs (.ref I) "set_iterator":=by
 obtain⟨o,h1,h2,_⟩:=h;exact⟨o,h1,h2⟩
theorem SetIs.type{es:Array (Int×b_)}{t:MW}(h:SetIs s.heap S es ep t):s.TypeIs (.ref S) "set":=by
 obtain⟨o,h1,h2,_⟩:=h;exact⟨o,h1,h2⟩
theorem EE{es:Array (Int×b_)}{t:MW}(T:TabOk t es)(hS:SetIs s.heap S es ep t){Q:b_->d_->Prop}(q:Q (.ref s.heap.objs.size) { s with heap:=s.heap.push { cls:=.type "set_iterator", data:=.fields #[.int 0 0,.int 0 0,.ref S,.int es.size 0,.int ep 0] } }):z_ (m_ prog w) A (R9 (.ref S)) Q E s:=by
 have hT:=hS.type;obtain⟨o,ho,hc,hd⟩:=hS;refine SG hT F.slot_set_iter (Mn F.slot_set_iter hT Ck ?_ (F.args_set_iter_1 _));refine a_ (m:=slot0 "__iter__" ⟨[.ref S],[]⟩) (a_ (e_ (e_ ?_)));refine a_ (m:=Nk.Frozenset.sizeOf S) (a_ (Pq ho hd T.fits (e_ ?_)));refine a_ (m:=setDrawn S) ?_;unfold setDrawn;refine a_ (N9 ho hd T.fits ?_);dsimp only;refine a_ (xN (e_ ?_));have z:(!byTx w&&(!t.plain&&decide (es.size > 1)))=false:=by rw[T.pl];simp
 show z_ _ _ (if(!byTx w&&(!t.plain&&decide (es.size > 1)))=true then _ else _) _ _ _;rw[z,if_neg y_];refine a_ (e_ (a_ ?_));unfold setEpoch;refine a_ (N9 ho hd T.fits (e_ ?_));exact a_ (Ma (e_ ⟨_,rfl, "set_iterator", _,⟨_,s_ _ rfl,rfl⟩,tG.lookup,q⟩))
theorem DW(hh:A.handled=none){Q:Option b_->d_->Prop}(q:∀h',(∀b o,s.heap.get? b=some o->h'.get? b=some o)->Q none { s with heap:=h' }):
  z_ (m_ prog w) A (newExc (.type "StopIteration") [] >>= λe=>(raiseNew e:Sem PySem.Fin)) (λ_ _=>False) (λe s'=>z_ (m_ prog w) A (isInstance e (.type "StopIteration")) (λb fI=>b=true/\Q none fI) (λ_ _=>False) s') s:=by
 refine a_ ?_;unfold newExc newTuple;refine a_ (Ma (a_ (m:=Rv _ _) (MV (a:=b_.none) (by first | rfl | (simp only[Rv];rfl)) (Ma ?_ (by size_fits)))) (by size_fits));unfold raiseNew;refine a_ (wpAny_handled ?_);rw[hh];refine a_ (e_ (wpAny_throw ?_));refine Od (T:= "StopIteration") (b:=true) ⟨_,s_ _ rfl,rfl⟩ PV ⟨rfl,q _ λb o x=>?_⟩;exact c_ _ (c_ _ x)
theorem JD{I:i_}{es:Array (Int×b_)}{k:Nat}{t:MW}(T:TabOk t es)(led:t.led=!byTx w)(hI:SitAt s.heap I S (slotAt w t k) k es.size ep)(hS:SetIs s.heap S es ep t)(hk:k < es.size){Q:Option b_->d_->Prop}(q:∀v h',(walkOf w S ep es)[k]?.map (·.2)=some v->SitAt h' I S (slotAt w t (k+1)) (k+1) es.size ep->KeptBut I s.heap h'->Q (some v) { s with heap:=h' }):z_ (m_ prog w) A (Nx (.ref I)) Q E s:=by
 have hT:=hI.type;obtain⟨o,ho,hc,hd⟩:=hI;obtain⟨oS,ka,oI,kc⟩:=id hS;unfold Nx;refine a_ (No (Mk (name:=NC "__next__") hT tG (Mn tG hT A' ?_ (Bm _))));refine a_ (m:=slotArgs "__next__" 0 ⟨[.ref I],[]⟩) (e_ ?_);refine a_ (wpAny_fieldsOf ho hd ?_);refine a_ (Pq ka kc T.fits ?_);rw[if_neg (by simp)];dsimp only;have lt:k < (walkOf w S ep es).size:=by rw[vA];exact hk
 refine a_ (m:=TQ S _ _ _) ?_;simp only[Oq];refine Ba T led hS (OH hk) ?_;rw[w_ lt,map_some];dsimp only;refine a_ (OL ho hd (by simp) ?_);obtain⟨h1,e1⟩:∃h1,h1=s.heap.update I (Obj.mapFields (·.setIfInBounds 0 (Nj ((slotAt w t (k+1):Nat):Int)))):=⟨_,rfl⟩;have ke:=L3 (Obj.mapFields (·.setIfInBounds 0 (Nj ((slotAt w t (k+1):Nat):Int)))) ho (OQ (OM hd _));have kf:=OM hd (·.setIfInBounds 0 (Nj ((slotAt w t (k+1):Nat):Int)));have k1:KeptBut I s.heap h1:=λb o ne x=>by rw[e1];exact(C_ _ _ (LU ne)).trans x
 rw[←e1] at ke ⊢;refine a_ (OL ke kf (by simp) (e_ ⟨_,rfl,e_ (q _ _ (by rw[w_ lt];rfl) ⟨_,L3 _ ke (OQ (OM kf _)),?_,?_⟩ λb o ne x=>(C_ _ _ (LU ne)).trans (k1 b o ne x))⟩))
 ·exact((P8 ..).trans (P8 ..)).trans hc
 ·rw[OM kf];simp[Nj]
theorem F5(hh:A.handled=none){I:i_}{es:Array (Int×b_)}{t:MW}(T:TabOk t es)(led:t.led=!byTx w)(hI:SitAt s.heap I S (slotAt w t es.size) es.size es.size ep)(hS:SetIs s.heap S es ep t){Q:Option b_->d_->Prop}(q:∀h',KeptBut I s.heap h'->Q none { s with heap:=h' }):z_ (m_ prog w) A (Nx (.ref I)) Q E s:=by
 have hT:=hI.type;obtain⟨o,ho,hc,hd⟩:=hI;obtain⟨oS,ka,oI,kc⟩:=id hS;unfold Nx;refine a_ (No (Mk (name:=NC "__next__") hT tG (Mn tG hT A' ?_ (Bm _))));refine a_ (m:=slotArgs "__next__" 0 ⟨[.ref I],[]⟩) (e_ ?_);refine a_ (wpAny_fieldsOf ho hd ?_);refine a_ (Pq ka kc T.fits ?_);rw[if_neg (by simp)];dsimp only;refine a_ (m:=TQ S _ _ _) ?_;simp only[Oq];refine Ba T led hS (A_ _) ?_;rw[Og (by rw[vA];exact A_ _),Option.map_none];dsimp only;refine a_ (OL ho hd (by simp) ?_);refine Mz (DW (A:=A.in1) (s:={ s with heap:=_ }) (Q:=Q) hh λh' keep=>q h' λb o ne x=>keep b o ((C_ _ _ (LU ne)).trans x)) (λ_ _ x=>x.elim) λe s' h=>?_
 refine a_ (Mz (wpAny_of_in1 h) (λb fI hb=>?_) λ_ _ x=>x.elim);obtain⟨rfl,hq⟩:=hb;exact e_ hq
theorem EJ(hh:A.handled=none){I:i_}(ne:S≠I){es:Array (Int×b_)}{t:MW}(T:TabOk t es)(led:t.led=!byTx w):
  SU prog w A I [I,S] [I] es.size (λk v=>(walkOf w S ep es)[k]?.map (·.2)=some v) (λk h=>SitAt h I S (slotAt w t k) k es.size ep/\SetIs h S es ep t) where
 sub:=λb hb=>by
  rw[q_.mp hb];exact g_
 frame:=λk h h' st keep=>by
  obtain⟨⟨o,a1,a2⟩,⟨o',b1,b2⟩⟩:=st;exact⟨⟨o,keep I (by simp) o a1,a2⟩,⟨o',keep S (by simp) o' b1,b2⟩⟩
 item:=λk s Q E hk st q=>JD T led st.1 st.2 hk λv h' e si kb=>by
  refine q v h' s.toks e ⟨si,?_⟩ λb o nb x=>kb b o (λz=>nb (by rw[z];simp)) x
  obtain⟨o',b1,b2⟩:=st.2;exact⟨o',kb S o' ne b1,b2⟩
 done:=λs Q E st q=>F5 hh T led st.1 st.2 λh' kb=>q h' s.toks λb o nb x=>kb b o (λz=>nb (by rw[z];simp)) x
 self:=λk s Q E st q=>by
  have hT:=st.1.type;exact SG hT zO (Mn zO hT EQ (e_ ⟨_,rfl, "set_iterator", _,hT,tG.lookup,q⟩) (GU _))
end
section
variable{prog:B_}{w:J_}{E:b_->d_->Prop}{s:d_}
theorem JX{xs:Array b_}(h:ItemsOf (λk v=>xs[k]?=some v) am xs.size):am=xs:=by
 refine SS h.1 λi h1 h2=>?_
 have:=h.2 i am[i] (w_ h1)
 change xs[i]?=some am[i] at this
 rw[w_ h2] at this;exact Eq.symm (L0 this)
theorem J0{Q:Bool->d_->Prop}(hT:s.TypeIs (.ref S) "set")(q:Q false s):z_ (m_ prog w) A (listLengthHint (.ref S)) Q E s:=by
 unfold listLengthHint;refine a_ (Rg hT F.slot_set_len.lookup ?_);have sp:splitId "set.__len__"=some ("set", "__len__"):=by decide +kernel
 dsimp only;rw[sp];dsimp only;refine a_ (Od hT sub_set_self ?_);rw[if_neg (by decide)];exact a_ (QP hT (e_ q))
theorem HR(hh:A.handled=none){es:Array (Int×b_)}{t:MW}(T:TabOk t es)(led:t.led=!byTx w)(hS:SetIs s.heap S es ep t){Q:List b_->d_->Prop}(q:∀h' tk,(∀b o,s.heap.get? b=some o->h'.get? b=some o)->s.heap.objs.size<=h'.objs.size->Q ((walkOf w S ep es).toList.map (·.2)) { s with heap:=h',toks:=tk }):z_ (m_ prog w) A (S8 (.ref S)) Q E s:=by
 have line:310<=v_:=by rw[Mq];decide
 have few:es.size<=300:=by have:=T.few;have:=T.sz;omega
 have gT:S < s.heap.objs.size:=by
  obtain⟨o,ho,_⟩:=hS;exact F_ ho
 unfold S8;refine a_ (wpAny_runValue (Mo F.entry_proto_collect ?_));rw[ML F.plain_proto_collect _];refine a_ (m:=newList []) (Ma (e_ ⟨Mb SH _,Mo F.entry_list_iadd ?_⟩));rw[ML SH _];obtain⟨h1,e1⟩:∃h1,h1=s.heap.push { cls:=.type "list", data:=.seq ([]:List b_).toArray }:=⟨_,rfl⟩;have fg:h1.objs.size=s.heap.objs.size+1:=by rw[e1,M8]
 have cN:∀b o,s.heap.get? b=some o->h1.get? b=some o:=λb o x=>by rw[e1];exact c_ _ x
 have dA:h1.get? s.heap.objs.size=some { cls:=.type "list", data:=.seq ([]:List b_).toArray }:=by rw[e1];exact s_ _ rfl
 rw[←e1]
 have fQ:SetIs h1 S es ep t:=by
  obtain⟨o,ho,r⟩:=hS;exact⟨o,cN _ _ ho,r⟩
 have fF:s.heap.objs.size≠S:=Om gT;show z_ _ A.in1 (RD (.ref s.heap.objs.size) (.ref S) (.ref s.heap.objs.size)) _ _ { s with heap:=h1 };unfold RD;refine a_ (QP (s:={ s with heap:=h1 }) fQ.type ?_);rw[if_neg (by simp[S1,fF])];refine a_ (EE (s:={ s with heap:=h1 }) T fQ ?_);obtain⟨I,eI⟩:∃I,I=h1.objs.size:=⟨_,rfl⟩;obtain⟨h2,e2⟩:∃h2,h2=h1.push { cls:=.type "set_iterator", data:=.fields #[.int 0 0,.int 0 0,.ref S,.int es.size 0,.int ep 0] }:=⟨_,rfl⟩;have gU:∀b o,h1.get? b=some o->h2.get? b=some o:=λb o x=>by rw[e2];exact c_ _ x
 have me:SitAt h2 I S (slotAt w t 0) 0 es.size ep:=⟨_,by rw[e2,eI];exact s_ _ rfl,rfl,by unfold slotAt;split<;>rfl⟩
 have mf:SetIs h2 S es ep t:=by
  obtain⟨o,ho,r⟩:=fQ;exact⟨o,gU _ _ ho,r⟩
 show z_ _ _ _ _ _ { s with heap:=h1.push _ };rw[←e2];rw[←eI];refine a_ (LX (J0 (s:={ s with heap:=h2 }) mf.type ?_));rw[if_pos (by decide +kernel)];refine a_ (MZ (a_ (m:=listTouch (.ref s.heap.objs.size)) ?_));have dI:=gU _ _ dA;refine a_ (m:=Oi s.heap.objs.size (·.push .none)) (Mg dI rfl ?_ (by simp) (by simp));have eC:=L3 (M_ (·.push b_.none)) dI rfl;refine Mg eC rfl ?_ (by show(#[b_.none]:Array b_).size<=_;simp;omega) (by simp);have dJ:=L3 (M_ (·.pop)) eC rfl;obtain⟨h4,e4⟩:∃h4,h4=((h2.update s.heap.objs.size (M_ (·.push b_.none))).update s.heap.objs.size (M_ (·.pop))):=⟨_,rfl⟩;have dE:KeptBut s.heap.objs.size h2 h4:=λb o ne x=>by rw[e4];exact(C_ _ _ (LU ne)).trans ((C_ _ _ (LU ne)).trans x)
 rw[←e4] at dJ;show z_ _ _ _ _ _ { s with heap:=L4.update (L4.update h2 _ _) _ _ };rw[←e4];have iI:s.heap.objs.size≠I:=by rw[eI,fg];exact LW (OX _)
 have mh:S≠I:=by rw[eI,fg];exact LW (N5 gT)
 have W:=(EJ (prog:=prog) (w:=w) (A:=A.in1) (ep:=ep) (by exact hh) mh T led).toS;refine e_ ⟨Mb NM _,codeAny_extend_loopS W (by omega) s.heap.objs.size (by simp[iI,fF]) _ es.size 0 _ _ _ rfl (Me _) ?_ dJ (ItemsOf.nil _) λs' am c mv aG it=>?_⟩
 ·obtain⟨o,a1,a2⟩:=me;obtain⟨o',b1,b2⟩:=mf;exact⟨⟨o,dE _ _ (LU iI) a1,a2⟩,⟨o',dE _ _ (LU fF) b1,b2⟩⟩
 ·obtain⟨h',g',d',ca,gj⟩:=s';have eg:g'=s.gens:=mv.gens;have ed:d'=s.drawn:=mv.drawn;have eo:gj=s.os:=mv.os;subst eg;subst ed;subst eo;refine a_ (wpAny_load aG (e_ ?_));have size:es.size=((walkOf w S ep es).map (·.2)).size:=by rw[Array.size_map,vA]
  have all:am=(walkOf w S ep es).map (·.2):=JX (by
   rw[←size];refine⟨it.1,λj v hj=>?_⟩;have:=it.2 j v hj;show((walkOf w S ep es).map (·.2))[j]?=some v;rw[Array.getElem?_map]
   exact this)
  have lt':s.heap.objs.size < h'.objs.size:=F_ aG;have:=q h' ca (λb o x=>mv.heap b o (λhb=>?_) (dE b o (LW (F_ x)) (gU _ _ (cN _ _ x)))) (OH lt')
  ·rw[all];simpa using this
  ·have lb:=F_ x
   rcases n_.mp hb with z | z
   ·exact LW lb z
   ·rw[q_.mp z,eI,fg] at lb;exact absurd lb (TR.mpr (RM _))
end
section
variable{prog:B_}{w:J_}{E:b_->d_->Prop}{s:d_}
noncomputable def fresh0(w:J_):Obj:={ cls:=.type "set", dict:=none,data:=.set #[] 0 (.fresh 0 0 (!byTx w)) }
theorem Gy(a:b_){Q:b_->d_->Prop}(q:Q (.ref s.heap.objs.size) { s with heap:=s.heap.push (fresh0 w) }):
  Nw (m_ prog w) A (.call (.builtin "set.__new__") ⟨[.type "set", a],[]⟩) (wants Q E) s:=by
 refine codeAny_of_tree (a_ (m:=Qy "set.__new__" ⟨[.type "set", a],[]⟩) (MV (PySem.F.newCall_set_1 a) (e_ ⟨Mb F.plain_set_new _,Mo F.entry_set_new ?_⟩)));rw[ML F.plain_set_new _];unfold Nk.«set.__new__» newClass;have gK:=sub_set_self;obtain⟨hp,g,d,tk,os⟩:=s;dsimp only
 wp_walk
 refine Qx (e_ (a_ (wpAny_alloc (e_ (e_ q)))))
theorem Fb(w:J_):TabOk (.fresh 0 0 (!byTx w)) #[]:=by
 refine⟨rfl,λi j hi=>?_,rfl,λi hi=>?_,⟨Me _,.inr (.inr (.inr ⟨rfl,Me _⟩))⟩,rfl,λi hi=>?_⟩
 all_goals exact absurd hi (RC _)
variable{H:Hp}
end
section
variable{H:Hp}{s:d_}
theorem zS{α:Type}:∀(l m:List α),l.Nodup->(∀x∈l,x∈m)->m.length<=l.length->l.Perm m
 | [],m,_,_,h=>by rw[M7.mp (Nat.le_zero.mp h)]
 | x::l,m,nd,h,len=>by
  obtain⟨a,b,rfl⟩:=Sg (h x g_);rw[Ox] at nd
  have p:=zS l (a++b) nd.2 (λy hy=>by
   have:=h y (j_ _ hy)
   rcases Mc.mp this with z | z
   ·exact(Ph _ z)
   ·rcases n_.mp z with z | z
    ·subst z;exact absurd hy nd.1
    ·exact Mv _ z) (by simp at len ⊢;omega)
  exact(p.cons x).trans List.perm_middle.symm
end
end DL
namespace DL
open PySem PySem.W PySem.Spec PyProof.Rows L2
section
variable{B:BB}{a st:L8}{p:Pos}{ga gs:M D}
noncomputable def rRv(K:PySem.W.Frag):R2:=λx y H Q=>∃b xs,x=.ref b/\y=.int (-1)/\SqL K H b xs/\∀l,H l=none->Q (.ref l) (upd H l (.lst xs.reverse))
theorem Vals.rev:∀{xs:List V}{us:List b_},Vals xs us->Vals xs.reverse us.reverse:=λ{xs us} h=>by
 refine uB (by simp[h.length]) λi x u e f=>?_
 have l:=h.length
 have hi:i < xs.length:=by
  rcases N4 i xs.length with z | z
  ·exact z
  ·rw[M3 (by simpa using z)] at e;cases e
 rw[Rk hi] at e;rw[Rk (by omega)] at f;obtain⟨u',e1,e2⟩:=h.get e;rw[l,f] at e1;cases e1;exact e2
theorem Jp{ta ts:TE}(he:PE X a ta)(hs:PE X st ts):PE X (.Subscript a (.Slice none none (some st) p2) pos) (tOp (rRv X.K) ta ts):=by
 intro aa s U H Q I h;refine Ti (thn (he aa s U H _ I h) λv s1 ⟨x,H1,I1,r1,q1⟩=>?_);refine wpAny_Slice ?_;rw[R4,evalPart_some];refine e_ (e_ (thn (hs aa s1 U H1 _ I1 q1) λvk s2 ⟨y,H2,I2,r2,q2⟩=>?_));obtain⟨b,xs,rfl,rfl,hx,q⟩:=q2;cases r1;have I3:Inv X aa U H2 { s2 with heap:=s2.heap.push { cls:=.type "slice", data:=.fields #[.none,.none,vk] } }:=I2.kept (t':=s2.toks) λb ob q=>c_ _ q
 obtain⟨af,r,ht,hz⟩:=I3.list hx;have aM:=r.length;show z_ (m_ X.prog X.w) X.A (R5 a (.Slice none none (some st) p2) (.ref b) (.ref s2.heap.objs.size)) (EP X aa U Q) X.xe { s2 with heap:=s2.heap.push { cls:=.type "slice", data:=.fields #[.none,.none,vk] } };refine tail_any (ops:=[.ref b,.ref s2.heap.objs.size]) ht.isList.typeIs P7.lookup ?_ (by with_unfolding_all rfl);obtain⟨tk,rfl⟩:=r2;refine Qh ht.isList (L4.IsSliceOf.new ..) .none .none (.int _ _) (by simp) ?_ (by rw[l_]<;>omega);rw[krv_pick];refine⟨.ref _,_,I3.laid (t':=s2.toks) (o:=.lst xs.reverse) (λb ob q=>c_ _ q) (A_ _) ?_,rfl,q _ (I3.hok.fresh (A_ _))⟩;exact⟨by rw[MC];exact hz,_,0,Vals.rev r,s_ _ rfl⟩
noncomputable def rvF(c k:D):Option (List D):=match c,k with
 | .lst ds,.int j=>if j=-1 then some ds.reverse else none
 | _,_=>none
theorem HA(ha:ED X B a ga)(hs:ED X B st gs):EO X B (.Subscript a (.Slice none none (some st) p2) pos) (op2 rvF ga gs):=PE.imp (Jp ha hs) (z9 λa b d e B G I H U Z x y Q r hx hy k=>by
 unfold rvF at e;split at e
 ·obtain⟨rfl,rfl⟩:=qQ e;obtain⟨q,zs,rfl,h3,h4⟩:=qJ hx;exact⟨q,zs,rfl,qD hy,(Same.rdK r.iH h3).sq,λl hl=>k.new r hl h4.reverse⟩
 ·cases e)
end
end DL
namespace DL
open PySem
end DL
namespace DL
open PySem PySem.W PySem.Spec PyProof.Rows L2
section
variable{B:BB}{c:L8}{st:Nc}{ss sa sb body:List Nc}{g h:M Fl}{tc:M Bool}{ga:M D}
@[irreducible] def SI(X:Cx)(B:BB)(st:Nc)(g:M Fl):Prop:=SD X B st g
@[irreducible] def SIs(X:Cx)(B:BB)(ss:List Nc)(g:M Fl):Prop:=SDs X B ss g
theorem qA(k:SD X B st g):SI X B st g:=by unfold SI;exact k
theorem rh(k:SIs X B ss g):SDs X B ss g:=by unfold SIs at k;exact k
theorem ra:SIs X B [] (ret .nx):=by unfold SIs;exact EA
theorem qC(k:SI X B st g):SIs X B [st] g:=by unfold SI at k;unfold SIs;exact Et k
theorem qy(k:SI X B st g)(t:SIs X B ss h):SIs X B (st::ss) (seqS g h):=by unfold SI at k;unfold SIs at t ⊢;exact Dm k t
theorem qT(hc:TD X B c tc)(ha:SIs X B sa g)(hb:SIs X B sb h):SI X B (.If c sa sb pos) (ifS tc g h):=by unfold SIs at ha hb;unfold SI;exact G2 hc ha hb
theorem rM(hp:PassesOwn (m_ X.prog X.w) X.A X.env X.xe)(hc:X.calm=true)(hi:ITD X B tg iter it)(hg:GD X B m tg az)(hb:SIs X B body g)(hs:∀x,Nd iter X.env x=pure x:=by intros;rfl):SI X B (.For tg iter body [] pos) (forS it az g):=by unfold SIs at hb;unfold SI;exact ES hp hc hi hg hb hs
theorem qE{i:Nat}{x:Str}(hN:X.N.Nodup)(he:ED X B e ga)(hi:X.N[i]?=some x:=by rfl)(hx:locB X.env.scope x=true:=by rfl)(hs:NO e (some (.Name x aA)) pos.line X.env=pure false:=by rfl)(hf:fnB X x=true:=by rfl):SI X B (.Assign [.Name x aA] e pos) (setV i ga):=by unfold SI;exact FL hN he hi hx hs hf
end
mutual
noncomputable def pd:D->PyData
 | .non=>.none
 | .bl b=>.bool b
 | .int i=>.int i
 | .str x=>.str x
 | .tup ds=>.tuple (pdA ds)
 | .lst ds=>.list (pdA ds)
 | .dct _=>.none
noncomputable def pdA:List D->List PyData
 | []=>[]
 | d::ds=>pd d::pdA ds
end
section
variable{H:Hp}{s:d_}
mutual
theorem yp(I:Inv X aa U H s):∀(d:D) (x:V) (u:b_),dep d < 1000->Is X.K H d x->RelV x u->∃as,Reads s.heap u (pd d) as
 | .dct _,_,_,dl,_,_=>by simp[dep] at dl
 | .non,x,u,_,h,r=>by rw[rK h] at r;cases r;rw[pd];exact⟨_,.none⟩
 | .bl b,x,u,_,h,r=>by rw[rm h] at r;cases r;rw[pd];exact⟨_,.bool b⟩
 | .int i,x,u,_,h,r=>by rw[qD h] at r;obtain⟨t,rfl⟩:=r;rw[pd];exact⟨_,.int i t⟩
 | .str z,x,u,_,h,r=>by rw[rH h] at r;obtain⟨t,rfl⟩:=r;rw[pd];exact⟨_,.str z t⟩
 | .tup ds,x,u,dl,h,r=>by
  obtain⟨a,xs,rfl,h1,h2⟩:=qK h;cases r;obtain⟨af,r1,t1,_⟩:=I.tuple h1;obtain⟨o,e1,e2,n,e3⟩:=t1;obtain⟨as,q⟩:=xB I ds xs af (by rw[dep] at dl;omega) h2 r1;rw[pd];exact⟨_,.tuple e1 e2 e3 (by simpa using q)⟩
 | .lst ds,x,u,dl,h,r=>by
  obtain⟨a,xs,rfl,h1,h2⟩:=qJ h;cases r;obtain⟨af,r1,t1,_⟩:=I.list h1.sq;obtain⟨o,e1,e2,n,e3⟩:=t1.isList;obtain⟨as,q⟩:=xB I ds xs af (by rw[dep] at dl;omega) h2 r1;rw[pd];exact⟨_,.list e1 e2 e3 (by simpa using q)⟩
theorem xB(I:Inv X aa U H s):∀(ds:List D) (xs:List V) (us:List b_),depA ds < 1000->IsA X.K H ds xs->Vals xs us->∃as,ReadsAll s.heap us (pdA ds) as
 | [],xs,us,_,h,r=>by
  have:=h.nil_inv;subst this;cases r;rw[pdA];exact⟨_,.nil⟩
 | d::ds,xs,us,dl,h,r=>by
  obtain⟨x,xr,rfl,h1,h2⟩:=h.cons_inv;rw[depA] at dl;cases r with
  | cons r1 r2 =>
   obtain⟨as,q1⟩:=yp I d x _ (by omega) h1 r1;obtain⟨bs,q2⟩:=xB I ds xr _ (by omega) h2 r2;rw[pdA];exact⟨_,.cons q1 q2⟩
end
mutual
theorem zw:∀d:D,(pd d).hasDict=false
 | .non=>by rw[pd,RN]
 | .bl _=>by rw[pd,RN]
 | .int _=>by rw[pd,RN]
 | .str _=>by rw[pd,RN]
 | .tup ds=>by rw[pd,RN];exact wf ds
 | .lst ds=>by rw[pd,RN];exact wf ds
 | .dct _=>by rw[pd,RN]
theorem wf:∀ds:List D,Tw (pdA ds)=false
 | []=>by rw[pdA,Tw]
 | d::ds=>by rw[pdA,Tw,zw d,wf ds];rfl
end
def RepOk(d:D):Prop:=dep d < 1000/\(pd d).showable=true/\(pd d).depth<=50/\(pd d).shown.length<=v_
theorem GE(hu:X.A.units+100 < NQ)(hg:X.A.guards=some []):CallR X (.builtin "repr") (λxs H Q=>∃d x,xs=[x]/\Is X.K H d x/\RepOk d/\Q (.str (pd d).shown) H):=by
 intro aa s U H xs us Q I r h;obtain⟨d,x,rfl,hx,⟨ml,kh,qf,ki⟩,q⟩:=h;obtain⟨u,rfl,ru⟩:=vals1 r;obtain⟨as,rd⟩:=yp I d x u ml hx ru
 have big:∀a,u=.ref a->z_ (m_ X.prog X.w) X.A (call (.builtin "repr") [u]) (EP X aa U Q) X.xe s:=λa e=>by
  subst e;exact repr_of_reads' rd kh (λz=>by rw[zw d] at z;cases z) hg (by omega) (λb o x=>x) (λh' v tk keep=>⟨.str _,H,I.kept (t':=tk) keep,⟨_,rfl⟩,q⟩) ki
 cases d with
 | dct _=>simp[dep] at ml
 | non =>
  rw[rK hx] at ru;cases ru;exact PySem.P.repr_of_none ⟨.str _,H,I.tok _,⟨_,rfl⟩,by rw[pd,Nl] at q;exact q⟩
 | bl b =>
  rw[rm hx] at ru;cases ru;exact PySem.P.repr_of_bool ⟨.str _,H,I.tok _,⟨_,rfl⟩,by rw[pd,Nl] at q;exact q⟩
 | int i =>
  rw[qD hx] at ru;obtain⟨t,rfl⟩:=ru;rw[pd,Qz] at kh;exact PySem.P.repr_of_int (by simpa using kh) ⟨.str _,H,I.tok _,⟨_,rfl⟩,by rw[pd,Nl] at q;exact q⟩
 | str z =>
  rw[rH hx] at ru;obtain⟨t,rfl⟩:=ru;rw[pd,Nl] at ki q;exact PySem.P.repr_of_str ⟨.str _,H,I.tok _,⟨_,rfl⟩,q⟩ ki
 | tup ds =>
  obtain⟨a,xs,rfl,_⟩:=qK hx;cases ru;exact big a rfl
 | lst ds =>
  obtain⟨a,xs,rfl,_⟩:=qJ hx;cases ru;exact big a rfl
end
end DL
namespace DL
open PySem PySem.W PySem.Spec PyProof.Rows L2
noncomputable def valD:List (Int×D)->Int->Option D
 | [],_=>none
 | p::r,k=>if p.1=k then some p.2 else valD r k
section
variable{K:PySem.W.Frag}
theorem IsK.nil:IsK K I [] []:=⟨rfl,IsA.nil⟩
theorem IsK.cons_inv{p:Int×D}{aj:List (Int×D)}{xs:List (Key×V)}(h:IsK K I (p::aj) xs):∃v r,xs=(L_ p.1,v)::r/\Is K I p.2 v/\IsK K I aj r:=by
 obtain⟨h1,h2⟩:=h;cases xs with
 | nil=>simp at h1
 | cons x r =>
  obtain⟨a,v⟩:=x;simp only[K_,List.cons.injEq] at h1;obtain⟨rfl,h1⟩:=h1;rw[K_,K_] at h2;obtain⟨y,r',e,g1,g2⟩:=h2.cons_inv;cases e;exact⟨v,r,rfl,g1,h1,g2⟩
theorem IsK.nil_inv{xs:List (Key×V)}(h:IsK K I [] xs):xs=[]:=by
 have:=h.1;simpa using this
theorem IsK.val{k:Int}:∀{aj:List (Int×D)}{xs:List (Key×V)},IsK K I aj xs->(∃d v,valD aj k=some d/\valV xs (L_ k)=some v/\Is K I d v)\/(valD aj k=none/\valV xs (L_ k)=none)
 | [],xs,h=>by rw[h.nil_inv];exact .inr ⟨rfl,rfl⟩
 | p::aj,xs,h=>by
  obtain⟨v,r,rfl,h1,h2⟩:=h.cons_inv;by_cases e:p.1=k
  ·refine .inl ⟨p.2,v,by rw[valD,if_pos e],?_,h1⟩;exact va (by show L_ p.1=L_ k;rw[e])
  ·have e':¬((L_ p.1:Key)=L_ k):=λz=>e (L_.inj z)
   rw[valD,if_neg e,uP e'];exact IsK.val h2
theorem IsK.snoc{k:Int}{v:V}:∀{aj:List (Int×D)}{xs:List (Key×V)},IsK K I aj xs->Is K I d v->IsK K I (aj++[(k,d)]) (xs++[(L_ k,v)])
 | aj,xs,h,hd=>by
  refine⟨by simp[h.1],?_⟩;rw[Oa,Oa];exact IsA.append h.2 (IsA.cons hd IsA.nil)
theorem IsK.len{aj:List (Int×D)}{xs:List (Key×V)}(h:IsK K I aj xs):xs.length=aj.length:=by
 have:=congrArg length h.1;simpa using this
end
section
variable{K:PySem.W.Frag}{B:BB}{H:Hp}
theorem Rep.writeK(r:Rep K B G I H U Z){i:Nat}{aj gW:List (Int×D)}{p:i_}{ys:List (Key×V)}(hq:Z[i]?=some (some (.dic aj)))(hs:U[i]?=some (some (.ref p)))(hd:IsK K I gW ys):
  Rep K B G I (upd H p (.dK ys)) U (Z.set i (some (.dic gW))):=by
 obtain⟨v,e1,e2⟩:=r.slot i _ hq;obtain⟨p',bb,h1,h2,h3,h4,_⟩:=e2;have hp:p'=p:=by rw[hs] at e1;subst h1;cases e1;rfl
 subst hp;have cj:∀(j:Nat) (r':R),j≠i->Z[j]?=some (some r')->r'.ptr=true->U[j]?≠some (some (.ref p')):=λj r' n z m s=>n (r.dist j i r' _ _ z hq m rfl s hs)
 have sI:Same I (upd H p' (.dK ys)):=λb u z=>by
  have ne:b≠p':=λe=>by subst e;rw[h3] at z;cases z
  rw[qx ne];exact r.iH b u z
 have sG:Same G (upd H p' (.dK ys)):=λb u z=>by
  have ne:b≠p':=λe=>by subst e;rw[h4] at z;cases z
  rw[qx ne];exact r.gH b u z
 have r1:Rep K B G I (upd H p' (.dK ys)) U (Z.set i none):={
  iH:=sI,gH:=sG,len:=by rw[Oy];exact r.len
  slot:=λj q1 e=>by
   rcases qU e with⟨_,z,_⟩ | ⟨n,z⟩
   ·cases z
   obtain⟨w,e3,e4⟩:=r.slot j q1 z;refine⟨w,e3,?_⟩
   have mt:q1.ptr=true->∀ds,Mt K G I H ds w->Mt K G I (upd H p' (.dK ys)) ds w:=λm ds hh=>by
    obtain⟨p2,eO,g1,g2,g3,g4,g5⟩:=hh;refine⟨p2,eO,g1,?_,g3,g4,g5⟩;have ne:p2≠p':=λz2=>cj j q1 n z m (by rw[e3,g1,z2])
    rw[qx ne];exact g2
   cases q1 with
   | val d=>exact e4
   | dic ds =>
    obtain⟨p2,eO,g1,g2,g3,g4,g5⟩:=e4;refine⟨p2,eO,g1,?_,g3,g4,g5⟩;have ne:p2≠p':=λz2=>cj j _ n z rfl (by rw[e3,g1,z2])
    rw[qx ne];exact g2
   | own ds=>exact mt rfl ds e4
   | bor ds=>exact mt rfl ds e4
   | fro ds=>exact e4
  dist:=(r.forget i).dist
  bor:=(r.forget i).bor }
 have r2:=r1.learn (i:=i) (q:=.dic gW) (v:=.ref p') hs ⟨p',ys,rfl,qH,h3,h4,hd⟩ (λm p2 e j r' n z m' s=>by
  cases e
  rcases qU z with⟨_,z',_⟩ | ⟨_,z'⟩
  ·cases z'
  ·exact cj j r' n z' m' s) (λds z=>nomatch z)
 rw[S7] at r2;exact r2
end
section
variable (K:PySem.W.Frag)(B:BB)
def KK(G I:Hp)(U:L2.St)(ah:Gm)(aj:List (Int×D))(Q:VK):Prop:=∀p xs H' I',Rep K B G I' H' U ah->Grow G I I'->H' p=some (.dK xs)->I' p=none->G p=none->Apart U ah p->IsK K I' aj xs->Q (.ref p) H'
noncomputable def tK(g:M (List (Int×D))):TE:=λU H Q=>∃G I Z aj ah,Rep K B G I H U Z/\g Z=some (aj,ah)/\KK K B G I U ah aj Q
end
def EK(X:Cx)(B:BB)(e:L8)(g:M (List (Int×D))):Prop:=PE X e (tK X.K B g)
section
variable{B:BB}{k v:L8}{es:List L8}{p:Pos}{g:M (List (Int×D))}
noncomputable def setK(i:Nat)(g:M (List (Int×D))):M Fl:=bnd g λd=>bnd (putS i (.dic d)) λ_=>ret .nx
theorem Dk{K:PySem.W.Frag}{i:Nat}:∀E U H,tS K B (setK i g) E U H->tAsg (tK K B g) (gName i) E U H:=λE U H q=>by
 obtain⟨G,I,Z,f,ah,r,e1,k⟩:=q;obtain⟨d1,ae,e2,e3⟩:=pS e1;obtain⟨d2,ao,e4,e5⟩:=pS e3;cases e5;obtain⟨hl,rfl⟩:=uK e4;exact⟨G,I,Z,d1,ae,r,e2,λp xs H1 I1 r1 g1 h1 h2 h3 h4 h5=>k _ H1 _ (r1.store (by rw[r1.len];exact hl) ⟨p,xs,rfl,h1,h2,h3,h5⟩ (λ_ p' z=>by cases z;exact h4) (λ_ z=>nomatch z)) g1⟩
theorem Ip{i:Nat}{x:Str}(hN:X.N.Nodup)(he:EK X B e g)(hi:X.N[i]?=some x:=by rfl)(hx:locB X.env.scope x=true:=by rfl)(hs:NO e (some (.Name x aA)) pos.line X.env=pure false:=by rfl)(hf:fnB X x=true:=by rfl):SD X B (.Assign [.Name x aA] e pos) (setK i g):=PS.imp (xx hN hi (locI hx) he hs (fnI hf)) Dk
noncomputable def tookK(i:Nat):M (List (Int×D)):=λZ=>match Z[i]? with
 | some (some (.dic aj))=>some (aj,Z.set i none)
 | _=>none
theorem Fh{i:Nat}{aj:List (Int×D)}(h:tookK i Z=some (aj,ah)):ah=Z.set i none/\Z[i]?=some (some (.dic aj)):=by
 unfold tookK at h;split at h
 ·rename_i e;cases h;exact⟨rfl,e⟩
 ·cases h
noncomputable def retK(i:Nat):M Fl:=bnd (tookK i) λd=>ret (.rt (.dic d))
theorem Ex{i:Nat}(he:PE X (.Name y p) (tVar i)):SD X B (.Return (some (.Name y p)) pos) (retK i):=PS.imp (xl he) λE U H q=>by
 obtain⟨G,I,Z,f,ah,r,e1,k⟩:=q;obtain⟨d1,ae,e2,e3⟩:=pS e1;cases e3;obtain⟨rfl,aF⟩:=Fh e2;obtain⟨v,h1,h2⟩:=r.slot i _ aF;obtain⟨p',bb,g1,g2,g3,g4,g5⟩:=h2;refine⟨v,h1,k U H I (r.forget i) (Grow.refl _ _) v ⟨p',bb,g1,g2,g3,g4,λj q z m s=>?_,g5⟩⟩
 rcases qU z with⟨_,z',_⟩ | ⟨n,z'⟩
 ·cases z'
 ·exact n (r.dist j i q _ _ z' aF m rfl s (by rw[h1,g1]))
noncomputable def lookK(i:Nat):M (List (Int×D)):=λZ=>match Z[i]? with
 | some (some (.dic aj))=>some (aj,Z)
 | _=>none
theorem FV{K:PySem.W.Frag}{H:Hp}{i:Nat}{aj:List (Int×D)}(h:lookK i Z=some (aj,ah))(r:Rep K B G I H U Z):ah=Z/\Z[i]?=some (some (.dic aj))/\∃p xs,U[i]?=some (some (.ref p))/\H p=some (.dK xs)/\IsK K I aj xs:=by
 unfold lookK at h;split at h
 ·rename_i e;cases h;obtain⟨v,h1,p,xs,rfl,g1,_,_,g4⟩:=r.slot i _ e;exact⟨rfl,e,p,xs,h1,g1,g4⟩
 ·cases h
end
section
variable{B:BB}{k v f':L8}{es:List L8}{p:Pos}{g:M (List (Int×D))}{gx:M D}{kr:Nat}
noncomputable def wrK(i:Nat)(F:List (Int×D)->Option (List (Int×D))):M Fl:=λZ=>match Z[i]? with
 | some (some (.dic aj))=>match F aj with
  | some es=>some (.nx,Z.set i (some (.dic es)))
  | none=>none
 | _=>none
theorem JF{i:Nat}{F:List (Int×D)->Option (List (Int×D))}{f:Fl}(h:wrK i F Z=some (f,ah)):f=.nx/\∃aj es,Z[i]?=some (some (.dic aj))/\F aj=some es/\ah=Z.set i (some (.dic es)):=by
 unfold wrK at h;split at h
 ·rename_i aj e;split at h
  ·rename_i es e2;cases h;exact⟨rfl,aj,es,e,e2,rfl⟩
  ·cases h
 ·cases h
noncomputable def ckF(h:List R->Option (R×List R))(ds:List D):Option (List (Int×D)):=match h (ds.map .val) with
 | some (.dic d,_)=>some d
 | _=>none
theorem t_ck{K:PySem.W.Frag}{E:XK}{h:List R->Option (R×List R)}{t:M (List D)}:∀U H Q,tK K B (fn1 (ckF h) t) U H Q->tCall (spD K h) [] E (tAD K B t) U H Q:=λU H Q q=>by
 obtain⟨G,I,Z,d,ah,r,e1,kk⟩:=q;obtain⟨ds,ae,e2,e3⟩:=pS e1;obtain⟨e4,rfl⟩:=qI e3;refine⟨G,I,Z,ds,_,r,e2,λvs H1 I1 r1 g1 h1=>?_⟩;show spD K h (vs++[]) H1 Q E;rw[M5];unfold ckF at e4;cases e5:h (ds.map .val) with
 | none=>rw[e5] at e4;cases e4
 | some q =>
  obtain⟨rr,bf⟩:=q;rw[e5] at e4;cases rr with
  | dic d' =>
   cases e4;refine⟨H1,I1,ds.map .val,.dic d,bf,tP r1 h1,t4 ds,e5,λv H' I' r' g' hv=>?_⟩;obtain⟨r2,g2⟩:=uR r1 r' g';obtain⟨q,xs,rfl,b2,b3,b4,b5,b6⟩:=hv;exact kk q xs H' I' r2 (g1.trans g2) b2 b3 (r1.gFree b4) (r1.apart b4) b6
  | val _=>cases e4
  | own _=>cases e4
  | bor _=>cases e4
  | fro _=>cases e4
theorem yd{x:Str}{h:List R->Option (R×List R)}{t:M (List D)}(F:FnOk X.prog X.w X.K X.mg X.base CX0 kn f fd ps (spD X.K h))(hr:Room kn X.A)(hg:Gl X x)(hm:X.mg x=some (.ref f))(hk:QN X.K (.ref f)=true)(hb:Binds X.K fd ps [])(ha:AD X B (e::es) t)(bL:(x == ("__debug__":Str))=false:=by decide)(he:f_ (e::es) X.env=(false,Mm e X.env)::f_ es X.env:=by rfl)(aC:(Mp pos (f_ es X.env)).any (·.1)=false:=by rfl):
  EK X B (.Call (.Name x p) (e::es) [] pos) (fn1 (ckF h) t):=PE.imp (uf F hr hg hm hk hb .nil pass0 ha bL he aC) t_ck
end
end DL
namespace DL
open PySem PySem.W PySem.Spec PyProof.Rows L2
open PySem.SeqAt
open PySem.AutoSeq1 (wpAny_loadPart')
open PySem.MeetsSeq PySem.MeetsSeq2 PySem.MeetsSeq3
end DL
namespace DL
open PySem PySem.W PySem.Spec PyProof.Rows L2
end DL
namespace DL
open PySem PySem.W PySem.Spec PyProof.Rows L2
open PySem.SeqAt
open PySem.AutoSeq1 (wpAny_loadPart')
open PySem.MeetsSeq PySem.MeetsSeq2 PySem.MeetsSeq3
section
variable{B:BB}{a b st:L8}{es:List L8}{p:Pos}{t:M (List D)}{ga gb gs:M D}{kr:Nat}
noncomputable def reprG(ds:List D):Option D:=match ds with
 | [d]=>if dep d < 1000/\(pd d).showable=true/\(pd d).depth<=50/\(pd d).shown.length<=v_ then some (.str (pd d).shown) else none
 | _=>none
theorem vd(hr:Room kr X.A)(hg:Gl X "repr")(hm:X.mg "repr"=none)(ha:AD X B [e] t)(he:f_ [e] X.env=(false,Mm e X.env)::f_ [] X.env:=by rfl)(aC:(Mp pos (f_ [] X.env)).any (·.1)=false:=by rfl):
  ED X B (.Call (.Name "repr" p) [e] [] pos) (fn1 reprG t):=sv (GE (hu100 hr) hr.gd) (λds d e B G I H U Z xs Q r h k=>by
 unfold reprG at e;split at e
 ·obtain⟨ok,rfl⟩:=qQ e;obtain⟨x,rfl,hx⟩:=h.one;exact⟨_,x,rfl,hx.mono r.iH,ok,k.now r (Is.str _)⟩
 ·cases e) hg hm boot_repr ha (by decide) (by decide) he aC
end
noncomputable def isStar:L8->Bool
 | .Starred ..=>true
 | _=>false
theorem Cc(h:isStar e=false):f_ (e::aB) env=(false,Mm e env)::f_ aB env:=by
 cases e<;>first | rfl | (simp[isStar] at h)
theorem gV{B:BB}{es:List L8}{g:M D}{t:M (List D)}(ha:ED X B e g)(hr:AD X B es t)(h:isStar e=false):AD X B (e::es) (consA g t):=Hj ha hr (Cc h)
end DL
namespace DL
open PySem PySem.Spec PyProof.Rows L2
noncomputable def kAll(f:L8->Option (M D)):List L8->Option (M (List D))
 | []=>some nilA
 | e::es=>match f e with
  | some g=>match kAll f es with
   | some t=>some (consA g t)
   | none=>none
  | none=>none
noncomputable def kM:Nat->L8->Option (M D)
 | 0,_=>none
 | n+1,e=>match e with
  | .Constant (.int i) _ _=>some (ret (.int i))
  | .Constant (.bool b) _ _=>some (ret (.bl b))
  | .Constant .none _ _=>some (ret .non)
  | .Constant (.str x) _ _=>some (ret (.str x))
  | .UnaryOp .USub a _=>match kM n a with
   | some g=>some (un1 negI g)
   | none=>none
  | .BinOp a .Pow b _=>match kM n a with
   | some g=>match kM n b with
    | some h=>some (op2 powI g h)
    | none=>none
   | none=>none
  | .Tuple es _ _=>match kAll (kM n) es with
   | some t=>some (tupA t)
   | none=>none
  | .List es _=>match kAll (kM n) es with
   | some t=>some (frz (lstA t))
   | none=>none
  | _=>none
section
variable{B:BB}
theorem vC{f:L8->Option (M D)}(hf:∀e g,f e=some g->ED X B e g/\isStar e=false):∀(es:List L8) (t:M (List D)),kAll f es=some t->AD X B es t
 | [],t,h=>by cases h;exact pL
 | e::es,t,h=>by
  rw[kAll] at h;split at h
  ·rename_i g hg;split at h
   ·rename_i t' ht;cases h;obtain⟨h1,h2⟩:=hf e g hg;exact gV h1 (vC hf es t' ht) h2
   ·cases h
  ·cases h
theorem tW:∀(n:Nat) (e:L8) (g:M D),kM n e=some g->ED X B e g/\isStar e=false
 | 0,_,_,h=>by cases h
 | n+1,e,g,h=>by
  unfold kM at h;split at h
  ·cases h;exact⟨i',rfl⟩
  ·cases h;exact⟨rE,rfl⟩
  ·cases h;exact⟨tR,rfl⟩
  ·cases h;exact⟨zy,rfl⟩
  ·split at h
   ·rename_i g' hg;cases h;exact⟨sd (tW n _ _ hg).1,rfl⟩
   ·cases h
  ·split at h
   ·rename_i g' hg;split at h
    ·rename_i g2 oJ;cases h;exact⟨sD (tW n _ _ hg).1 (tW n _ _ oJ).1,rfl⟩
    ·cases h
   ·cases h
  ·split at h
   ·rename_i t ht;cases h;exact⟨qS (vC (tW n) _ _ ht),rfl⟩
   ·cases h
  ·split at h
   ·rename_i t ht;cases h;exact⟨qB (qN (vC (tW n) _ _ ht)),rfl⟩
   ·cases h
  ·cases h
theorem so{e1 e2 e3 e4:L8}{es:List L8}{g1 g2 g3 g4:M D}{t:M (List D)}(h1:ED X B e1 g1)(h2:ED X B e2 g2)(h3:ED X B e3 g3)(h4:ED X B e4 g4)(hr:AD X B es t)(s1:isStar e1=false)(s2:isStar e2=false)(s3:isStar e3=false)(s4:isStar e4=false):AD X B (e1::e2::e3::e4::es) (consA g1 (consA g2 (consA g3 (consA g4 t)))):=
 gV h1 (gV h2 (gV h3 (gV h4 hr s4) s3) s2) s1
theorem ad_k{es:List L8}{t:M (List D)}(h:kAll (kM 9) es=some t):AD X B es t:=vC (tW 9) es t h
end
end DL
namespace DL
open PySem PySem.W PySem.Spec PyProof.Rows L2 PySem.SetTable
section
variable{B:BB}{kr:Nat}
theorem vD:∀{ns:List Int}{af:List b_},Vals (ns.map V.int) af->M9 af ns
 | [],af,h=>by cases h;exact .nil
 | n::ns,af,h=>by
  cases h with
  | cons h1 h2=>obtain⟨t,rfl⟩:=h1;exact .cons _ _ (vD h2)
noncomputable def intsD:List D->Option (List Int)
 | []=>some []
 | .int i::ds=>match intsD ds with
  | some ns=>some (i::ns)
  | none=>none
 | _=>none
theorem uL:∀{ds:List D}{ns:List Int},intsD ds=some ns->ds=ns.map D.int
 | [],ns,h=>by cases h;rfl
 | d::ds,ns,h=>by
  cases d<;>try cases h
  rename_i i;rw[intsD] at h;cases e:intsD ds with
  | none=>rw[e] at h;cases h
  | some ms=>rw[e] at h;cases h;rw[K_,←uL e]
theorem u9:∀(ns:List Int),intsD (ns.map D.int)=some ns
 | []=>rfl
 | n::ns=>by rw[K_,intsD,u9 ns]
theorem u8{K:PySem.W.Frag}{I:Hp}:∀{ns:List Int}{zs:List V},IsA K I (ns.map D.int) zs->zs=ns.map V.int
 | [],zs,h=>h.nil_inv
 | n::ns,zs,h=>by
  obtain⟨x,r,rfl,h1,h2⟩:=IsA.cons_inv h;rw[u8 h2,qD h1];rfl
variable {a b c c':L8}{ga gb gc gd:M D}
noncomputable def chn3(F F' iJ:D->D->Option D)(ga gb gc gd:M D):M D:=bnd ga λx=>bnd gb λy=>bnd (lft (F x y)) λz=>bnd (lft (asB z)) λk=>if k then(bnd gc λw=>bnd (lft (F' y w)) λz'=>bnd (lft (asB z')) λk'=>if k' then bnd gd λw'=>lft (iJ w w') else ret (.bl false)) else ret (.bl false)
noncomputable def tChain3(r r' fh:R2)(ta tb tc td:TE):TE:=λU H Q=>ta U H λx H1=>tb U H1 λy H2=>r x y H2 λz H3=>∃k,z=.bl k ∧
 (if k then(tc U H3 λw H4=>r' y w H4 λz' H5=>∃k',z'=.bl k'/\(if k' then(td U H5 λw' H6=>fh w w' H6 Q) else Q (.bl false) H5)) else Q (.bl false) H3)
theorem G8{r r':R2}{F F' iJ:D->D->Option D}{K:PySem.W.Frag}(h:OpD K r F)(h':OpD K r' F')(oK:OpD K fh iJ):∀U H Q,tD K B (chn3 F F' iJ ga gb gc gd) U H Q->tChain3 r r' fh (tD K B ga) (tD K B gb) (tD K B gc) (tD K B gd) U H Q:=λU H Q q=>by
 obtain⟨G,I,Z,d,ah,r,e1,k⟩:=q;obtain⟨d1,ae,e2,e3⟩:=pS e1;obtain⟨d2,ao,e4,e5⟩:=pS e3;obtain⟨d3,aO,e6,e7⟩:=pS e5;obtain⟨e8,rfl⟩:=qI e6;obtain⟨k1,a9,e9,f1⟩:=pS e7;obtain⟨f2,rfl⟩:=qI e9;have:=u5 f2;subst this;refine⟨G,I,Z,d1,ae,r,e2,λv H1 I1 r1 g1 h1=>⟨G,I1,ae,d2,a9,r1,e4,λw H2 I2 r2 g2 h2=>h _ _ _ e8 B G I2 H2 U a9 v w _ r2 (h1.mono g2.up) h2 λu H3 I3 r3 g3 h3=>⟨k1,rm h3,?_⟩⟩⟩;cases k1 with
 | false=>cases f1;exact iteF (k _ _ _ r3 (g1.trans (g2.trans g3)) (Is.bl false))
 | true =>
  obtain⟨d4,fM,f3,f4⟩:=pS f1;obtain⟨d5,fN,f5,f6⟩:=pS f4;obtain⟨f7,rfl⟩:=qI f5;obtain⟨k2,qg,f8,f9⟩:=pS f6;obtain⟨i1,rfl⟩:=qI f8;have:=u5 i1;subst this;refine iteT ⟨G,I3,a9,d4,_,r3,f3,λz H4 I4 r4 g4 h4=>h' _ _ _ f7 B G I4 H4 U _ w z _ r4 (h2.mono (g3.trans g4).up) h4 λu' H5 I5 r5 g5 h5=>⟨k2,rm h5,?_⟩⟩;have gg:=g1.trans (g2.trans (g3.trans (g4.trans g5)));cases k2 with
  | false=>cases f9;exact iteF (k _ _ _ r5 gg (Is.bl false))
  | true =>
   obtain⟨d6,qh,i2,i3⟩:=pS f9;obtain⟨i4,rfl⟩:=qI i3;exact iteT ⟨G,I5,_,d6,_,r5,i2,λz' H6 I6 r6 g6 h6=>oK _ _ _ i4 B G I6 H6 U _ z z' Q r6 (h4.mono (g5.trans g6).up) h6 (k.after (gg.trans g6))⟩
end
end DL
namespace TS
open PySem PyProof.Rows
noncomputable def gallop':Bool->o_->Array o_->Nat->Nat->Nat->StateT G_ Sem (Option Nat):=sortPriv% PySem.Builtin.gallop
noncomputable def mergeLo':Array o_->Array o_->StateT G_ Sem (Array o_):=sortPriv% PySem.Builtin.mergeLo
noncomputable def mergeHi':Array o_->Array o_->StateT G_ Sem (Array o_):=sortPriv% PySem.Builtin.mergeHi
noncomputable abbrev setGal(st:G_)(g:Nat):G_:=mk' (kindOf st) (r_ st) (t_ st) g (O4 st)
abbrev G3:=Option (Option Nat)×Nat×Nat
noncomputable def past(l:Bool)(key:o_)(xs:Array o_)(b i:Nat):StateT G_ Sem (Option Bool):=do
 let p ←Ot xs (b+i)
 if l then lt' p key else do
  let r ←lt' key p
  pure (r.map (!·))
noncomputable def goR(l:Bool)(key:o_)(xs:Array o_)(b n h:Nat)(_:Nat)(c:G3):StateT G_ Sem (ForInStep G3):=
 if c.2.2>=n - h then pure (.done (none,c.2.1,c.2.2)) else do
  match ←past l key xs b (h+c.2.2) with
  | some q=>if(!q)=true then pure (.done (none,c.2.1,c.2.2)) else pure (.yield (none,c.2.2,2*c.2.2+1))
  | _=>pure (.done (some none,c.2.1,c.2.2))
noncomputable def goL(l:Bool)(key:o_)(xs:Array o_)(b h:Nat)(_:Nat)(c:G3):StateT G_ Sem (ForInStep G3):=
 if c.2.2>=h+1 then pure (.done (none,c.2.1,c.2.2)) else do
  match ←past l key xs b (h - c.2.2) with
  | some q=>if q=true then pure (.done (none,c.2.1,c.2.2)) else pure (.yield (none,c.2.2,2*c.2.2+1))
  | _=>pure (.done (some none,c.2.1,c.2.2))
noncomputable def goM(l:Bool)(key:o_)(xs:Array o_)(b:Nat)(_:Nat)(c:G3):StateT G_ Sem (ForInStep G3):=
 if c.2.1>=c.2.2 then pure (.done (none,c.2.1,c.2.2)) else do
  match ←past l key xs b (c.2.1+(c.2.2 - c.2.1) / 2) with
  | some q=>if q=true then pure (.yield (none,c.2.1+(c.2.2 - c.2.1) / 2+1,c.2.2)) else pure (.yield (none,c.2.1,c.2.1+(c.2.2 - c.2.1) / 2))
  | _=>pure (.done (some none,c.2.1,c.2.2))
noncomputable def goF(l:Bool)(key:o_)(xs:Array o_)(b n u v:Nat):StateT G_ Sem (Option Nat):=do
 let c ←forIn [0:n] ((none,u,v):G3) (goM l key xs b)
 match c.1 with
 | some r=>pure r
 | none=>pure (some c.2.2)
theorem HL(l:Bool)(key:o_)(xs:Array o_)(b n h:Nat):gallop' l key xs b n h=(do
 match ←past l key xs b h with
 | some q =>
  if q then do
   let c ←forIn [0:n] ((none,0,1):G3) (goR l key xs b n h)
   match c.1 with
   | some r=>pure r
   | none=>goF l key xs b n (h+c.2.1+1) (h+min c.2.2 (n - h))
  else do
   let c ←forIn [0:n] ((none,0,1):G3) (goL l key xs b h)
   match c.1 with
   | some r=>pure r
   | none=>goF l key xs b n (h+1 - min c.2.2 (h+1)) (h - c.2.1)
 | _=>pure none):=by kernel_rfl
def IsI(x:o_):Prop:=∃n t,x.1=.int n t
noncomputable def kN(x:o_):Int:=numOf x.1
section
variable{prog:B_}{w:J_}{E:b_->d_->Prop}{s:d_}{st:G_}
theorem ur{x y:o_}{Q:Option Bool->G_->Prop}(hk:kindOf st=M1)(hx:IsI x)(hy:IsI y)(h:Q (some (decide (kN x < kN y))) st):wpS (m_ prog w) A E s (lt' x y) Q st:=by
 obtain⟨a,t,ha⟩:=hx;obtain⟨b,u,hb⟩:=hy;rw[lt'_eq];refine k_ (Py ?_);rw[hk,keyLt'_oneType];unfold kN at h;rw[ha,hb] at h ⊢;exact k_ (QA (No (oneLt_int ⟨rfl,u_ h⟩)))
theorem qV{i:Nat}{x:o_}{Q:o_->G_->Prop}(h:aR[i]?=some x)(q:Q x st):wpS (m_ prog w) A E s (Ot aR i) Q st:=by
 rw[elem'_eq,h];exact u_ q
def AllI(xs:Array o_):Prop:=∀(i:Nat) (x:o_),xs[i]?=some x->IsI x
theorem tM{xs:Array o_}{i:Nat}{x:o_}(h:xs[i]?=some x):K xs i=kN x:=by unfold K kN;rw[h]
theorem qW{xs:Array o_}{i:Nat}(h:i < xs.size):∃x,xs[i]?=some x/\K xs i=kN x:=⟨xs[i],getElem?_pos xs i h,tM (getElem?_pos xs i h)⟩
noncomputable def Bey(left:Bool)(key:o_)(aR:Array o_)(base i:Nat):Bool:=if left then decide (K aR (base+i) < kN key) else !decide (kN key < K aR (base+i))
theorem FQ{key:o_}{base i:Nat}{Q:Option Bool->G_->Prop}(hk:kindOf st=M1)(ha:AllI aR)(hx:IsI key)(hi:base+i < aR.size)(h:Q (some (Bey left key aR base i)) st):wpS (m_ prog w) A E s (past left key aR base i) Q st:=by
 obtain⟨x,e,ek⟩:=qW hi;unfold past;refine k_ (qV e ?_);unfold Bey at h;rw[ek] at h;cases left with
 | true=>exact ur hk (ha _ _ e) hx h
 | false=>exact k_ (ur hk hx (ha _ _ e) (u_ h))
section
variable{key:o_}{base:Nat}{P:Nat->Bool}(bo:∀{i:Nat}{Q:Option Bool->G_->Prop},i < n->Q (some (P i)) st->wpS (m_ prog w) A E s (past left key aR base i) Q st)(mono:∀i j,i<=j->j < n->P j=true->P i=true)
include bo mono
theorem yK{lo hi:Nat}{Q:Option Nat->G_->Prop}(h1:lo<=hi)(h2:hi<=n)(h3:∀i,i < lo->P i=true)(h4:∀i,hi<=i->i < n->P i=false)(h:∀k,k<=n->(∀i,i < k->P i=true)->(∀i,k<=i->i < n->P i=false)->Q (some k) st):wpS (m_ prog w) A E s (goF left key aR base n lo hi) Q st:=by
 unfold goF
 refine k_ (MJ (MA (I:=λx c ag=>ag=st/\∃lo hi,c=(none,lo,hi)/\lo<=hi/\hi<=n/\hi - lo<=n - x/\(∀i,i < lo->P i=true)/\∀i,hi<=i->i < n->P i=false)
  (Q:=λc ag=>ag=st/\∃lo hi,c=(none,lo,hi)/\hi<=n/\(∀i,i < hi->P i=true)/\∀i,hi<=i->i < n->P i=false) ?_ ?_ ⟨rfl,lo,hi,rfl,h1,h2,by omega,h3,h4⟩) ?_)
 ·rintro x c ag - hx ⟨rfl,lo,hi,rfl,h1,h2,h5,h3,h4⟩;unfold goM;dsimp only;by_cases ge:lo>=hi
  ·rw[if_pos ge];have:lo=hi:=by omega
   subst this;exact u_ ⟨rfl,lo,lo,rfl,h2,h3,h4⟩
  ·rw[if_neg ge];refine k_ (bo (by omega) ?_);dsimp only;cases e:P (lo+(hi - lo) / 2) with
   | true =>
    rw[if_pos rfl];exact u_ ⟨rfl,_,_,rfl,by omega,h2,by omega,λi b9=>mono i _ (by omega) (by omega) e,h4⟩
   | false =>
    rw[if_neg y_];refine u_ ⟨rfl,_,_,rfl,by omega,by omega,by omega,h3,λi h6 h7=>?_⟩;cases e2:P i with
    | false=>rfl
    | true=>rw[mono _ i h6 h7 e2] at e;cases e
 ·rintro c ag ⟨rfl,lo,hi,rfl,h1,h2,h5,h3,h4⟩;have:lo=hi:=by omega
  subst this;exact⟨rfl,lo,lo,rfl,h2,h3,h4⟩
 ·rintro c ag ⟨rfl,lo,hi,rfl,h2,h3,h4⟩;exact u_ (h hi h2 h3 h4)
end
theorem tV{key:o_}{base aY:Nat}{Q:Option Nat->G_->Prop}(hk:kindOf st=M1)(ha:AllI aR)(hx:IsI key)(hn:base+n<=aR.size)(hh:aY < n)(mono:∀i j,i<=j->j < n->Bey left key aR base j=true->Bey left key aR base i=true)(h:∀k,k<=n->(∀i,i < k->Bey left key aR base i=true)->(∀i,k<=i->i < n->Bey left key aR base i=false)->Q (some k) st):wpS (m_ prog w) A E s (gallop' left key aR base n aY) Q st:=by
 obtain⟨P,hP⟩:∃P,P=Bey left key aR base:=⟨_,rfl⟩;have bo:∀{i:Nat}{Q:Option Bool->G_->Prop},i < n->Q (some (P i)) st->wpS (m_ prog w) A E s (past left key aR base i) Q st:=λ{i Q} hi q=>FQ hk ha hx (by omega) (by rw[←hP];exact q)
 rw[←hP] at mono h;clear hP hn;rw[HL];refine k_ (bo hh ?_);dsimp only;cases eh:P aY with
 | true =>
  rw[if_pos rfl]
  refine k_ (MJ (MA (I:=λx c ag=>ag=st/\∃last a7,c=(none,last,a7)/\last < a7/\x < a7/\last < n - aY/\P (aY+last)=true)
   (Q:=λc ag=>ag=st/\∃last a7,c=(none,last,a7)/\last < a7/\last < n - aY/\P (aY+last)=true/\(a7>=n - aY\/(a7 < n - aY/\P (aY+a7)=false))) ?_ ?_ ⟨rfl,0,1,rfl,by omega,by omega,by omega,eh⟩) ?_)
  ·rintro x c ag - hx ⟨rfl,last,a7,rfl,h1,h2,h3,h4⟩;unfold goR;dsimp only;by_cases ge:a7>=n - aY
   ·rw[if_pos ge];exact u_ ⟨rfl,_,_,rfl,h1,h3,h4,.inl ge⟩
   ·rw[if_neg ge];refine k_ (bo (by omega) ?_);dsimp only;cases e:P (aY+a7) with
    | true =>
     rw[if_neg (by decide)];exact u_ ⟨rfl,_,_,rfl,by omega,by omega,by omega,e⟩
    | false =>
     rw[if_pos (by decide)];exact u_ ⟨rfl,_,_,rfl,h1,h3,h4,.inr ⟨by omega,e⟩⟩
  ·rintro c ag ⟨rfl,last,a7,rfl,h1,h2,h3,h4⟩;exact⟨rfl,last,a7,rfl,h1,h3,h4,.inl (by omega)⟩
  ·rintro c ag ⟨rfl,last,a7,rfl,h1,h3,h4,h5⟩;dsimp only;refine yK bo mono (by omega) (by omega) (λi hi=>mono i _ (by omega) (by omega) h4) (λi h6 h7=>?_) h
   rcases h5 with h5 | ⟨h5,h8⟩
   ·omega
   ·cases e2:P i with
    | false=>rfl
    | true=>rw[mono _ i (by omega) h7 e2] at h8;cases h8
 | false =>
  rw[if_neg y_]
  refine k_ (MJ (MA (I:=λx c ag=>ag=st/\∃last a7,c=(none,last,a7)/\last < a7/\x < a7/\last < aY+1/\P (aY - last)=false)
   (Q:=λc ag=>ag=st/\∃last a7,c=(none,last,a7)/\last < a7/\last < aY+1/\P (aY - last)=false/\(a7>=aY+1\/(a7 < aY+1/\P (aY - a7)=true))) ?_ ?_ ⟨rfl,0,1,rfl,by omega,by omega,by omega,eh⟩) ?_)
  ·rintro x c ag - hx ⟨rfl,last,a7,rfl,h1,h2,h3,h4⟩;unfold goL;dsimp only;by_cases ge:a7>=aY+1
   ·rw[if_pos ge];exact u_ ⟨rfl,_,_,rfl,h1,h3,h4,.inl ge⟩
   ·rw[if_neg ge];refine k_ (bo (by omega) ?_);dsimp only;cases e:P (aY - a7) with
    | true =>
     rw[if_pos rfl];exact u_ ⟨rfl,_,_,rfl,h1,h3,h4,.inr ⟨by omega,e⟩⟩
    | false =>
     rw[if_neg y_];exact u_ ⟨rfl,_,_,rfl,by omega,by omega,by omega,e⟩
  ·rintro c ag ⟨rfl,last,a7,rfl,h1,h2,h3,h4⟩;exact⟨rfl,last,a7,rfl,h1,h3,h4,.inl (by omega)⟩
  ·rintro c ag ⟨rfl,last,a7,rfl,h1,h3,h4,h5⟩;dsimp only;refine yK bo mono (by omega) (by omega) (λi hi=>?_) (λi h6 h7=>?_) h
   ·rcases h5 with h5 | ⟨h5,h8⟩
    ·omega
    ·exact mono i _ (by omega) (by omega) h8
   ·cases e2:P i with
    | false=>rfl
    | true=>rw[mono _ i (by omega) h7 e2] at h4;cases h4
end
noncomputable def setG(g:Nat):StateT G_ Sem Unit:=modify λst=>setGal st g
abbrev C1:=Option (Array o_)×Array o_×Nat×Nat×Nat×Nat
abbrev C2:=Option (Array o_)×Array o_×Nat×Nat×Nat×Nat×Nat
abbrev C0:=Option (Array o_)×Array o_×Nat×Nat×Nat
noncomputable def dnA(a b ak:Array o_)(ia ib:Nat):Array o_:=ak++a.extract ia a.size++b.extract ib b.size
noncomputable def lsA(a b ak:Array o_)(ia ib:Nat):Array o_:=ak++b.extract ib b.size++a.extract ia a.size
noncomputable def one1(a b:Array o_)(mg:Nat)(_:Nat)(c:C1):StateT G_ Sem (ForInStep C1):=do
 let y ←Ot b c.2.2.2.1
 let x ←Ot a c.2.2.1
 match ←lt' y x with
 | some bWins =>
  if bWins then do
   let y ←Ot b c.2.2.2.1
   if(c.2.2.2.1+1 == b.size)=true then pure (.done (some (dnA a b (c.2.1.push y) c.2.2.1 (c.2.2.2.1+1)),c.2.1.push y,c.2.2.1,c.2.2.2.1+1,0,c.2.2.2.2.2+1))
   else if c.2.2.2.2.2+1>=mg then pure (.done (none,c.2.1.push y,c.2.2.1,c.2.2.2.1+1,0,c.2.2.2.2.2+1))
   else pure (.yield (none,c.2.1.push y,c.2.2.1,c.2.2.2.1+1,0,c.2.2.2.2.2+1))
  else do
   let x ←Ot a c.2.2.1
   if(c.2.2.1+1+1 == a.size)=true then pure (.done (some (lsA a b (c.2.1.push x) (c.2.2.1+1) c.2.2.2.1),c.2.1.push x,c.2.2.1+1,c.2.2.2.1,c.2.2.2.2.1+1,0))
   else if c.2.2.2.2.1+1>=mg then pure (.done (none,c.2.1.push x,c.2.2.1+1,c.2.2.2.1,c.2.2.2.2.1+1,0))
   else pure (.yield (none,c.2.1.push x,c.2.2.1+1,c.2.2.2.1,c.2.2.2.2.1+1,0))
 | _=>pure (.done (some (dnA a b c.2.1 c.2.2.1 c.2.2.2.1),c.2.1,c.2.2.1,c.2.2.2.1,c.2.2.2.2.1,c.2.2.2.2.2))
noncomputable def gT2(a b ak:Array o_)(ia ib mg ac k:Nat):StateT G_ Sem (ForInStep C2):=do
 let x ←Ot a ia
 if(ia+1+1 == a.size)=true then pure (.done (some (lsA a b (ak.push x) (ia+1) ib),ak.push x,ia+1,ib,mg,ac,k))
 else if(decide (ac < 7)&&decide (k < 7))=true then pure (.done (none,ak.push x,ia+1,ib,mg,ac,k))
 else pure (.yield (none,ak.push x,ia+1,ib,mg,ac,k))
noncomputable def gT1(a b ak:Array o_)(ia ib mg ac bc:Nat):StateT G_ Sem (ForInStep C2):=do
 let y ←Ot b ib
 if(ib+1 == b.size)=true then pure (.done (some (dnA a b (ak.push y) ia (ib+1)),ak.push y,ia,ib+1,mg,ac,bc))
 else do
  let x ←Ot a ia
  match ←gallop' true x b (ib+1) (b.size - (ib+1)) 0 with
  | some k =>
   if k > 0 then
    if(ib+1+k == b.size)=true then pure (.done (some (dnA a b (ak.push y++b.extract (ib+1) (ib+1+k)) ia (ib+1+k)),ak.push y++b.extract (ib+1) (ib+1+k),ia,ib+1+k,mg,ac,k))
    else gT2 a b (ak.push y++b.extract (ib+1) (ib+1+k)) ia (ib+1+k) mg ac k
   else gT2 a b (ak.push y) ia (ib+1) mg ac k
  | _=>pure (.done (some (dnA a b (ak.push y) ia (ib+1)),ak.push y,ia,ib+1,mg,ac,bc))
noncomputable def gB(a b ak:Array o_)(ia ib mg ac bc:Nat):StateT G_ Sem (ForInStep C2):=do
 setG mg
 let y ←Ot b ib
 match ←gallop' false y a ia (a.size - ia) 0 with
 | some k =>
  if k > 0 then
   if(ia+k+1 == a.size)=true then pure (.done (some (lsA a b (ak++a.extract ia (ia+k)) (ia+k) ib),ak++a.extract ia (ia+k),ia+k,ib,mg,k,bc))
   else if(ia+k == a.size)=true then pure (.done (some (dnA a b (ak++a.extract ia (ia+k)) (ia+k) ib),ak++a.extract ia (ia+k),ia+k,ib,mg,k,bc))
   else gT1 a b (ak++a.extract ia (ia+k)) (ia+k) ib mg k bc
  else gT1 a b ak ia ib mg k bc
 | _=>pure (.done (some (dnA a b ak ia ib),ak,ia,ib,mg,ac,bc))
noncomputable def two1(a b:Array o_)(_:Nat)(c:C2):StateT G_ Sem (ForInStep C2):=
 if c.2.2.2.2.1 > 1 then gB a b c.2.1 c.2.2.1 c.2.2.2.1 (c.2.2.2.2.1 - 1) c.2.2.2.2.2.1 c.2.2.2.2.2.2
 else gB a b c.2.1 c.2.2.1 c.2.2.2.1 c.2.2.2.2.1 c.2.2.2.2.2.1 c.2.2.2.2.2.2
noncomputable def out1(a b:Array o_)(_:Nat)(c:C0):StateT G_ Sem (ForInStep C0):=do
 let s1 ←forIn [0:a.size+b.size] ((none,c.2.1,c.2.2.1,c.2.2.2.1,0,0):C1) (one1 a b c.2.2.2.2)
 match s1.1 with
 | some r=>pure (.done (some r,s1.2.1,s1.2.2.1,s1.2.2.2.1,c.2.2.2.2))
 | none=>do
  Sn "list.sort.gallop"
  let s2 ←forIn [0:a.size+b.size] ((none,s1.2.1,s1.2.2.1,s1.2.2.2.1,c.2.2.2.2+1,s1.2.2.2.2.1,s1.2.2.2.2.2):C2) (two1 a b)
  match s2.1 with
  | some r=>pure (.done (some r,s2.2.1,s2.2.2.1,s2.2.2.2.1,s2.2.2.2.2.1))
  | none=>do
   setG (s2.2.2.2.2.1+1)
   pure (.yield (none,s2.2.1,s2.2.2.1,s2.2.2.2.1,s2.2.2.2.2.1+1))
theorem GT(a b:Array o_):mergeLo' a b=(do
 Sn "list.sort.merge-lo"
 let y ←Ot b 0
 if(1 == b.size)=true then pure (dnA a b #[y] 0 1)
 else if(0+1 == a.size)=true then pure (lsA a b #[y] 0 1)
 else do
  let st ←get
  let s ←forIn [0:a.size+b.size] ((none,#[y],0,1,PY st):C0) (out1 a b)
  match s.1 with
  | some r=>pure r
  | none=>S3 "internal:list.sort.merge-bound"):=by kernel_rfl
def SL(l:List o_):Prop:=l.Pairwise λx y=>kN x<=kN y
def Le(l m:List o_):Prop:=∀x∈l,∀y∈m,kN x<=kN y
theorem SL.app{l m:List o_}(h:SL l)(h':SL m)(c:Le l m):SL (l++m):=Pp.mpr ⟨h,h',c⟩
theorem SL.take{l:List o_}(h:SL l)(k:Nat):SL (l.take k):=h.sublist (P6 _ _)
theorem SL.drop{l:List o_}(h:SL l)(k:Nat):SL (l.drop k):=h.sublist (SJ _ _)
theorem SL.cut{l:List o_}(h:SL l)(k:Nat):Le (l.take k) (l.drop k):=λx hx y hy=>by
 have:=h;unfold SL at this;rw[←MM k l] at this;exact(Pp.mp this).2.2 x hx y hy
structure MI(la lb o:List o_)(ia ib:Nat):Prop where
 perm:o.Perm (la.take ia++lb.take ib)
 srt:SL o
 toA:Le o (la.drop ia)
 toB:Le o (lb.drop ib)
theorem MI.a{o:List o_}(h:MI la lb o ia ib)(sa:SL la)(k:Nat)(c:Le ((la.drop ia).take k) (lb.drop ib)):MI la lb (o++(la.drop ia).take k) (ia+k) ib:=by
 have tk:la.take (ia+k)=la.take ia++(la.drop ia).take k:=List.take_add;refine⟨?_,h.srt.app ((sa.drop ia).take k) λx hx y hy=>h.toA x hx y (Mh hy),λx hx y hy=>?_,λx hx y hy=>?_⟩
 ·rw[tk];have:=h.perm.append_right ((la.drop ia).take k);refine this.trans ?_;rw[MR,MR];exact Qa _ Np
 ·rw[←PF] at hy
  rcases Mc.mp hx with hx | hx
  ·exact h.toA x hx y (MD hy)
  ·exact(sa.drop ia).cut k x hx y hy
 ·rcases Mc.mp hx with hx | hx
  ·exact h.toB x hx y hy
  ·exact c x hx y hy
theorem MI.swap{o:List o_}(h:MI la lb o ia ib):MI lb la o ib ia:=⟨h.perm.trans Np,h.srt,h.toB,h.toA⟩
theorem MI.b{o:List o_}(h:MI la lb o ia ib)(sb:SL lb)(k:Nat)(c:Le ((lb.drop ib).take k) (la.drop ia)):MI la lb (o++(lb.drop ib).take k) ia (ib+k):=(h.swap.a sb k c).swap
theorem MI.done{o:List o_}(h:MI la lb o ia ib)(sa:SL la)(sb:SL lb)(c:Le (la.drop ia) (lb.drop ib)):SL (o++la.drop ia++lb.drop ib)/\(o++la.drop ia++lb.drop ib).Perm (la++lb):=by
 refine⟨(h.srt.app (sa.drop ia) h.toA).app (sb.drop ib) λx hx y hy=>?_,?_⟩
 ·rcases Mc.mp hx with hx | hx
  ·exact h.toB x hx y hy
  ·exact c x hx y hy
 ·have e:la++lb=(la.take ia++la.drop ia)++(lb.take ib++lb.drop ib):=by rw[MM,MM]
  rw[e];refine((h.perm.append_right _).append_right _).trans ?_;simp only[MR];refine Qa _ ?_;rw[←MR,←MR];exact append_right _ Np
theorem vq(a:Array o_)(i:Nat):(a.extract i a.size).toList=a.toList.drop i:=by
 rw[O_,Ol,L6 (by simp)]
theorem Ae(a:Array o_)(i k:Nat):(a.extract i (i+k)).toList=(a.toList.drop i).take k:=by
 rw[O_,Ol]
 congr 1
 omega
def Fin(a b r:Array o_):Prop:=SL r.toList/\r.toList.Perm (a.toList++b.toList)
structure Two(a b:Array o_):Prop where
 ai:AllI a
 bi:AllI b
 sa:SL a.toList
 sb:SL b.toList
 last:Le b.toList (a.toList.drop (a.size - 1))
theorem Two.fin1{a b o:Array o_}(T:Two a b)(mi:MI a.toList b.toList o.toList ia ib)(c:b.size<=ib\/a.size<=ia):Fin a b (dnA a b o ia ib):=by
 have:=mi.done T.sa T.sb λx hx y hy=>by
  rcases c with c | c
  ·rw[M0 (by simpa using c)] at hy;cases hy
  ·rw[M0 (by simpa using c)] at hx;cases hx
 unfold Fin dnA;rw[MQ,MQ,vq,vq];exact this
theorem Two.fin2{a b o:Array o_}(T:Two a b)(mi:MI a.toList b.toList o.toList ia ib)(c:ia+1=a.size):Fin a b (lsA a b o ia ib):=by
 have:=mi.swap.done T.sb T.sa λx hx y hy=>T.last x (MD hx) y (by rw[show a.size - 1=ia by omega];exact hy)
 unfold Fin lsA;rw[MQ,MQ,vq,vq];exact⟨this.1,this.2.trans Np⟩
theorem rD{a:Array o_}{i:Nat}{x:o_}(h:a[i]?=some x):a.toList.drop i=x::a.toList.drop (i+1)/\(a.toList.drop i).take 1=[x]:=by
 have hl:i < a.toList.length:=by
  rcases N4 i a.toList.length with q | q
  ·exact q
  ·rw[←Mi,M3 q] at h;cases h
 have e:=LV hl
 have:a.toList[i]=x:=by
  rw[←Mi,h_ hl] at h;exact L0 h
 rw[this] at e;exact⟨e,by rw[e];rfl⟩
theorem uv{a:Array o_}{i:Nat}{x:o_}(s:SL a.toList)(h:a[i]?=some x):∀y∈a.toList.drop i,kN x<=kN y:=by
 have:=s.drop i;rw[(rD h).1] at this ⊢;intro y hy
 rcases n_.mp hy with rfl | hy
 ·exact L9 _
 ·exact(I_.mp this).1 y hy
theorem rZ{a:Array o_}(s:SL a.toList){i:Nat}(h:i<=j)(hj:j < a.size):K a i<=K a j:=by
 obtain⟨x,ex,kx⟩:=qW (xs:=a) (i:=i) (by omega);obtain⟨y,ey,ky⟩:=qW hj;rw[kx,ky];refine uv s ex y ?_;rw[←Mi] at ey;have:(a.toList.drop i)[j - i]?=some y:=by rw[Op,show i+(j - i)=j by omega];exact ey
 exact Mf this
theorem uM{a:Array o_}{i k:Nat}{x:o_}(h:x∈(a.toList.drop i).take k):∃j,j < k/\i+j < a.size/\kN x=K a (i+j):=by
 obtain⟨j,hj,e⟩:=Pj.mp h;rw[L5,ME,LS] at hj;refine⟨j,by omega,by omega,?_⟩
 have e2:a[i+j]?=some x:=by
  rw[←Mi,←e,Qb,Q7];exact h_ _
 exact(tM e2).symm
theorem Be{a:Array o_}{i:Nat}{x:o_}(h:x∈a.toList.drop i):∃j,i<=j/\j < a.size/\kN x=K a j:=by
 obtain⟨j,hj,e⟩:=Pj.mp h;rw[ME,LS] at hj;refine⟨i+j,by omega,by omega,?_⟩
 have e2:a[i+j]?=some x:=by
  rw[←Mi,←e,Q7];exact h_ _
 exact(tM e2).symm
section
variable{prog:B_}{w:J_}{E:b_->d_->Prop}{s:d_}{st:G_}{a b ak:Array o_}{n0:Nat}
structure On(a b ak:Array o_)(ia ib n0:Nat):Prop where
 mi:MI a.toList b.toList ak.toList ia ib
 ha:ia+1 < a.size
 hb:ib < b.size
 hn:n0<=ia+ib
def P2(a b:Array o_)(st:G_)(n0:Nat)(c:C2)(ag:G_):Prop:=(∃g,ag=setGal st g)/\((∃r,c.1=some r/\Fin a b r)\/(c.1=none/\On a b c.2.1 c.2.2.1 c.2.2.2.1 n0))
def R2(a b:Array o_)(st:G_)(n0:Nat)(r:ForInStep C2)(ag:G_):Prop:=match r with
 | .done c=>P2 a b st n0 c ag
 | .yield c=>c.1=none/\P2 a b st n0 c ag
theorem zt{mg k g:Nat}(T:Two a b)(o:On a b ak ia ib n0)(c:Le ((a.toList.drop ia).take 1) (b.toList.drop ib)):wpS (m_ prog w) A E s (gT2 a b ak ia ib mg ac k) (R2 a b st n0) (setGal st g):=by
 obtain⟨mi,ha,hb,hn⟩:=o;obtain⟨x,ex,_⟩:=qW (xs:=a) (i:=ia) (by omega);have m1:=mi.a T.sa 1 c;rw[(rD ex).2,←O'] at m1;unfold gT2;refine k_ (qV ex ?_);by_cases e:ia+1+1=a.size
 ·rw[if_pos (by simpa using e)];exact u_ ⟨⟨g,rfl⟩,.inl ⟨_,rfl,T.fin2 m1 e⟩⟩
 ·rw[if_neg (by simpa using e)];have on:On a b (ak.push x) (ia+1) ib n0:=⟨m1,by omega,hb,by omega⟩;split
  ·exact u_ ⟨⟨g,rfl⟩,.inr ⟨rfl,on⟩⟩
  ·exact u_ ⟨rfl,⟨g,rfl⟩,.inr ⟨rfl,on⟩⟩
theorem Bz{mg g:Nat}(hk:kindOf st=M1)(T:Two a b)(o:On a b ak ia ib n0)(c:Le ((b.toList.drop ib).take 1) (a.toList.drop ia)):wpS (m_ prog w) A E s (gT1 a b ak ia ib mg ac bc) (R2 a b st n0) (setGal st g):=by
 obtain⟨mi,ha,hb,hn⟩:=o;obtain⟨y,ey,_⟩:=qW (xs:=b) (i:=ib) (by omega);obtain⟨x,ex,kx⟩:=qW (xs:=a) (i:=ia) (by omega);have m1:=mi.b T.sb 1 c;rw[(rD ey).2,←O'] at m1;unfold gT1;refine k_ (qV ey ?_);by_cases e:ib+1=b.size
 ·rw[if_pos (by simpa using e)];exact u_ ⟨⟨g,rfl⟩,.inl ⟨_,rfl,T.fin1 m1 (.inl (by omega))⟩⟩
 ·rw[if_neg (by simpa using e)];refine k_ (qV ex ?_);refine k_ (tV (by exact hk) T.bi (T.ai _ _ ex) (by omega) (by omega) (λi j h1 h2 h3=>?_) λk eA cu cA=>?_)
  ·simp only[Bey,if_true,decide_eq_true_eq] at h3 ⊢;have:=rZ T.sb (i:=ib+1+i) (j:=ib+1+j) (by omega) (by omega);omega
  ·simp only[Bey,if_true,decide_eq_true_eq,decide_eq_false_iff_not] at cu cA;dsimp only;have lx:=uv T.sa ex
   have after:∀i0,ib+1+k<=i0->Le ((a.toList.drop ia).take 1) (b.toList.drop i0):=λi0 h0 z hz v hv=>by
    rw[(rD ex).2,q_] at hz;subst hz;obtain⟨j,j1,j2,j3⟩:=Be hv;have:=cA (j - (ib+1)) (by omega) (by omega);rw[show ib+1+(j - (ib+1))=j by omega] at this;omega
   by_cases k0:k > 0
   ·rw[if_pos k0]
    have m2:=m1.b T.sb k λz hz v hv=>by
     obtain⟨j,j1,j2,j3⟩:=uM hz;have:=cu j j1;have:=lx v hv;omega
    rw[←Ae,←MQ] at m2;by_cases e2:ib+1+k=b.size
    ·rw[if_pos (by simpa using e2)];exact u_ ⟨⟨g,rfl⟩,.inl ⟨_,rfl,T.fin1 m2 (.inl (by omega))⟩⟩
    ·rw[if_neg (by simpa using e2)];exact zt T ⟨m2,ha,by omega,by omega⟩ (after _ (A_ _))
   ·rw[if_neg k0];exact zt T ⟨m1,ha,by omega,by omega⟩ (after _ (by omega))
theorem Hl{mg g:Nat}(hk:kindOf st=M1)(T:Two a b)(o:On a b ak ia ib n0):wpS (m_ prog w) A E s (gB a b ak ia ib mg ac bc) (R2 a b st n0) (setGal st g):=by
 obtain⟨mi,ha,hb,hn⟩:=o;obtain⟨y,ey,ky⟩:=qW (xs:=b) (i:=ib) (by omega);unfold gB setG;refine k_ (N2 ?_);show wpS _ _ _ _ _ _ (setGal st mg);refine k_ (qV ey ?_);refine k_ (tV (by exact hk) T.ai (T.bi _ _ ey) (by omega) (by omega) (λi j h1 h2 h3=>?_) λk eA cu cA=>?_)
 ·simp only[Bey,MX,if_false,NE,decide_eq_false_iff_not] at h3 ⊢;have:=rZ T.sa (i:=ia+i) (j:=ia+j) (by omega) (by omega);omega
 ·simp only[Bey,MX,if_false,NE,Ql,decide_eq_true_eq,decide_eq_false_iff_not] at cu cA;dsimp only;have ly:=uv T.sb ey
  have after:∀i0,ia+k<=i0->Le ((b.toList.drop ib).take 1) (a.toList.drop i0):=λi0 h0 z hz v hv=>by
   rw[(rD ey).2,q_] at hz;subst hz;obtain⟨j,j1,j2,j3⟩:=Be hv;have:=cA (j - ia) (by omega) (by omega);rw[show ia+(j - ia)=j by omega] at this;omega
  by_cases k0:k > 0
  ·rw[if_pos k0]
   have m2:=mi.a T.sa k λz hz v hv=>by
    obtain⟨j,j1,j2,j3⟩:=uM hz;have:=cu j j1;have:=ly v hv;omega
   rw[←Ae,←MQ] at m2;by_cases e1:ia+k+1=a.size
   ·rw[if_pos (by simpa using e1)];exact u_ ⟨⟨mg,rfl⟩,.inl ⟨_,rfl,T.fin2 m2 e1⟩⟩
   ·rw[if_neg (by simpa using e1)];by_cases e2:ia+k=a.size
    ·rw[if_pos (by simpa using e2)];exact u_ ⟨⟨mg,rfl⟩,.inl ⟨_,rfl,T.fin1 m2 (.inr (by omega))⟩⟩
    ·rw[if_neg (by simpa using e2)];exact Bz hk T ⟨m2,by omega,hb,by omega⟩ (after _ (A_ _))
  ·rw[if_neg k0];exact Bz hk T ⟨mi,ha,hb,hn⟩ (after _ (by omega))
end
section
variable{prog:B_}{w:J_}{E:b_->d_->Prop}{s:d_}{st:G_}{a b ak:Array o_}{n0:Nat}
def P1(a b:Array o_)(st:G_)(n0:Nat)(c:C1)(ag:G_):Prop:=(∃g,ag=setGal st g)/\((∃r,c.1=some r/\Fin a b r)\/(c.1=none/\On a b c.2.1 c.2.2.1 c.2.2.2.1 n0))
theorem J8{mg x g:Nat}(hk:kindOf st=M1)(T:Two a b)(o:On a b ak ia ib n0):wpS (m_ prog w) A E s (one1 a b mg x (none,ak,ia,ib,ac,bc)) (λr ag=>match r with
  | .done c=>P1 a b st (n0+1) c ag
  | .yield c=>c.1=none/\P1 a b st (n0+1) c ag) (setGal st g):=by
 obtain⟨mi,ha,hb,hn⟩:=o;obtain⟨y,ey,ky⟩:=qW (xs:=b) (i:=ib) (by omega);obtain⟨x,ex,kx⟩:=qW (xs:=a) (i:=ia) (by omega);have lx:=uv T.sa ex;have ly:=uv T.sb ey;unfold one1;dsimp only;refine k_ (qV ey (k_ (qV ex (k_ (ur (by exact hk) (T.bi _ _ ey) (T.ai _ _ ex) ?_)))));dsimp only;by_cases l:kN y < kN x
 ·rw[if_pos (by simpa using l)]
  have m1:=mi.b T.sb 1 λz hz v hv=>by
   rw[(rD ey).2,q_] at hz;subst hz;have:=lx v hv;omega
  rw[(rD ey).2,←O'] at m1;refine k_ (qV ey ?_);by_cases e:ib+1=b.size
  ·rw[if_pos (by simpa using e)];exact u_ ⟨⟨g,rfl⟩,.inl ⟨_,rfl,T.fin1 m1 (.inl (by omega))⟩⟩
  ·rw[if_neg (by simpa using e)];have on:On a b (ak.push y) ia (ib+1) (n0+1):=⟨m1,ha,by omega,by omega⟩;split
   ·exact u_ ⟨⟨g,rfl⟩,.inr ⟨rfl,on⟩⟩
   ·exact u_ ⟨rfl,⟨g,rfl⟩,.inr ⟨rfl,on⟩⟩
 ·rw[if_neg (by simpa using l)]
  have m1:=mi.a T.sa 1 λz hz v hv=>by
   rw[(rD ex).2,q_] at hz;subst hz;have:=ly v hv;omega
  rw[(rD ex).2,←O'] at m1;refine k_ (qV ex ?_);by_cases e:ia+1+1=a.size
  ·rw[if_pos (by simpa using e)];exact u_ ⟨⟨g,rfl⟩,.inl ⟨_,rfl,T.fin2 m1 e⟩⟩
  ·rw[if_neg (by simpa using e)];have on:On a b (ak.push x) (ia+1) ib (n0+1):=⟨m1,by omega,hb,by omega⟩;split
   ·exact u_ ⟨⟨g,rfl⟩,.inr ⟨rfl,on⟩⟩
   ·exact u_ ⟨rfl,⟨g,rfl⟩,.inr ⟨rfl,on⟩⟩
theorem On.less(o:On a b ak ia ib n0)(h:m<=n0):On a b ak ia ib m:=⟨o.mi,o.ha,o.hb,by have:=o.hn;omega⟩
theorem GX{x mg g:Nat}(hk:kindOf st=M1)(T:Two a b)(o:On a b ak ia ib n0):wpS (m_ prog w) A E s (out1 a b x (none,ak,ia,ib,mg)) (λr ag=>match r with
  | .done c=>(∃g,ag=setGal st g)/\∃r,c.1=some r/\Fin a b r
  | .yield c=>c.1=none/\(∃g,ag=setGal st g)/\On a b c.2.1 c.2.2.1 c.2.2.2.1 (n0+1)) (setGal st g):=by
 have ha:=o.ha;have hb:=o.hb;unfold out1;dsimp only;refine k_ (MJ (MA (I:=λx c ag=>(∃g,ag=setGal st g)/\c.1=none/\On a b c.2.1 c.2.2.1 c.2.2.2.1 (n0+x)) (Q:=P1 a b st (n0+1)) ?_ ?_ ⟨⟨g,rfl⟩,rfl,o⟩) ?_)
 ·rintro x ⟨r,o1,i1,j1,c1,d1⟩ ag - hx ⟨⟨g,rfl⟩,h1,h2⟩;dsimp only at h1 h2;subst h1;refine MJ (J8 hk T h2) λr ag q=>?_
  cases r with
  | done c =>
   refine⟨q.1,?_⟩
   rcases q.2 with q | q
   ·exact .inl q
   ·exact .inr ⟨q.1,q.2.less (by omega)⟩
  | yield c =>
   obtain⟨q0,q1,q2⟩:=q;refine⟨q1,q0,?_⟩
   rcases q2 with⟨r,q2,_⟩ | ⟨_,q2⟩
   ·rw[q0] at q2;cases q2
   ·exact q2
 ·rintro⟨r,o1,i1,j1,c1,d1⟩ ag ⟨h0,h1,h2⟩;exact⟨h0,.inr ⟨h1,h2.less (by omega)⟩⟩
 ·rintro⟨r,o1,i1,j1,c1,d1⟩ ag ⟨⟨g,rfl⟩,h2⟩
  rcases h2 with⟨r',e,h2⟩ | ⟨e,h2⟩
  ·dsimp only at e;subst e;exact u_ ⟨⟨g,rfl⟩,r',rfl,h2⟩
  ·dsimp only at e h2;subst e;dsimp only;refine k_ (QA (MZ ⟨rfl,?_⟩));refine k_ (MJ (MA (I:=λx c ag=>(∃g,ag=setGal st g)/\c.1=none/\On a b c.2.1 c.2.2.1 c.2.2.2.1 (n0+1)) (Q:=P2 a b st (n0+1)) ?_ ?_ ⟨⟨g,rfl⟩,rfl,h2⟩) ?_)
   ·rintro x ⟨r,o2,i2,j2,m2,c2,d2⟩ ag - hx ⟨⟨g,rfl⟩,h1,h2⟩;dsimp only at h1 h2;subst h1;unfold two1;dsimp only;split
    all_goals
     refine MJ (Hl hk T h2) λr ag q=>?_
     cases r with
     | done c=>exact q
     | yield c =>
      obtain⟨q0,q1,q2⟩:=q;refine⟨q1,q0,?_⟩
      rcases q2 with⟨r,q2,_⟩ | ⟨_,q2⟩
      ·rw[q0] at q2;cases q2
      ·exact q2
   ·rintro⟨r,o2,i2,j2,m2,c2,d2⟩ ag ⟨h0,h1,h2⟩;exact⟨h0,.inr ⟨h1,h2⟩⟩
   ·rintro⟨r,o2,i2,j2,m2,c2,d2⟩ ag ⟨⟨g,rfl⟩,h2⟩
    rcases h2 with⟨r',e,h2⟩ | ⟨e,h2⟩
    ·dsimp only at e;subst e;exact u_ ⟨⟨g,rfl⟩,r',rfl,h2⟩
    ·dsimp only at e h2;subst e;dsimp only;unfold setG;exact k_ (N2 (u_ ⟨rfl,⟨m2+1,rfl⟩,h2⟩))
theorem JW{Q:Array o_->G_->Prop}(hk:kindOf st=M1)(T:Two a b)(na:1<=a.size)(nb:1<=b.size)(first:Le (b.toList.take 1) a.toList)(h:∀r g,Fin a b r->Q r (setGal st g)):
  wpS (m_ prog w) A E s (mergeLo' a b) Q st:=by
 obtain⟨y,ey,_⟩:=qW (xs:=b) (i:=0) (by omega);have m0:MI a.toList b.toList ([]:List o_) 0 0:=⟨by simp,Nn.nil,λx hx=>(by cases hx),λx hx=>(by cases hx)⟩;have m1:=m0.b T.sb 1 (by simpa using first);rw[(rD ey).2] at m1;have m1:MI a.toList b.toList (#[y]:Array o_).toList 0 1:=m1;rw[GT];refine k_ (QA (MZ ⟨rfl,?_⟩));refine k_ (qV ey ?_);by_cases e1:1=b.size
 ·rw[if_pos (by simpa using e1)];exact u_ (h _ (PY st) (T.fin1 m1 (.inl (by omega))))
 ·rw[if_neg (by simpa using e1)];by_cases e2:0+1=a.size
  ·rw[if_pos (by simpa using e2)];exact u_ (h _ (PY st) (T.fin2 m1 e2))
  ·rw[if_neg (by simpa using e2)];have o1:On a b #[y] 0 1 1:=⟨m1,by omega,by omega,by omega⟩;refine k_ (Py ?_);refine k_ (MJ (MA (I:=λx c ag=>(∃g,ag=setGal st g)/\c.1=none/\On a b c.2.1 c.2.2.1 c.2.2.2.1 (x+1)) (Q:=λc ag=>(∃g,ag=setGal st g)/\∃r,c.1=some r/\Fin a b r) ?_ ?_ ⟨⟨PY st,rfl⟩,rfl,o1⟩) ?_)
   ·rintro x ⟨r,o1,i1,j1,m1⟩ ag - hx ⟨⟨g,rfl⟩,h1,h2⟩;dsimp only at h1 h2;subst h1;refine MJ (GX hk T h2) λr ag q=>?_
    cases r with
    | done c=>exact q
    | yield c=>exact⟨q.2.1,q.1,q.2.2⟩
   ·rintro⟨r,o1,i1,j1,m1⟩ ag ⟨h0,h1,h2⟩;have:=h2.ha;have:=h2.hb;have:=h2.hn;dsimp only at *;omega
   ·rintro⟨r,o1,i1,j1,m1⟩ ag ⟨⟨g,rfl⟩,r',e,h2⟩;dsimp only at e;subst e;exact u_ (h r' g h2)
end
abbrev D1:=Option (Array o_)×Nat×Nat×Array o_×Nat×Nat
abbrev D2:=Option (Array o_)×Nat×Nat×Array o_×Nat×Nat×Nat
abbrev D0:=Option (Array o_)×Nat×Nat×Array o_×Nat
noncomputable def dnH(a b ak:Array o_)(na nb:Nat):Array o_:=a.extract 0 na++b.extract 0 nb++ak.reverse
noncomputable def fsB(a b ak:Array o_)(na nb:Nat):Array o_:=b.extract 0 nb++a.extract 0 na++ak.reverse
noncomputable def oneH(a b:Array o_)(mg:Nat)(_:Nat)(c:D1):StateT G_ Sem (ForInStep D1):=do
 let y ←Ot b (c.2.2.1 - 1)
 let x ←Ot a (c.2.1 - 1)
 match ←lt' y x with
 | some aWins =>
  if aWins then do
   let x ←Ot a (c.2.1 - 1)
   if(c.2.1 - 1 == 0)=true then pure (.done (some (dnH a b (c.2.2.2.1.push x) (c.2.1 - 1) c.2.2.1),c.2.1 - 1,c.2.2.1,c.2.2.2.1.push x,c.2.2.2.2.1+1,0))
   else if c.2.2.2.2.1+1>=mg then pure (.done (none,c.2.1 - 1,c.2.2.1,c.2.2.2.1.push x,c.2.2.2.2.1+1,0))
   else pure (.yield (none,c.2.1 - 1,c.2.2.1,c.2.2.2.1.push x,c.2.2.2.2.1+1,0))
  else do
   let y ←Ot b (c.2.2.1 - 1)
   if(c.2.2.1 - 1 == 1)=true then pure (.done (some (fsB a b (c.2.2.2.1.push y) c.2.1 (c.2.2.1 - 1)),c.2.1,c.2.2.1 - 1,c.2.2.2.1.push y,0,c.2.2.2.2.2+1))
   else if c.2.2.2.2.2+1>=mg then pure (.done (none,c.2.1,c.2.2.1 - 1,c.2.2.2.1.push y,0,c.2.2.2.2.2+1))
   else pure (.yield (none,c.2.1,c.2.2.1 - 1,c.2.2.2.1.push y,0,c.2.2.2.2.2+1))
 | _=>pure (.done (some (dnH a b c.2.2.2.1 c.2.1 c.2.2.1),c.2.1,c.2.2.1,c.2.2.2.1,c.2.2.2.2.1,c.2.2.2.2.2))
noncomputable def hT2(a b ak:Array o_)(na nb mg ac bc:Nat):StateT G_ Sem (ForInStep D2):=do
 let x ←Ot a (na - 1)
 if(na - 1 == 0)=true then pure (.done (some (dnH a b (ak.push x) (na - 1) nb),na - 1,nb,ak.push x,mg,ac,bc))
 else if(decide (ac < 7)&&decide (bc < 7))=true then pure (.done (none,na - 1,nb,ak.push x,mg,ac,bc))
 else pure (.yield (none,na - 1,nb,ak.push x,mg,ac,bc))
noncomputable def hT1(a b ak:Array o_)(na nb mg ac bc:Nat):StateT G_ Sem (ForInStep D2):=do
 let y ←Ot b (nb - 1)
 if(nb - 1 == 1)=true then pure (.done (some (fsB a b (ak.push y) na (nb - 1)),na,nb - 1,ak.push y,mg,ac,bc))
 else do
  let x ←Ot a (na - 1)
  match ←gallop' true x b 0 (nb - 1) (nb - 1 - 1) with
  | some k =>
   if nb - 1 - k > 0 then
    if(k == 1)=true then pure (.done (some (fsB a b (ak.push y++(b.extract k (nb - 1)).reverse) na k),na,k,ak.push y++(b.extract k (nb - 1)).reverse,mg,ac,nb - 1 - k))
    else if(k == 0)=true then pure (.done (some (dnH a b (ak.push y++(b.extract k (nb - 1)).reverse) na k),na,k,ak.push y++(b.extract k (nb - 1)).reverse,mg,ac,nb - 1 - k))
    else hT2 a b (ak.push y++(b.extract k (nb - 1)).reverse) na k mg ac (nb - 1 - k)
   else hT2 a b (ak.push y) na (nb - 1) mg ac (nb - 1 - k)
  | _=>pure (.done (some (dnH a b (ak.push y) na (nb - 1)),na,nb - 1,ak.push y,mg,ac,bc))
noncomputable def hB(a b ak:Array o_)(na nb mg ac bc:Nat):StateT G_ Sem (ForInStep D2):=do
 setG mg
 let y ←Ot b (nb - 1)
 match ←gallop' false y a 0 na (na - 1) with
 | some k =>
  if na - k > 0 then
   if(k == 0)=true then pure (.done (some (dnH a b (ak++(a.extract k na).reverse) k nb),k,nb,ak++(a.extract k na).reverse,mg,na - k,bc))
   else hT1 a b (ak++(a.extract k na).reverse) k nb mg (na - k) bc
  else hT1 a b ak na nb mg (na - k) bc
 | _=>pure (.done (some (dnH a b ak na nb),na,nb,ak,mg,ac,bc))
noncomputable def twoH(a b:Array o_)(_:Nat)(c:D2):StateT G_ Sem (ForInStep D2):=
 if c.2.2.2.2.1 > 1 then hB a b c.2.2.2.1 c.2.1 c.2.2.1 (c.2.2.2.2.1 - 1) c.2.2.2.2.2.1 c.2.2.2.2.2.2
 else hB a b c.2.2.2.1 c.2.1 c.2.2.1 c.2.2.2.2.1 c.2.2.2.2.2.1 c.2.2.2.2.2.2
noncomputable def outH(a b:Array o_)(_:Nat)(c:D0):StateT G_ Sem (ForInStep D0):=do
 let s1 ←forIn [0:a.size+b.size] ((none,c.2.1,c.2.2.1,c.2.2.2.1,0,0):D1) (oneH a b c.2.2.2.2)
 match s1.1 with
 | some r=>pure (.done (some r,s1.2.1,s1.2.2.1,s1.2.2.2.1,c.2.2.2.2))
 | none=>do
  Sn "list.sort.gallop"
  let s2 ←forIn [0:a.size+b.size] ((none,s1.2.1,s1.2.2.1,s1.2.2.2.1,c.2.2.2.2+1,s1.2.2.2.2.1,s1.2.2.2.2.2):D2) (twoH a b)
  match s2.1 with
  | some r=>pure (.done (some r,s2.2.1,s2.2.2.1,s2.2.2.2.1,s2.2.2.2.2.1))
  | none=>do
   setG (s2.2.2.2.2.1+1)
   pure (.yield (none,s2.2.1,s2.2.2.1,s2.2.2.2.1,s2.2.2.2.2.1+1))
theorem GP(a b:Array o_):mergeHi' a b=(do
 Sn "list.sort.merge-hi"
 let x ←Ot a (a.size - 1)
 if(a.size - 1 == 0)=true then pure (dnH a b #[x] (a.size - 1) b.size)
 else if(b.size == 1)=true then pure (fsB a b #[x] (a.size - 1) b.size)
 else do
  let st ←get
  let s ←forIn [0:a.size+b.size] ((none,a.size - 1,b.size,#[x],PY st):D0) (outH a b)
  match s.1 with
  | some r=>pure r
  | none=>S3 "internal:list.sort.merge-bound"):=by kernel_rfl
structure HI(la lb t:List o_)(na nb:Nat):Prop where
 perm:t.Perm (la.drop na++lb.drop nb)
 srt:SL t
 fromA:Le (la.take na) t
 fromB:Le (lb.take nb) t
theorem xi{l:List o_}(hj:j<=n)(hn:n<=l.length):(l.take n).drop j++l.drop n=l.drop j:=by
 have:=NY (l₁:=l.take n) (l₂:=l.drop n) (i:=j) (by rw[L5];omega);rw[MM] at this;exact this.symm
theorem HI.a{t:List o_}(h:HI la lb t na nb)(sa:SL la)(hn:na<=la.length)(hj:j<=na)(c:Le (lb.take nb) ((la.take na).drop j)):HI la lb ((la.take na).drop j++t) j nb:=by
 refine⟨?_,((sa.take na).drop j).app h.srt λx hx y hy=>h.fromA x (MD hx) y hy,λx hx y hy=>?_,λx hx y hy=>?_⟩
 ·rw[←xi hj hn,MR];exact Qa _ h.perm
 ·rcases Mc.mp hy with hy | hy
  ·have:=(sa.take na).cut j;rw[Oj,MN hj] at this;exact this x hx y hy
  ·refine h.fromA x ?_ y hy;rw[show la.take j=(la.take na).take j by rw[Oj,MN hj]] at hx;exact Mh hx
 ·rcases Mc.mp hy with hy | hy
  ·exact c x hx y hy
  ·exact h.fromB x hx y hy
theorem HI.swap{t:List o_}(h:HI la lb t na nb):HI lb la t nb na:=⟨h.perm.trans Np,h.srt,h.fromB,h.fromA⟩
theorem HI.b{t:List o_}(h:HI la lb t na nb)(sb:SL lb)(hn:nb<=lb.length)(hj:j<=nb)(c:Le (la.take na) ((lb.take nb).drop j)):HI la lb ((lb.take nb).drop j++t) na j:=(h.swap.a sb hn hj c).swap
theorem HI.done{t:List o_}(h:HI la lb t na nb)(sa:SL la)(sb:SL lb)(c:Le (la.take na) (lb.take nb)):SL (la.take na++lb.take nb++t)/\(la.take na++lb.take nb++t).Perm (la++lb):=by
 refine⟨((sa.take na).app (sb.take nb) c).app h.srt λx hx y hy=>?_,?_⟩
 ·rcases Mc.mp hx with hx | hx
  ·exact h.fromA x hx y hy
  ·exact h.fromB x hx y hy
 ·have e:la++lb=(la.take na++la.drop na)++(lb.take nb++lb.drop nb):=by rw[MM,MM]
  rw[e];refine(h.perm.append_left _).trans ?_;simp only[MR];refine Qa (la.take na) ?_;have:=append_right (lb.drop nb) (Np (l₁:=lb.take nb) (l₂:=la.drop na));simpa only[MR] using this
theorem sQ(a:Array o_)(i n:Nat):(a.extract i n).toList=(a.toList.take n).drop i:=by
 rw[O_,Ol,PH]
theorem uX(a:Array o_)(n:Nat):(a.extract 0 n).toList=a.toList.take n:=by
 rw[sQ,Qq]
theorem vP{a:Array o_}{x:o_}(hn:1<=n)(h:a[n - 1]?=some x):(a.toList.take n).drop (n - 1)=[x]:=by
 rw[PH,show n - (n - 1)=1 by omega];exact(rD h).2
theorem uN{a:Array o_}{x:o_}(h:x∈a.toList.take n):∃j,j < n/\j < a.size/\kN x=K a j:=by
 obtain⟨j,h1,h2,h3⟩:=uM (a:=a) (i:=0) (k:=n) (x:=x) (by simpa using h);rw[N3] at h2 h3;exact⟨j,h1,h2,h3⟩
theorem rJ{a:Array o_}{i:Nat}{x:o_}(h:x∈(a.toList.take n).drop i):∃j,i<=j/\j < n/\j < a.size/\kN x=K a j:=by
 rw[PH] at h;obtain⟨j,h1,h2,h3⟩:=uM h;exact⟨i+j,by omega,by omega,h2,h3⟩
structure TwoH(a b:Array o_):Prop where
 ai:AllI a
 bi:AllI b
 sa:SL a.toList
 sb:SL b.toList
 first:Le (b.toList.take 1) a.toList
section
variable{a b ak:Array o_}{n0:Nat}
abbrev HO(a b ak:Array o_)(na nb:Nat):Prop:=HI a.toList b.toList ak.toList.reverse na nb
theorem TwoH.fin1(T:TwoH a b)(mi:HO a b ak na nb)(c:na=0\/nb=0):Fin a b (dnH a b ak na nb):=by
 have:=mi.done T.sa T.sb λx hx y hy=>by
  rcases c with rfl | rfl
  ·cases hx
  ·cases hy
 unfold Fin dnH;rw[MQ,MQ,uX,uX,Pa];exact this
theorem TwoH.fin2(T:TwoH a b)(mi:HO a b ak na nb)(c:nb=1):Fin a b (fsB a b ak na nb):=by
 have:=mi.swap.done T.sb T.sa λx hx y hy=>T.first x (by rw[←c];exact hx) y (Mh hy)
 unfold Fin fsB;rw[MQ,MQ,uX,uX,Pa];exact⟨this.1,this.2.trans Np⟩
theorem Bs(ak:Array o_)(x:o_):(ak.push x).toList.reverse=[x]++ak.toList.reverse:=by simp
theorem AW(ak p:Array o_):(ak++p.reverse).toList.reverse=p.toList++ak.toList.reverse:=by simp
theorem HI.pa(T:TwoH a b)(mi:HO a b ak na nb)(h1:1<=na)(h2:na<=a.size){x:o_}(ex:a[na - 1]?=some x)(c:∀i,i < nb->i < b.size->K b i<=kN x):HO a b (ak.push x) (na - 1) nb:=by
 have:=mi.a (j:=na - 1) T.sa (by simpa using h2) (by omega) (by
  rw[vP h1 ex];intro y hy z hz;rw[q_] at hz;subst hz;obtain⟨j,j1,j2,j3⟩:=uN hy;rw[j3]
  exact c j j1 j2)
 rw[vP h1 ex] at this;unfold HO;rw[Bs];exact this
theorem HI.pb(T:TwoH a b)(mi:HO a b ak na nb)(h1:1<=nb)(h2:nb<=b.size){y:o_}(ey:b[nb - 1]?=some y)(c:∀i,i < na->i < a.size->K a i<=kN y):HO a b (ak.push y) na (nb - 1):=by
 have:=mi.b (j:=nb - 1) T.sb (by simpa using h2) (by omega) (by
  rw[vP h1 ey];intro x hx z hz;rw[q_] at hz;subst hz;obtain⟨j,j1,j2,j3⟩:=uN hx;rw[j3]
  exact c j j1 j2)
 rw[vP h1 ey] at this;unfold HO;rw[Bs];exact this
structure OnH(a b ak:Array o_)(na nb n0:Nat):Prop where
 mi:HO a b ak na nb
 a1:1<=na
 a2:na<=a.size
 b1:2<=nb
 b2:nb<=b.size
 hn:n0+na+nb<=a.size+b.size
variable{prog:B_}{w:J_}{E:b_->d_->Prop}{s:d_}{st:G_}
def Q2(a b:Array o_)(st:G_)(n0:Nat)(c:D2)(ag:G_):Prop:=(∃g,ag=setGal st g)/\((∃r,c.1=some r/\Fin a b r)\/(c.1=none/\OnH a b c.2.2.2.1 c.2.1 c.2.2.1 n0))
def S2(a b:Array o_)(st:G_)(n0:Nat)(r:ForInStep D2)(ag:G_):Prop:=match r with
 | .done c=>Q2 a b st n0 c ag
 | .yield c=>c.1=none/\Q2 a b st n0 c ag
theorem yX{mg g:Nat}(T:TwoH a b)(o:OnH a b ak na nb n0)(c:∀x,a[na - 1]?=some x->∀i,i < nb->i < b.size->K b i<=kN x):wpS (m_ prog w) A E s (hT2 a b ak na nb mg ac bc) (S2 a b st n0) (setGal st g):=by
 obtain⟨mi,a1,a2,b1,b2,hn⟩:=o;obtain⟨x,ex,_⟩:=qW (xs:=a) (i:=na - 1) (by omega);have m1:=HI.pa T mi a1 a2 ex (c x ex);unfold hT2;refine k_ (qV ex ?_);by_cases e:na - 1=0
 ·rw[if_pos (by simpa using e)];exact u_ ⟨⟨g,rfl⟩,.inl ⟨_,rfl,T.fin1 m1 (.inl e)⟩⟩
 ·rw[if_neg (by simpa using e)];have on:OnH a b (ak.push x) (na - 1) nb n0:=⟨m1,by omega,by omega,b1,b2,by omega⟩;split
  ·exact u_ ⟨⟨g,rfl⟩,.inr ⟨rfl,on⟩⟩
  ·exact u_ ⟨rfl,⟨g,rfl⟩,.inr ⟨rfl,on⟩⟩
theorem Bp{mg g:Nat}(hk:kindOf st=M1)(T:TwoH a b)(o:OnH a b ak na nb n0)(c:∀y,b[nb - 1]?=some y->∀i,i < na->i < a.size->K a i<=kN y):wpS (m_ prog w) A E s (hT1 a b ak na nb mg ac bc) (S2 a b st n0) (setGal st g):=by
 obtain⟨mi,a1,a2,b1,b2,hn⟩:=o;obtain⟨y,ey,_⟩:=qW (xs:=b) (i:=nb - 1) (by omega);obtain⟨x,ex,kx⟩:=qW (xs:=a) (i:=na - 1) (by omega);have m1:=HI.pb T mi (by omega) b2 ey (c y ey);unfold hT1;refine k_ (qV ey ?_);by_cases e:nb - 1=1
 ·rw[if_pos (by simpa using e)];exact u_ ⟨⟨g,rfl⟩,.inl ⟨_,rfl,T.fin2 m1 e⟩⟩
 ·rw[if_neg (by simpa using e)];refine k_ (qV ex ?_);refine k_ (tV (by exact hk) T.bi (T.ai _ _ ex) (by omega) (by omega) (λi j h1 h2 h3=>?_) λk eA cu cA=>?_)
  ·simp only[Bey,if_true,decide_eq_true_eq,N3] at h3 ⊢;have:=rZ T.sb (i:=i) (j:=j) (by omega) (by omega);omega
  ·simp only[Bey,if_true,decide_eq_true_eq,decide_eq_false_iff_not,N3] at cu cA;dsimp only
   have low:∀n,n<=k->∀x',a[na - 1]?=some x'->∀i,i < n->i < b.size->K b i<=kN x':=λn eK x' jB i h1 _=>by
    rw[ex] at jB;cases jB;have:=cu i (by omega);omega
   by_cases k0:nb - 1 - k > 0
   ·rw[if_pos k0]
    have m2:=m1.b (j:=k) T.sb (by simp;omega) (by omega) λz hz v hv=>by
     obtain⟨j,j1,j2,j3⟩:=uN hz;obtain⟨i,i1,i2,i3,i4⟩:=rJ hv;have:=cA i i1 i2;have:=rZ T.sa (i:=j) (j:=na - 1) (by omega) (by omega);omega
    rw[←sQ] at m2;have m2:HO a b (ak.push y++(b.extract k (nb - 1)).reverse) na k:=by unfold HO;rw[AW];exact m2
    by_cases e2:k=1
    ·rw[if_pos (by simpa using e2)];exact u_ ⟨⟨g,rfl⟩,.inl ⟨_,rfl,T.fin2 m2 e2⟩⟩
    ·rw[if_neg (by simpa using e2)];by_cases e3:k=0
     ·rw[if_pos (by simpa using e3)];exact u_ ⟨⟨g,rfl⟩,.inl ⟨_,rfl,T.fin1 m2 (.inr e3)⟩⟩
     ·rw[if_neg (by simpa using e3)];exact yX T ⟨m2,a1,a2,by omega,by omega,by omega⟩ (low k (A_ _))
   ·rw[if_neg k0];exact yX T ⟨m1,a1,a2,by omega,by omega,by omega⟩ (low (nb - 1) (by omega))
theorem JL{mg g:Nat}(hk:kindOf st=M1)(T:TwoH a b)(o:OnH a b ak na nb n0):wpS (m_ prog w) A E s (hB a b ak na nb mg ac bc) (S2 a b st n0) (setGal st g):=by
 obtain⟨mi,a1,a2,b1,b2,hn⟩:=o;obtain⟨y,ey,ky⟩:=qW (xs:=b) (i:=nb - 1) (by omega);unfold hB setG;refine k_ (N2 ?_);show wpS _ _ _ _ _ _ (setGal st mg);refine k_ (qV ey ?_);refine k_ (tV (by exact hk) T.ai (T.bi _ _ ey) (by omega) (by omega) (λi j h1 h2 h3=>?_) λk eA cu cA=>?_)
 ·simp only[Bey,MX,if_false,NE,decide_eq_false_iff_not,N3] at h3 ⊢;have:=rZ T.sa (i:=i) (j:=j) (by omega) (by omega);omega
 ·simp only[Bey,MX,if_false,NE,Ql,decide_eq_true_eq,decide_eq_false_iff_not,N3] at cu cA;dsimp only
  have low:∀n,n<=k->∀y',b[nb - 1]?=some y'->∀i,i < n->i < a.size->K a i<=kN y':=λn eK y' mq i h1 _=>by
   rw[ey] at mq;cases mq;have:=cu i (by omega);omega
  by_cases k0:na - k > 0
  ·rw[if_pos k0]
   have m2:=mi.a (j:=k) T.sa (by simpa using a2) (by omega) λz hz v hv=>by
    obtain⟨j,j1,j2,j3⟩:=uN hz;obtain⟨i,i1,i2,i3,i4⟩:=rJ hv;have:=cA i i1 i2;have:=rZ T.sb (i:=j) (j:=nb - 1) (by omega) (by omega);omega
   rw[←sQ] at m2;have m2:HO a b (ak++(a.extract k na).reverse) k nb:=by unfold HO;rw[AW];exact m2
   by_cases e1:k=0
   ·rw[if_pos (by simpa using e1)];exact u_ ⟨⟨mg,rfl⟩,.inl ⟨_,rfl,T.fin1 m2 (.inl e1)⟩⟩
   ·rw[if_neg (by simpa using e1)];exact Bp hk T ⟨m2,by omega,by omega,b1,b2,by omega⟩ (low k (A_ _))
  ·rw[if_neg k0];exact Bp hk T ⟨mi,a1,a2,b1,b2,hn⟩ (low na (by omega))
def Q1(a b:Array o_)(st:G_)(n0:Nat)(c:D1)(ag:G_):Prop:=(∃g,ag=setGal st g)/\((∃r,c.1=some r/\Fin a b r)\/(c.1=none/\OnH a b c.2.2.2.1 c.2.1 c.2.2.1 n0))
theorem GS{mg x g:Nat}(hk:kindOf st=M1)(T:TwoH a b)(o:OnH a b ak na nb n0):wpS (m_ prog w) A E s (oneH a b mg x (none,na,nb,ak,ac,bc)) (λr ag=>match r with
  | .done c=>Q1 a b st (n0+1) c ag
  | .yield c=>c.1=none/\Q1 a b st (n0+1) c ag) (setGal st g):=by
 obtain⟨mi,a1,a2,b1,b2,hn⟩:=o;obtain⟨y,ey,ky⟩:=qW (xs:=b) (i:=nb - 1) (by omega);obtain⟨x,ex,kx⟩:=qW (xs:=a) (i:=na - 1) (by omega);unfold oneH;dsimp only;refine k_ (qV ey (k_ (qV ex (k_ (ur (by exact hk) (T.bi _ _ ey) (T.ai _ _ ex) ?_)))));dsimp only;by_cases l:kN y < kN x
 ·rw[if_pos (by simpa using l)]
  have m1:=HI.pa T mi a1 a2 ex λi h1 h2=>by
   have:=rZ T.sb (i:=i) (j:=nb - 1) (by omega) (by omega);omega
  refine k_ (qV ex ?_);by_cases e:na - 1=0
  ·rw[if_pos (by simpa using e)];exact u_ ⟨⟨g,rfl⟩,.inl ⟨_,rfl,T.fin1 m1 (.inl e)⟩⟩
  ·rw[if_neg (by simpa using e)];have on:OnH a b (ak.push x) (na - 1) nb (n0+1):=⟨m1,by omega,by omega,b1,b2,by omega⟩;split
   ·exact u_ ⟨⟨g,rfl⟩,.inr ⟨rfl,on⟩⟩
   ·exact u_ ⟨rfl,⟨g,rfl⟩,.inr ⟨rfl,on⟩⟩
 ·rw[if_neg (by simpa using l)]
  have m1:=HI.pb T mi (by omega) b2 ey λi h1 h2=>by
   have:=rZ T.sa (i:=i) (j:=na - 1) (by omega) (by omega);omega
  refine k_ (qV ey ?_);by_cases e:nb - 1=1
  ·rw[if_pos (by simpa using e)];exact u_ ⟨⟨g,rfl⟩,.inl ⟨_,rfl,T.fin2 m1 e⟩⟩
  ·rw[if_neg (by simpa using e)];have on:OnH a b (ak.push y) na (nb - 1) (n0+1):=⟨m1,a1,a2,by omega,by omega,by omega⟩;split
   ·exact u_ ⟨⟨g,rfl⟩,.inr ⟨rfl,on⟩⟩
   ·exact u_ ⟨rfl,⟨g,rfl⟩,.inr ⟨rfl,on⟩⟩
theorem OnH.less(o:OnH a b ak na nb n0)(h:m<=n0):OnH a b ak na nb m:=⟨o.mi,o.a1,o.a2,o.b1,o.b2,by have:=o.hn;omega⟩
theorem JU{x mg g:Nat}(hk:kindOf st=M1)(T:TwoH a b)(o:OnH a b ak na nb n0):wpS (m_ prog w) A E s (outH a b x (none,na,nb,ak,mg)) (λr ag=>match r with
  | .done c=>(∃g,ag=setGal st g)/\∃r,c.1=some r/\Fin a b r
  | .yield c=>c.1=none/\(∃g,ag=setGal st g)/\OnH a b c.2.2.2.1 c.2.1 c.2.2.1 (n0+1)) (setGal st g):=by
 have h1:=o.a1;have h2:=o.a2;unfold outH;dsimp only;refine k_ (MJ (MA (I:=λx c ag=>(∃g,ag=setGal st g)/\c.1=none/\OnH a b c.2.2.2.1 c.2.1 c.2.2.1 (n0+x)) (Q:=Q1 a b st (n0+1)) ?_ ?_ ⟨⟨g,rfl⟩,rfl,o⟩) ?_)
 ·rintro x ⟨r,i1,j1,o1,c1,d1⟩ ag - hx ⟨⟨g,rfl⟩,h1,h2⟩;dsimp only at h1 h2;subst h1;refine MJ (GS hk T h2) λr ag q=>?_
  cases r with
  | done c =>
   refine⟨q.1,?_⟩
   rcases q.2 with q | q
   ·exact .inl q
   ·exact .inr ⟨q.1,q.2.less (by omega)⟩
  | yield c =>
   obtain⟨q0,q1,q2⟩:=q;refine⟨q1,q0,?_⟩
   rcases q2 with⟨r,q2,_⟩ | ⟨_,q2⟩
   ·rw[q0] at q2;cases q2
   ·exact q2
 ·rintro⟨r,i1,j1,o1,c1,d1⟩ ag ⟨h0,h1,h2⟩;exact⟨h0,.inr ⟨h1,h2.less (by omega)⟩⟩
 ·rintro⟨r,i1,j1,o1,c1,d1⟩ ag ⟨⟨g,rfl⟩,h2⟩
  rcases h2 with⟨r',e,h2⟩ | ⟨e,h2⟩
  ·dsimp only at e;subst e;exact u_ ⟨⟨g,rfl⟩,r',rfl,h2⟩
  ·dsimp only at e h2;subst e;dsimp only;refine k_ (QA (MZ ⟨rfl,?_⟩));refine k_ (MJ (MA (I:=λx c ag=>(∃g,ag=setGal st g)/\c.1=none/\OnH a b c.2.2.2.1 c.2.1 c.2.2.1 (n0+1)) (Q:=Q2 a b st (n0+1)) ?_ ?_ ⟨⟨g,rfl⟩,rfl,h2⟩) ?_)
   ·rintro x ⟨r,i2,j2,o2,m2,c2,d2⟩ ag - hx ⟨⟨g,rfl⟩,h1,h2⟩;dsimp only at h1 h2;subst h1;unfold twoH;dsimp only;split
    all_goals
     refine MJ (JL hk T h2) λr ag q=>?_
     cases r with
     | done c=>exact q
     | yield c =>
      obtain⟨q0,q1,q2⟩:=q;refine⟨q1,q0,?_⟩
      rcases q2 with⟨r,q2,_⟩ | ⟨_,q2⟩
      ·rw[q0] at q2;cases q2
      ·exact q2
   ·rintro⟨r,i2,j2,o2,m2,c2,d2⟩ ag ⟨h0,h1,h2⟩;exact⟨h0,.inr ⟨h1,h2⟩⟩
   ·rintro⟨r,i2,j2,o2,m2,c2,d2⟩ ag ⟨⟨g,rfl⟩,h2⟩
    rcases h2 with⟨r',e,h2⟩ | ⟨e,h2⟩
    ·dsimp only at e;subst e;exact u_ ⟨⟨g,rfl⟩,r',rfl,h2⟩
    ·dsimp only at e h2;subst e;dsimp only;unfold setG;exact k_ (N2 (u_ ⟨rfl,⟨m2+1,rfl⟩,h2⟩))
theorem B9{Q:Array o_->G_->Prop}(hk:kindOf st=M1)(T:TwoH a b)(na:1<=a.size)(nb:1<=b.size)(last:Le b.toList (a.toList.drop (a.size - 1)))(h:∀r g,Fin a b r->Q r (setGal st g)):
  wpS (m_ prog w) A E s (mergeHi' a b) Q st:=by
 obtain⟨x,ex,kx⟩:=qW (xs:=a) (i:=a.size - 1) (by omega);have m0:HO a b #[] a.size b.size:=⟨by simp,Nn.nil,λx hx y hy=>(by cases hy),λx hx y hy=>(by cases hy)⟩
 have m1:HO a b #[x] (a.size - 1) b.size:=HI.pa T m0 na (A_ _) ex λi h1 h2=>by
  obtain⟨y,ey,ky⟩:=qW h2;rw[ky];refine last y ?_ x ?_
  ·rw[←Mi] at ey;exact Mf ey
  ·rw[(rD ex).1];exact g_
 rw[GP];refine k_ (QA (MZ ⟨rfl,?_⟩));refine k_ (qV ex ?_);by_cases e1:a.size - 1=0
 ·rw[if_pos (by simpa using e1)];exact u_ (h _ (PY st) (T.fin1 m1 (.inl e1)))
 ·rw[if_neg (by simpa using e1)];by_cases e2:b.size=1
  ·rw[if_pos (by simpa using e2)];exact u_ (h _ (PY st) (T.fin2 m1 e2))
  ·rw[if_neg (by simpa using e2)];have o1:OnH a b #[x] (a.size - 1) b.size 1:=⟨m1,by omega,by omega,by omega,by omega,by omega⟩;refine k_ (Py ?_);refine k_ (MJ (MA (I:=λx c ag=>(∃g,ag=setGal st g)/\c.1=none/\OnH a b c.2.2.2.1 c.2.1 c.2.2.1 (x+1)) (Q:=λc ag=>(∃g,ag=setGal st g)/\∃r,c.1=some r/\Fin a b r) ?_ ?_ ⟨⟨PY st,rfl⟩,rfl,o1⟩) ?_)
   ·rintro x ⟨r,i1,j1,o1,m1⟩ ag - hx ⟨⟨g,rfl⟩,h1,h2⟩;dsimp only at h1 h2;subst h1;refine MJ (JU hk T h2) λr ag q=>?_
    cases r with
    | done c=>exact q
    | yield c=>exact⟨q.2.1,q.1,q.2.2⟩
   ·rintro⟨r,i1,j1,o1,m1⟩ ag ⟨h0,h1,h2⟩;have:=h2.a1;have:=h2.b1;have:=h2.hn;dsimp only at *;omega
   ·rintro⟨r,i1,j1,o1,m1⟩ ag ⟨⟨g,rfl⟩,r',e,h2⟩;dsimp only at e;subst e;exact u_ (h r' g h2)
end
noncomputable def layIn(xs:Array o_)(at_:Nat)(m:List o_):Array o_:=m.zipIdx.foldl (λa (p:o_×Nat)=>a.setIfInBounds (at_+p.2) p.1) xs
theorem By(at_:Nat):∀(m:List o_) (n:Nat) (xs:Array o_),at_+n+m.length<=xs.size->((m.zipIdx n).foldl (λa (p:o_×Nat)=>a.setIfInBounds (at_+p.2) p.1) xs).toList=xs.toList.take (at_+n)++m++xs.toList.drop (at_+n+m.length)
 | [],n,xs,_=>by simp
 | x::m,n,xs,h=>by
  rw[Md] at h;rw[Qt,Nu,By at_ m (n+1) _ (by simp;omega)];dsimp only;rw[PZ];have hl:at_+n < xs.toList.length:=by simp;omega
  rw[List.set_eq_take_append_cons_drop,if_pos hl]
  have e1:(xs.toList.take (at_+n)++x::xs.toList.drop (at_+n+1)).take (at_+(n+1))=xs.toList.take (at_+n)++[x]:=by
   rw[RE,Oj];have:(List.take (at_+n) xs.toList).length=at_+n:=by rw[L5];omega
   rw[this,show at_+(n+1) - (at_+n)=1 by omega,Pz (by omega)];rfl
  have e2:(xs.toList.take (at_+n)++x::xs.toList.drop (at_+n+1)).drop (at_+(n+1)+m.length)=xs.toList.drop (at_+n+(m.length+1)):=by
   have:(List.take (at_+n) xs.toList).length=at_+n:=by rw[L5];omega
   rw[QC,this,M0 (by rw[this];omega),QY,show at_+(n+1)+m.length - (at_+n)=m.length+1 by omega,OJ,PF]
   congr 1
   omega
  rw[e1,e2];simp
theorem Ie{xs:Array o_}{m:List o_}(h:at_+m.length<=xs.size):(layIn xs at_ m).toList=xs.toList.take at_++m++xs.toList.drop (at_+m.length):=By at_ m 0 xs h
theorem GL(i:Nat):SK i=(do
 let st ←get
 match (t_ st)[i]?,(t_ st)[i+1]? with
 | some u,some v=>do
  set (Sh st (((t_ st).setIfInBounds i (u.1,u.2.1+v.2.1,u.2.2)).eraseIdxIfInBounds (i+1)))
  let y ←Ot (r_ st) v.1
  match ←gallop' false y (r_ st) u.1 u.2.1 0 with
  | some k =>
   if(u.2.1 - k == 0)=true then pure true else do
   let x ←Ot (r_ st) (u.1+k+(u.2.1 - k) - 1)
   match ←gallop' true x (r_ st) v.1 v.2.1 (v.2.1 - 1) with
   | some m =>
    if(m == 0)=true then pure true else do
    let r ←if u.2.1 - k<=m then mergeLo' ((r_ st).extract (u.1+k) v.1) ((r_ st).extract v.1 (v.1+m)) else mergeHi' ((r_ st).extract (u.1+k) v.1) ((r_ st).extract v.1 (v.1+m))
    modify λag=>Tx ag (layIn (r_ ag) (u.1+k) r.toList)
    let ag ←get
    pure (O4 ag).isNone
   | _=>pure false
  | _=>pure false
 | _,_=>S3 "internal:list.sort.pending"):=by kernel_rfl
structure SB(a₀:Array o_)(st:G_):Prop where
 perm:(r_ st).toList.Perm a₀.toList
 kind:kindOf st=M1
 failed:O4 st=none
theorem AllI.mem{xs:Array o_}(h:AllI xs){x:o_}(hx:x∈xs.toList):IsI x:=by
 obtain⟨i,hi,e⟩:=Pj.mp hx;exact h i x (by rw[←Mi,h_ hi,e])
theorem AllI.of{xs:Array o_}(h:∀x∈xs.toList,IsI x):AllI xs:=λi x e=>by
 rw[←Mi] at e;exact h x (Mf e)
section
variable{prog:B_}{w:J_}{E:b_->d_->Prop}{s:d_}{st:G_}{a₀:Array o_}
theorem SB.ints(B:SB a₀ st)(h0:AllI a₀):AllI (r_ st):=AllI.of λx hx=>h0.mem (B.perm.mem_iff.mp hx)
theorem SB.size(B:SB a₀ st):(r_ st).size=a₀.size:=by simpa using B.perm.length_eq
def Run(l:List o_)(i j:Nat):Prop:=SL ((l.take j).drop i)
theorem Run.K{xs:Array o_}{i j:Nat}(h:Run xs.toList i j)(hj:j<=xs.size){p q:Nat}(h1:i<=p)(h2:p<=q)(h3:q < j):K xs p<=K xs q:=by
 rw[Run,←sQ] at h;have sz:(xs.extract i j).size=j - i:=by simp;omega
 have:=rZ h (i:=p - i) (j:=q - i) (by omega) (by omega)
 have g:∀r,i<=r->r < j->TS.kN=TS.kN->OP (xs.extract i j) (r - i)=OP xs r:=λr r1 r2 _=>by
  refine K_congr ?_;rw[Of];rw[if_pos (by omega),show i+(r - i)=r by omega]
 rw[g p h1 (by omega) rfl,g q (by omega) h3 rfl] at this;exact this
theorem Run.of{xs:Array o_}{i:Nat}(hj:j<=xs.size)(h:∀p q,i<=p->p<=q->q < j->OP xs p<=OP xs q):Run xs.toList i j:=by
 unfold Run SL;rw[NF];intro p q hp hq fO;rw[ME,L5,LS] at hp hq
 have g:∀r (hr:r < ((xs.toList.take j).drop i).length),kN ((xs.toList.take j).drop i)[r]=OP xs (i+r):=λr hr=>by
  rw[ME,L5,LS] at hr;refine(tM ?_).symm;rw[←Mi,Q7,Qb];exact h_ _
 rw[g,g];exact h _ _ (by omega) (by omega) (by omega)
theorem Run.app{l:List o_}{i k:Nat}(h1:i<=j)(h2:j<=k)(h3:k<=l.length)(a:Run l i j)(b:Run l j k)(c:Le ((l.take j).drop i) ((l.take k).drop j)):Run l i k:=by
 unfold Run at *
 have:(l.take k).drop i=(l.take j).drop i++(l.take k).drop j:=by
  have:=xi (l:=l.take k) (j:=i) (n:=j) h1 (by rw[L5];omega);rw[Oj,MN h2] at this;exact this.symm
 rw[this];exact a.app b c
theorem J7{i sa sb pw pw':Nat}{Q:Bool->G_->Prop}(B:SB a₀ st)(h0:AllI a₀)(p1:(t_ st)[i]?=some (sa,na,pw))(p2:(t_ st)[i+1]?=some (sb,nb,pw'))(e:sb=sa+na)(ha:1<=na)(hb:1<=nb)(hs:sb+nb<=a₀.size)(r1:Run (r_ st).toList sa sb)(r2:Run (r_ st).toList sb (sb+nb))(h:∀ag,SB a₀ ag->t_ ag=((t_ st).setIfInBounds i (sa,na+nb,pw)).eraseIdxIfInBounds (i+1)->(r_ ag).toList.take sa=(r_ st).toList.take sa->(r_ ag).toList.drop (sb+nb)=(r_ st).toList.drop (sb+nb)->Run (r_ ag).toList sa (sb+nb)->Q true ag):
  wpS (m_ prog w) A E s (SK i) Q st:=by
 have ai:=B.ints h0;have sz:=B.size;have z2:sb+nb<=(r_ st).size:=by rw[sz];exact hs
 have z1:sb<=(r_ st).size:=MY (Mr sb nb) z2;rw[GL];refine k_ (Py ?_);rw[p1,p2];dsimp only;obtain⟨bF,e1⟩:∃bF,bF=Sh st (((t_ st).setIfInBounds i (sa,na+nb,pw)).eraseIdxIfInBounds (i+1)):=⟨_,rfl⟩;have B1:SB a₀ bF:=by rw[e1];exact⟨B.perm,B.kind,B.failed⟩
 have iK:r_ bF=r_ st:=by rw[e1]
 have mw:t_ bF=((t_ st).setIfInBounds i (sa,na+nb,pw)).eraseIdxIfInBounds (i+1):=by rw[e1]
 have bu:Le (((r_ st).toList.take sb).drop sa) (((r_ st).toList.take (sb+nb)).drop sb)->Q true bF:=λc=>by
  refine h bF B1 mw (by rw[iK]) (by rw[iK]) ?_;rw[iK];exact Run.app (by rw[e];exact Mr sa na) (Mr sb nb) (by rw[LS];exact z2) r1 r2 c
 refine k_ (m:=set _) (show wpS _ _ _ _ (modify λ_=>_) _ _ from N2 ?_);rw[←e1];obtain⟨y,ey,ky⟩:=qW (xs:=r_ st) (i:=sb) (H_ (Nat.lt_add_of_pos_right hb) z2);refine k_ (qV ey ?_);refine k_ (tV B1.kind ai (ai _ _ ey) (by omega) (by omega) (λi j h1 h2 h3=>?_) λk eA cu cA=>?_)
 ·simp only[Bey,MX,if_false,NE,decide_eq_false_iff_not] at h3 ⊢;have:=r1.K z1 (p:=sa+i) (q:=sa+j) (Mr sa i) (by omega) (by omega);omega
 simp only[Bey,MX,if_false,NE,Ql,decide_eq_true_eq,decide_eq_false_iff_not] at cu cA;have ly:∀q,sb<=q->q < sb+nb->kN y<=K (r_ st) q:=λq q1 q2=>by rw[←ky];exact r2.K z2 (A_ _) q1 q2
 dsimp only;by_cases k0:na - k=0
 ·rw[if_pos (by simpa using k0)];refine u_ (bu λz hz v hv=>?_);obtain⟨j,j1,j2,j3,j4⟩:=rJ hz;obtain⟨i,i1,i2,i3,i4⟩:=rJ hv;have:=cu (j - sa) (by omega);rw[Ou j1] at this;have:=ly i i1 i2;omega
 rw[if_neg (by simpa using k0)];obtain⟨x,ex,kx⟩:=qW (xs:=r_ st) (i:=sa+k+(na - k) - 1) (by omega);have lx:∀p,sa<=p->p < sb->K (r_ st) p<=kN x:=λp q1 q2=>by rw[←kx];exact r1.K z1 q1 (by omega) (by omega)
 refine k_ (qV ex ?_);refine k_ (tV B1.kind ai (ai _ _ ex) (by omega) (by omega) (λi j h1 h2 h3=>?_) λm gF my kj=>?_)
 ·simp only[Bey,if_true,decide_eq_true_eq] at h3 ⊢;have:=r2.K z2 (p:=sb+i) (q:=sb+j) (Mr sb i) (by omega) (by omega);omega
 simp only[Bey,if_true,decide_eq_true_eq,decide_eq_false_iff_not] at my kj;dsimp only;by_cases m0:m=0
 ·rw[if_pos (by simpa using m0)];refine u_ (bu λz hz v hv=>?_);obtain⟨j,j1,j2,j3,j4⟩:=rJ hz;obtain⟨i,i1,i2,i3,i4⟩:=rJ hv;have:=kj (i - sb) (by omega) (by omega);rw[Ou i1] at this;have:=lx j j1 j2;omega
 rw[if_neg (by simpa using m0)];obtain⟨X,eX⟩:∃X,X=(r_ st).extract (sa+k) sb:=⟨_,rfl⟩;obtain⟨Y,eY⟩:∃Y,Y=(r_ st).extract sb (sb+m):=⟨_,rfl⟩;rw[←eX,←eY];have tX:X.toList=((r_ st).toList.take sb).drop (sa+k):=by rw[eX,sQ]
 have tY:Y.toList=((r_ st).toList.take (sb+m)).drop sb:=by rw[eY,sQ]
 have zX:X.size=sb - (sa+k):=by rw[eX];simp;omega
 have zY:Y.size=m:=by rw[eY];simp;omega
 have sX:SL X.toList:=by
  rw[tX,←PF];exact SL.drop r1 k
 have sY:SL Y.toList:=by
  rw[tY];have:=SL.take r2 m;rw[PH] at this ⊢;rw[Oj] at this;rw[NU,MN gF] at this;rw[NU];exact this
 have iX:AllI X:=AllI.of λz hz=>ai.mem (by rw[tX] at hz;exact Mh (MD hz))
 have iY:AllI Y:=AllI.of λz hz=>ai.mem (by rw[tY] at hz;exact Mh (MD hz))
 have first:Le (Y.toList.take 1) X.toList:=λz hz v hv=>by
  have e0:(Y.toList.take 1)=[y]:=by
   rw[tY,←sQ,←Qq (l:=(Array.extract _ _ _).toList)];refine(rD ?_).2;rw[Of,if_pos (by omega)];exact ey
  rw[e0,q_] at hz;subst hz;rw[tX] at hv;obtain⟨j,j1,j2,j3,j4⟩:=rJ hv;have:=cA (j - sa) (by omega) (by omega);rw[Ou (MY (Mr sa k) j1)] at this;omega
 have last:Le Y.toList (X.toList.drop (X.size - 1)):=λz hz v hv=>by
  have e0:X[X.size - 1]?=some x:=by
   rw[eX,Of,if_pos (by simp;omega),←ex]
   congr 1
   simp;omega
  rw[(rD e0).1,M0 (by simp;omega),q_] at hv;subst hv;rw[tY] at hz;obtain⟨j,j1,j2,j3,j4⟩:=rJ hz;have:=my (j - sb) (by omega);rw[Ou j1] at this;omega
 have fin:∀r g,Fin X Y r->wpS (m_ prog w) A E s (do
   modify λag=>Tx ag (layIn (r_ ag) (sa+k) r.toList)
   let ag ←get
   pure (O4 ag).isNone) Q (setGal bF g):=λr g ⟨f1,f2⟩=>by
  have lr:r.toList.length=sb - (sa+k)+m:=by rw[f2.length_eq];simp[zX,zY]
  have lo:=Ie (xs:=r_ st) (at_:=sa+k) (m:=r.toList) (by omega);rw[lr,show sa+k+(sb - (sa+k)+m)=sb+m by omega] at lo;obtain⟨L,eL⟩:∃L,L=(r_ st).toList:=⟨_,rfl⟩;have ll:L.length=a₀.size:=by rw[eL];simp[sz]
  rw[←eL] at lo tX tY r1 r2;have tl:(L.take (sa+k)).length=sa+k:=by rw[L5];omega
  refine k_ (N2 (k_ (Py ?_)));show wpS _ _ _ _ (pure (O4 bF).isNone) _ _;rw[B1.failed];refine u_ ?_
  have iL:r_ (Tx (setGal bF g) (layIn (r_ (setGal bF g)) (sa+k) r.toList))=layIn (r_ st) (sa+k) r.toList:=by
   show layIn (r_ bF) (sa+k) r.toList=_;rw[iK]
  refine h _ ⟨?_,B1.kind,B1.failed⟩ mw ?_ ?_ ?_
  ·rw[iL,lo];have p3:(L.take (sa+k)++r.toList++L.drop (sb+m)).Perm (L.take (sa+k)++(X.toList++Y.toList)++L.drop (sb+m)):=(f2.append_left _).append_right _;refine p3.trans ?_
   have:L.take (sa+k)++(X.toList++Y.toList)++L.drop (sb+m)=L:=by
    rw[tX,tY];have c1:=xi (l:=L.take (sb+m)) (j:=sa+k) (n:=sb) (by omega) (by rw[L5];omega);rw[Oj,MN (Mr sb m)] at c1;rw[c1];have c2:=MM (sa+k) (L.take (sb+m));rw[Oj,show min (sa+k) (sb+m)=sa+k by omega] at c2;rw[c2,MM]
   rw[this,eL];exact B.perm
  ·rw[iL,lo,MR,RE,Oj,tl,Nat.sub_eq_zero_of_le (Mr sa k),take_zero,M5,MN (Mr sa k),eL]
  ·rw[iL,lo,QC,M0 (by rw[LY,tl,lr];omega),QY,PF,LY,tl,lr,eL]
   congr 1
   omega
  ·rw[iL,lo];unfold Run
   have e4:(L.drop (sb+m)).take (sb+nb - (sa+k) - (sb - (sa+k)+m))=(L.take (sb+nb)).drop (sb+m):=by
    rw[PH]
    congr 1
    omega
   have e3:(List.drop sa (List.take (sb+nb) (L.take (sa+k)++r.toList++L.drop (sb+m))))=(L.take (sa+k)).drop sa++(r.toList++(L.take (sb+nb)).drop (sb+m)):=by
    rw[MR,RE,RE,L6 (by rw[tl];omega),tl,L6 (l:=r.toList) (by omega),lr,e4,NY (by rw[tl];omega)]
   rw[e3]
   have A1:SL ((L.take (sa+k)).drop sa):=by
    have:=SL.take r1 k;rw[PH] at this ⊢;rw[Oj] at this;rw[show min k (sb - sa)=k by omega] at this;rw[NU];exact this
   have B2:SL ((L.take (sb+nb)).drop (sb+m)):=by
    rw[←PF];exact SL.drop r2 m
   have jv:∀z∈r.toList,(∃j,sa+k<=j/\j < sb/\kN z=K (r_ st) j)\/∃j,sb<=j/\j < sb+m/\kN z=K (r_ st) j:=λz hz=>by
    rcases Mc.mp (f2.mem_iff.mp hz) with q | q
    ·rw[tX,eL] at q;obtain⟨j,j1,j2,j3,j4⟩:=rJ q;exact .inl ⟨j,j1,j2,j4⟩
    ·rw[tY,eL] at q;obtain⟨j,j1,j2,j3,j4⟩:=rJ q;exact .inr ⟨j,j1,j2,j4⟩
   have mz:=r1;have mB:=r2;rw[eL] at mz mB;refine A1.app (SL.app f1 B2 λz hz v hv=>?_) λz hz v hv=>?_
   ·rw[eL] at hv;obtain⟨i,i1,i2,i3,i4⟩:=rJ hv;have g1:=kj (i - sb) (by omega) (by omega);rw[Ou (MY (Mr sb m) i1)] at g1
    rcases jv z hz with⟨j,j1,j2,j3⟩ | ⟨j,j1,j2,j3⟩
    ·have:=lx j (by omega) j2;omega
    ·have:=mB.K z2 (p:=j) (q:=i) j1 (by omega) i2;omega
   ·rw[eL] at hz;obtain⟨i,i1,i2,i3,i4⟩:=rJ hz;have g1:=cu (i - sa) (by omega);rw[Ou i1] at g1
    rcases Mc.mp hv with hv | hv
    ·rcases jv v hv with⟨j,j1,j2,j3⟩ | ⟨j,j1,j2,j3⟩
     ·have:=mz.K z1 (p:=i) (q:=j) i1 (by omega) j2;omega
     ·have:=ly j j1 (by omega);omega
    ·rw[eL] at hv;obtain⟨j,j1,j2,j3,j4⟩:=rJ hv;have:=ly j (by omega) j2;omega
 by_cases le:na - k<=m
 ·rw[if_pos le];exact k_ (JW B1.kind ⟨iX,iY,sX,sY,last⟩ (by omega) (by omega) first fin)
 ·rw[if_neg le];exact k_ (B9 B1.kind ⟨iX,iY,sX,sY,first⟩ (by omega) (by omega) last fin)
end
abbrev A2:=Option (Option Nat)×Nat
abbrev A3:=Option (Option Nat)×Nat×Nat
noncomputable def upB(lo:Nat)(_:Nat)(c:A2):StateT G_ Sem (ForInStep A2):=do
 match ←ltAt' (lo+c.2) (lo+c.2 - 1) with
 | some q=>if q then pure (.done (none,c.2)) else pure (.yield (none,c.2+1))
 | _=>pure (.done (some none,c.2))
noncomputable def dnB(lo:Nat)(_:Nat)(c:A3):StateT G_ Sem (ForInStep A3):=do
 match ←ltAt' (lo+c.2.1) (lo+c.2.1 - 1) with
 | some q =>
  if q then
   if c.2.2 > 0 then do
    O2 (lo+c.2.1 - (c.2.2+1)) (lo+c.2.1)
    pure (.yield (none,c.2.1+1,0))
   else pure (.yield (none,c.2.1+1,0))
  else do
   match ←ltAt' (lo+c.2.1 - 1) (lo+c.2.1) with
   | some q=>if q then pure (.done (none,c.2.1,c.2.2)) else pure (.yield (none,c.2.1+1,c.2.2+1))
   | _=>pure (.done (some none,c.2.1,c.2.2))
 | _=>pure (.done (some none,c.2.1,c.2.2))
noncomputable def upL(lo m n:Nat):StateT G_ Sem (Option Nat):=do
 let c ←forIn [n:m] ((none,n):A2) (upB lo)
 match c.1 with
 | some r=>pure r
 | none=>pure (some c.2)
noncomputable def endL(lo m n:Nat):StateT G_ Sem (Option Nat):=do
 O2 lo (lo+n)
 upL lo m n
noncomputable def dnL(lo m n:Nat):StateT G_ Sem (Option Nat):=do
 Sn "list.sort.descending-run"
 let c ←forIn [n+1:m] ((none,n+1,0):A3) (dnB lo)
 match c.1 with
 | some r=>pure r
 | none =>
  if c.2.2 > 0 then do
   O2 (lo+c.2.1 - (c.2.2+1)) (lo+c.2.1)
   endL lo m c.2.1
  else endL lo m c.2.1
theorem EL(lo m:Nat):countRun' lo m=(do
 let c ←forIn [1:m] ((none,1):A2) (upB lo)
 match c.1 with
 | some r=>pure r
 | none =>
  if(c.2 == m)=true then pure (some c.2)
  else if c.2 > 1 then do
   match ←ltAt' lo (lo+c.2 - 1) with
   | some q=>if q then pure (some c.2) else do
    O2 lo (lo+c.2)
    dnL lo m c.2
   | _=>pure none
  else dnL lo m c.2):=by kernel_rfl
section
variable{prog:B_}{w:J_}{E:b_->d_->Prop}{s:d_}{st bN:G_}{a₀:Array o_}{lo:Nat}
structure Kp(a₀:Array o_)(bN:G_)(lo:Nat)(st:G_):Prop where
 sb:SB a₀ st
 pe:t_ st=t_ bN
 lw:∀k,k < lo->(r_ st)[k]?=(r_ bN)[k]?
theorem ux{i:Nat}{Q:Option Bool->G_->Prop}(h0:AllI a₀)(B:SB a₀ st)(hi:i < a₀.size)(hj:j < a₀.size)(h:Q (some (decide (K (r_ st) i < K (r_ st) j))) st):wpS (m_ prog w) A E s (ltAt' i j) Q st:=by
 have sz:=B.size;obtain⟨x,ex,kx⟩:=qW (xs:=r_ st) (i:=i) (by omega);obtain⟨y,ey,ky⟩:=qW (xs:=r_ st) (i:=j) (by omega);rw[kx,ky] at h;rw[ltAt'_eq];refine k_ (Py ?_);refine k_ (qV ex (k_ (qV ey ?_)));exact ur B.kind (B.ints h0 _ _ ex) (B.ints h0 _ _ ey) h
theorem Kp.set(k:Kp a₀ bN lo st){xs:Array o_}(p:xs.toList.Perm (r_ st).toList)(l:∀i,i < lo->xs[i]?=(r_ st)[i]?):Kp a₀ bN lo (Tx st xs):=⟨⟨p.trans k.sb.perm,k.sb.kind,k.sb.failed⟩,k.pe,λi hi=>(l i hi).trans (k.lw i hi)⟩
theorem Kp.rev(k:Kp a₀ bN lo st){i:Nat}(hi:lo<=i)(hj:j<=a₀.size):Kp a₀ bN lo (Tx st (Q8 (r_ st) i j ((j - i) / 2))):=by
 refine k.set (Ms.mp (mirror_perm _ _ _ _)) λr hr=>?_
 rw[RQ (by rw[k.sb.size];exact hj),if_neg (by omega)]
theorem uY{i:Nat}{Q:Unit->G_->Prop}(h:Q () (Tx st (Q8 (r_ st) i j ((j - i) / 2)))):wpS (m_ prog w) A E s (O2 i j) Q st:=by
 rw[reverseSlice'_eq];exact N2 h
def Up(xs:Array o_)(lo n:Nat):Prop:=∀i j,i<=j->j < n->K xs (lo+i)<=K xs (lo+j)
def Dn(xs:Array o_)(lo n:Nat):Prop:=∀i j,i<=j->j < n->K xs (lo+j)<=K xs (lo+i)
theorem Ac{Q:A2->G_->Prop}(h0:AllI a₀)(hm:lo+m<=a₀.size)(h1:1<=n)(hn:n<=m)(B:SB a₀ st)(u:Up (r_ st) lo n)(h:∀k,n<=k->k<=m->Up (r_ st) lo k->(k < m->K (r_ st) (lo+k) < K (r_ st) (lo+k - 1))->Q (none,k) st):wpS (m_ prog w) A E s (forIn [n:m] ((none,n):A2) (upB lo)) Q st:=by
 refine MJ (MA (I:=λx c ag=>ag=st/\c=(none,x)/\Up (r_ st) lo x) (Q:=λc ag=>ag=st/\∃k,c=(none,k)/\n<=k/\k<=m/\Up (r_ st) lo k/\(k < m->K (r_ st) (lo+k) < K (r_ st) (lo+k - 1))) ?_ ?_ ⟨rfl,rfl,u⟩) ?_
 ·rintro x c ag gX iM ⟨rfl,rfl,u⟩;unfold upB;dsimp only;refine k_ (ux h0 B (by omega) (by omega) ?_);dsimp only;by_cases l:K (r_ ag) (lo+x) < K (r_ ag) (lo+x - 1)
  ·rw[if_pos (by simpa using l)];exact u_ ⟨rfl,x,rfl,gX,by omega,u,λ_=>l⟩
  ·rw[if_neg (by simpa using l)];refine u_ ⟨rfl,rfl,λi j bw hj=>?_⟩;by_cases e:j=x
   ·subst e;by_cases e2:i=j
    ·subst e2;exact L9 _
    ·have:=u i (j - 1) (by omega) (by omega);rw[show lo+(j - 1)=lo+j - 1 by omega] at this;omega
   ·exact u i j bw (by omega)
 ·rintro c ag ⟨rfl,rfl,u⟩;rw[Nat.max_eq_right hn] at u ⊢;exact⟨rfl,m,rfl,hn,A_ _,u,λz=>by omega⟩
 ·rintro c ag ⟨rfl,k,rfl,k1,k2,k3,k4⟩;exact h k k1 k2 k3 k4
theorem G'{Q:Option Nat->G_->Prop}(h0:AllI a₀)(hm:lo+m<=a₀.size)(h1:1<=n)(hn:n<=m)(B:SB a₀ st)(u:Up (r_ st) lo n)(h:∀k,n<=k->k<=m->Up (r_ st) lo k->Q (some k) st):wpS (m_ prog w) A E s (upL lo m n) Q st:=by
 unfold upL;exact k_ (Ac h0 hm h1 hn B u λk k1 k2 k3 _=>u_ (h k k1 k2 k3))
theorem yZ{Q:Option Nat->G_->Prop}(h0:AllI a₀)(hm:lo+m<=a₀.size)(h1:1<=n)(hn:n<=m)(kp:Kp a₀ bN lo st)(d:Dn (r_ st) lo n)(h:∀k ag,1<=k->k<=m->Kp a₀ bN lo ag->Up (r_ ag) lo k->Q (some k) ag):wpS (m_ prog w) A E s (endL lo m n) Q st:=by
 unfold endL;refine k_ (uY ?_);have mC:=kp.rev (i:=lo) (j:=lo+n) (A_ _) (by omega);have sz:=kp.sb.size;refine G' h0 hm h1 hn mC.sb (λi j bw hj=>?_) λk k1 k2 k3=>h k _ (by omega) k2 mC k3
 show K (Q8 (r_ st) lo (lo+n) ((lo+n - lo) / 2)) _<=K (Q8 (r_ st) lo (lo+n) ((lo+n - lo) / 2)) _;rw[K_mirror (by omega),K_mirror (by omega),if_pos (by omega),if_pos (by omega)];have:=d (n - 1 - j) (n - 1 - i) (by omega) (by omega);rw[show lo+(n - 1 - j)=lo+(lo+n) - 1 - (lo+j) by omega,show lo+(n - 1 - i)=lo+(lo+n) - 1 - (lo+i) by omega] at this;exact this
theorem z7{Q:Option Nat->G_->Prop}(h0:AllI a₀)(hm:lo+m<=a₀.size)(hn:n+1<=m)(kp:Kp a₀ bN lo st)(d:Dn (r_ st) lo (n+1))(h:∀k ag,1<=k->k<=m->Kp a₀ bN lo ag->Up (r_ ag) lo k->Q (some k) ag):wpS (m_ prog w) A E s (dnL lo m n) Q st:=by
 unfold dnL;refine k_ (QA (MZ ⟨rfl,?_⟩))
 have mD:∀{st:G_}{x q:Nat},Kp a₀ bN lo st->lo+x<=a₀.size->q+1<=x->(∀i,x - (q+1)<=i->i < x->K (r_ st) (lo+i)=K (r_ st) (lo+x - 1))->∀r,K (Q8 (r_ st) (lo+x - (q+1)) (lo+x) ((lo+x - (lo+x - (q+1))) / 2)) r=K (r_ st) r:=λ{st x q} kp hx hq hh r=>by
  have sz:=kp.sb.size;refine K_mirror_equal (by omega) (λr r1 r2=>?_) r;have:=hh (r - lo) (by omega) (by omega);rw[show lo+(r - lo)=r by omega] at this;exact this
 refine k_ (MJ (MA (I:=λx c ag=>Kp a₀ bN lo ag/\∃q,c=(none,x,q)/\q+1<=x/\x<=m/\Dn (r_ ag) lo x/\∀i,x - (q+1)<=i->i < x->K (r_ ag) (lo+i)=K (r_ ag) (lo+x - 1))
  (Q:=λc ag=>Kp a₀ bN lo ag/\∃x q,c=(none,x,q)/\q+1<=x/\x<=m/\Dn (r_ ag) lo x/\∀i,x - (q+1)<=i->i < x->K (r_ ag) (lo+i)=K (r_ ag) (lo+x - 1)) ?_ ?_ ⟨kp,0,rfl,by omega,hn,d,λi i1 i2=>by congr 1;omega⟩) ?_)
 ·rintro x c ag gX iM ⟨kp,q,rfl,hq,fR,d,tl⟩;have xm:x < m:=by omega
  clear gX iM hn;unfold dnB;dsimp only;refine k_ (ux h0 kp.sb (by omega) (by omega) ?_);dsimp only;by_cases l:K (r_ ag) (lo+x) < K (r_ ag) (lo+x - 1)
  ·rw[if_pos (by simpa using l)]
   have go:∀(bP:G_),Kp a₀ bN lo bP->(∀r,K (r_ bP) r=K (r_ ag) r)->Kp a₀ bN lo bP/\∃q',(((none,x+1,0):A3))=(none,x+1,q')/\q'+1<=x+1/\x+1<=m/\Dn (r_ bP) lo (x+1)/\∀i,x+1 - (q'+1)<=i->i < x+1->K (r_ bP) (lo+i)=K (r_ bP) (lo+(x+1) - 1):=λbP fT same=>by
    refine⟨fT,0,rfl,by omega,by omega,λi j bw hj=>?_,λi i1 i2=>by congr 1;omega⟩;rw[same,same];by_cases e:j=x
    ·subst e;by_cases e2:i=j
     ·subst e2;exact L9 _
     ·have:=d i (j - 1) (by omega) (by omega);rw[show lo+(j - 1)=lo+j - 1 by omega] at this;omega
    ·exact d i j bw (by omega)
   by_cases q0:q > 0
   ·rw[if_pos q0];exact k_ (uY (u_ (go _ (kp.rev (by omega) (by omega)) (mD kp (by omega) hq tl))))
   ·rw[if_neg q0];exact u_ (go _ kp λr=>rfl)
  ·rw[if_neg (by simpa using l)];refine k_ (ux h0 kp.sb (by omega) (by omega) ?_);dsimp only;by_cases l2:K (r_ ag) (lo+x - 1) < K (r_ ag) (lo+x)
   ·rw[if_pos (by simpa using l2)];exact u_ ⟨kp,x,q,rfl,hq,fR,d,tl⟩
   ·rw[if_neg (by simpa using l2)];have e:K (r_ ag) (lo+x)=K (r_ ag) (lo+x - 1):=by omega
    refine u_ ⟨kp,q+1,rfl,by omega,by omega,λi j bw hj=>?_,λi i1 i2=>?_⟩
    ·by_cases e1:j=x
     ·subst e1;by_cases e2:i=j
      ·subst e2;exact L9 _
      ·have:=d i (j - 1) (by omega) (by omega);rw[show lo+(j - 1)=lo+j - 1 by omega] at this;omega
     ·exact d i j bw (by omega)
    ·rw[show lo+(x+1) - 1=lo+x by omega];by_cases e1:i=x
     ·subst e1;rfl
     ·rw[e];exact tl i (by omega) (by omega)
 ·rintro c ag ⟨kp,q,rfl,hq,fR,d,tl⟩;exact⟨kp,_,q,rfl,hq,fR,d,tl⟩
 ·rintro c ag ⟨kp,x,q,rfl,hq,fR,d,tl⟩;dsimp only;by_cases q0:q > 0
  ·rw[if_pos q0];refine k_ (uY ?_);have same:=mD kp (by omega) hq tl;refine yZ h0 hm (by omega) fR (kp.rev (by omega) (by omega)) (λi j bw hj=>?_) h;show K (Q8 (r_ ag) _ _ _) _<=K (Q8 (r_ ag) _ _ _) _;rw[same,same];exact d i j bw hj
  ·rw[if_neg q0];exact yZ h0 hm (by omega) fR kp d h
theorem ww{Q:Option Nat->G_->Prop}(h0:AllI a₀)(hm:lo+m<=a₀.size)(h1:1<=m)(B:SB a₀ st)(h:∀k ag,1<=k->k<=m->Kp a₀ st lo ag->Up (r_ ag) lo k->Q (some k) ag):wpS (m_ prog w) A E s (countRun' lo m) Q st:=by
 have kp:Kp a₀ st lo st:=⟨B,rfl,λ_ _=>rfl⟩;have sz:=B.size;rw[EL];refine k_ (Ac h0 hm (A_ 1) h1 B (λi j bw hj=>by rw[show i=j by omega];exact L9 _) λk k1 k2 k3 k4=>?_);dsimp only;by_cases e:k=m
 ·rw[if_pos (by simpa using e)];exact u_ (h k st k1 k2 kp k3)
 ·rw[if_neg (by simpa using e)];have k5:=k4 (by omega);by_cases e1:k > 1
  ·rw[if_pos e1];refine k_ (ux h0 B (by omega) (by omega) ?_);dsimp only;by_cases l:K (r_ st) lo < K (r_ st) (lo+k - 1)
   ·rw[if_pos (by simpa using l)];exact u_ (h k st k1 k2 kp k3)
   ·rw[if_neg (by simpa using l)];refine k_ (uY ?_)
    have all:∀i,i < k->K (r_ st) (lo+i)=K (r_ st) (lo+k - 1):=λi hi=>by
     have a1:=k3 0 i (by omega) hi;have a2:=k3 i (k - 1) (by omega) (by omega);rw[show lo+(k - 1)=lo+k - 1 by omega] at a2;rw[Nat.add_zero] at a1;omega
    have same:∀r,K (Q8 (r_ st) lo (lo+k) ((lo+k - lo) / 2)) r=K (r_ st) r:=λr=>by
     refine K_mirror_equal (by omega) (λr r1 r2=>?_) r;have:=all (r - lo) (by omega);rw[show lo+(r - lo)=r by omega] at this;exact this
    refine z7 h0 hm (by omega) (kp.rev (A_ _) (by omega)) (λi j bw hj=>?_) h;show K (Q8 (r_ st) _ _ _) _<=K (Q8 (r_ st) _ _ _) _;rw[same,same];by_cases ej:j=k
    ·subst ej;by_cases ei:i=j
     ·subst ei;exact L9 _
     ·rw[all i (by omega)];omega
    ·rw[all i (by omega),all j (by omega)];exact L9 _
  ·rw[if_neg e1];have:k=1:=by omega
   subst this;refine z7 h0 hm (by omega) kp (λi j bw hj=>?_) h;by_cases ej:i=j
   ·subst ej;exact L9 _
   ·have hi:i=0:=by omega
    have hj:j=1:=by omega
    subst hi hj;rw[show lo+1 - 1=lo+0 by omega] at k5;omega
theorem Dx{k:Nat}{Q:Bool->G_->Prop}(h0:AllI a₀)(hm:lo+m<=a₀.size)(hk:k<=m)(kp:Kp a₀ bN lo st)(u:Up (r_ st) lo k)(h:∀ag,Kp a₀ bN lo ag->Up (r_ ag) lo m->Q true ag):wpS (m_ prog w) A E s (binarySort' lo m k) Q st:=by
 rw[binarySort'_eq];refine k_ (MJ (MA (I:=λx c ag=>c=(none,())/\Kp a₀ bN lo ag/\Up (r_ ag) lo (min x m)) (Q:=λc ag=>c=(none,())/\Kp a₀ bN lo ag/\Up (r_ ag) lo m) ?_ ?_ ⟨rfl,kp,?_⟩) ?_)
 ·rintro x c ag gX iM ⟨rfl,kp,u⟩;have xm:x < m:=by omega
  rw[MN (OH xm)] at u;have sz:=kp.sb.size;have lx:lo+x < (r_ ag).size:=by omega
  have la:lo+x < a₀.size:=by omega
  clear gX iM hk hm sz
  refine k_ (MJ (MA (I:=λy c aP=>aP=ag/\∃l r,c=(none,l,r)/\l<=r/\r<=x/\r - l<=x - y/\(∀i,i < l->K (r_ ag) (lo+i)<=K (r_ ag) (lo+x))/\∀i,r<=i->i < x->K (r_ ag) (lo+x) < K (r_ ag) (lo+i))
   (Q:=λc aP=>aP=ag/\∃l r,c=(none,l,r)/\l<=x/\(∀i,i < l->K (r_ ag) (lo+i)<=K (r_ ag) (lo+x))/\∀i,l<=i->i < x->K (r_ ag) (lo+x) < K (r_ ag) (lo+i)) ?_ ?_ ⟨rfl,0,x,rfl,by omega,by omega,by omega,λi hi=>by omega,λi i1 i2=>by omega⟩) ?_)
  ·rintro y c aP - hy ⟨rfl,l,r,rfl,h1,h2,h3,h4,h5⟩;dsimp only;by_cases ge:l>=r
   ·rw[if_pos ge];have:l=r:=by omega
    subst this;exact u_ ⟨rfl,l,l,rfl,h2,h4,h5⟩
   ·rw[if_neg ge];refine k_ (ux h0 kp.sb (by omega) (by omega) ?_);dsimp only;by_cases less:K (r_ aP) (lo+x) < K (r_ aP) (lo+(l+r) / 2)
    ·rw[if_pos (by simpa using less)];refine u_ ⟨rfl,l,(l+r) / 2,rfl,by omega,by omega,by omega,h4,λi i1 i2=>?_⟩;have:=u ((l+r) / 2) i i1 (by omega);omega
    ·rw[if_neg (by simpa using less)];refine u_ ⟨rfl,(l+r) / 2+1,r,rfl,by omega,by omega,by omega,λi i1=>?_,h5⟩;have:=u i ((l+r) / 2) (by omega) (by omega);omega
  ·rintro c aP ⟨rfl,l,r,rfl,h1,h2,h3,h4,h5⟩;have:l=r:=by omega
   subst this;exact⟨rfl,l,l,rfl,h2,h4,h5⟩
  ·rintro c aP ⟨rfl,l,r,rfl,h1,h4,h5⟩;show wpS _ _ _ _ (do moveDown' (lo+x) (lo+l);pure (Ow (none,()))) _ _;rw[moveDown'_eq];refine k_ (N2 (u_ ⟨rfl,kp.set (Ms.mp (bubble_perm _ _ _)) (λi hi=>?_),?_⟩))
   ·rw[getElem?_bubble (by omega) _ (by omega),if_neg (by omega),if_neg (by omega)]
   ·rw[MN (by omega)];intro i j bw hj;show K (bubble (r_ aP) (lo+x) (lo+x - (lo+l))) (lo+i)<=K (bubble (r_ aP) (lo+x) (lo+x - (lo+l))) (lo+j)
    have g:∀q,q < x+1->K (bubble (r_ aP) (lo+x) (lo+x - (lo+l))) (lo+q)=if q=l then K (r_ aP) (lo+x) else if l < q then K (r_ aP) (lo+(q - 1)) else K (r_ aP) (lo+q):=λq hq=>by
     rw[K_bubble (by omega) (by omega)];by_cases e1:q=l
     ·rw[if_pos (by omega),if_pos e1]
     ·rw[if_neg (by omega),if_neg e1];by_cases e2:l < q
      ·rw[if_pos (by omega),if_pos e2]
       congr 1
       omega
      ·rw[if_neg (by omega),if_neg e2]
    rw[g i (by omega),g j hj];by_cases i1:i=l<;>by_cases j1:j=l
    ·rw[if_pos i1,if_pos j1];exact L9 _
    ·rw[if_pos i1,if_neg j1,if_pos (by omega)];exact QZ (h5 _ (by omega) (by omega))
    ·rw[if_neg i1,if_pos j1,if_neg (by omega)];exact h4 _ (by omega)
    ·rw[if_neg i1,if_neg j1];by_cases i2:l < i<;>by_cases j2:l < j
     ·rw[if_pos i2,if_pos j2];exact u _ _ (by omega) (by omega)
     ·omega
     ·rw[if_neg i2,if_pos j2];exact u _ _ (by omega) (by omega)
     ·rw[if_neg i2,if_neg j2];exact u _ _ (by omega) (by omega)
 ·rintro c ag ⟨rfl,kp,u⟩;rw[show min (max (max k 1) m) m=m by omega] at u;exact⟨rfl,kp,u⟩
 ·intro i j bw hj;by_cases z:k=0
  ·rw[show i=j by omega];exact L9 _
  ·exact u i j bw (by omega)
 ·rintro c ag ⟨rfl,kp,u⟩;exact u_ (h ag kp u)
end
abbrev Pd:=Nat×Nat×Nat
def Rs(L:List o_):Nat->List Pd->Nat->Prop
 | s,[],e=>s=e
 | s,r::rs,e=>r.1=s/\1<=r.2.1/\Run L s (s+r.2.1)/\Rs L (s+r.2.1) rs e
theorem Rs.le{L:List o_}:∀{rs:List Pd}{s e:Nat},Rs L s rs e->s+rs.length<=e
 | [],s,e,h=>by rw[Rs] at h;simp;omega
 | r::rs,s,e,h=>by
  obtain⟨_,h1,_,h2⟩:=h;have:=Rs.le h2;simp;omega
theorem Run.same{L:List o_}{i e:Nat}(h:L'.take e=L.take e)(hj:j<=e)(r:Run L i j):Run L' i j:=by
 unfold Run at *;have t:∀l:List o_,l.take j=(l.take e).take j:=λl=>by rw[Oj,MN hj]
 rw[t L',h,←t L];exact r
theorem Run.same'{L:List o_}{i q:Nat}(h:L'.drop q=L.drop q)(hi:q<=i)(r:Run L i j):Run L' i j:=by
 unfold Run at *;rw[PH] at r ⊢;have t:∀l:List o_,l.drop i=(l.drop q).drop (i - q):=λl=>by rw[PF];congr 1;omega
 rw[t L',h,←t L];exact r
theorem Rs.same{L L':List o_}:∀{rs:List Pd}{s e:Nat},L'.take e=L.take e->Rs L s rs e->Rs L' s rs e
 | [],s,e,_,h=>h
 | r::rs,s,e,t,⟨h1,h2,h3,h4⟩=>⟨h1,h2,h3.same t (by have:=h4.le;omega),Rs.same t h4⟩
theorem Rs.same'{L L':List o_}{q:Nat}(t:L'.drop q=L.drop q):∀{rs:List Pd}{s e:Nat},q<=s->Rs L s rs e->Rs L' s rs e
 | [],s,e,_,h=>h
 | r::rs,s,e,hq,⟨h1,h2,h3,h4⟩=>⟨h1,h2,h3.same' t hq,Rs.same' t (by omega) h4⟩
theorem Rs.snoc{L:List o_}:∀{rs:List Pd}{s e n p:Nat},Rs L s rs e->1<=n->Run L e (e+n)->Rs L s (rs++[(e,n,p)]) (e+n)
 | [],s,e,n,p,h,h1,h2=>by
  rw[Rs] at h;subst h;exact⟨rfl,h1,h2,rfl⟩
 | r::rs,s,e,n,p,⟨a1,a2,a3,a4⟩,h1,h2=>⟨a1,a2,a3,Rs.snoc a4 h1 h2⟩
theorem Rs.at{L:List o_}{u v:Pd}{l2:List Pd}:∀{l1:List Pd}{s e:Nat},Rs L s (l1++u::v::l2) e->s<=u.1/\1<=u.2.1/\1<=v.2.1/\v.1=u.1+u.2.1/\v.1+v.2.1<=e/\Run L u.1 v.1/\Run L v.1 (v.1+v.2.1)
 | [],s,e,⟨a1,a2,a3,b1,b2,b3,b4⟩=>by
  have:=b4.le;subst a1;refine⟨A_ _,a2,b2,b1,by omega,?_,?_⟩
  ·rw[b1];exact a3
  ·rw[b1];exact b3
 | r::l1,s,e,⟨a1,a2,a3,a4⟩=>by
  have:=Rs.at a4;exact⟨by omega,this.2⟩
theorem Rs.join{L L':List o_}{u v:Pd}{l2:List Pd}(t:L'.take u.1=L.take u.1)(d:L'.drop (v.1+v.2.1)=L.drop (v.1+v.2.1))(r:Run L' u.1 (v.1+v.2.1)):∀{l1:List Pd}{s e:Nat},Rs L s (l1++u::v::l2) e->Rs L' s (l1++(u.1,u.2.1+v.2.1,u.2.2)::l2) e
 | [],s,e,⟨a1,a2,a3,b1,b2,b3,b4⟩=>by
  subst a1;have e1:u.1+(u.2.1+v.2.1)=v.1+v.2.1:=by omega
  refine⟨rfl,by show 1<=u.2.1+v.2.1;omega,?_,?_⟩
  ·show Run L' u.1 (u.1+(u.2.1+v.2.1));rw[e1];exact r
  ·show Rs L' (u.1+(u.2.1+v.2.1)) l2 e;rw[e1];refine Rs.same' d (A_ _) ?_;rw[b1];exact b4
 | q::l1,s,e,⟨a1,a2,a3,a4⟩=>by
  have:=(Rs.at a4).1;exact⟨a1,a2,a3.same t (by omega),Rs.join t d r a4⟩
theorem Rs.power{L:List o_}{u:Pd}{p:Nat}{l2:List Pd}:∀{l1:List Pd}{s e:Nat},Rs L s (l1++u::l2) e->Rs L s (l1++(u.1,u.2.1,p)::l2) e
 | [],s,e,⟨a1,a2,a3,a4⟩=>⟨a1,a2,a3,a4⟩
 | q::l1,s,e,⟨a1,a2,a3,a4⟩=>⟨a1,a2,a3,Rs.power a4⟩
theorem FS(l:List Pd)(v:Pd)(f:Pd->Pd):(l++[v]).modify l.length f=l++[f v]:=by
 induction l with
 | nil=>rfl
 | cons x l ih=>rw[QE,Md,List.modify_succ_cons,ih];rfl
theorem Cz{c:Prop}[Decidable c]{a b:Nat}(h1:a+1 < n)(h2:b+1 < n):(if c then a else b)+1 < n:=by
 split<;>assumption
theorem Jq{l:List Pd}{i:Nat}(h:i+1 < l.length):∃l1 u v l2,l=l1++u::v::l2/\l1.length=i:=by
 refine⟨l.take i,l[i],l[i+1],l.drop (i+2),?_,by rw[L5];omega⟩;rw[←LV,←LV,MM]
abbrev E1:=Option PUnit×PUnit
abbrev E2:=Option PUnit×Nat
noncomputable def colB(pw:Nat)(_:Nat)(c:E1):StateT G_ Sem (ForInStep E1):=do
 let st ←get
 match (if(t_ st).size > 1 then(t_ st)[(t_ st).size - 2]? else none) with
 | some u=>if u.2.2<=pw then pure (.done (none,⟨⟩)) else do
  let ok ←SK ((t_ st).size - 2)
  if(!ok)=true then pure (.done (some ⟨⟩,⟨⟩)) else pure (.yield (none,⟨⟩))
 | _=>pure (.done (none,⟨⟩))
noncomputable def addR(lo n:Nat):StateT G_ Sem (ForInStep E2):=do
 modify λst=>Sh st ((t_ st).push (lo,n,0))
 pure (.yield (none,lo+n))
noncomputable def nextR(size lo n:Nat):StateT G_ Sem (ForInStep E2):=do
 let st ←get
 match (t_ st).back? with
 | some u=>do
  let c ←forIn [0:size] ((none,⟨⟩):E1) (colB (power' size (2*u.1+u.2.1) (2*u.1+u.2.1+u.2.1+n) size))
  match c.1 with
  | some r=>pure (.done (some r,lo))
  | none=>do
   modify λst=>Sh st ((t_ st).modify ((t_ st).size - 1) λv=>(v.1,v.2.1,power' size (2*u.1+u.2.1) (2*u.1+u.2.1+u.2.1+n) size))
   addR lo n
 | _=>addR lo n
noncomputable def runB(size mr:Nat)(_:Nat)(c:E2):StateT G_ Sem (ForInStep E2):=
 if c.2>=size then pure (.done (none,c.2)) else do
  match ←countRun' c.2 (size - c.2) with
  | some f =>
   if f < mr then do
    Sn "list.sort.binary-insertion"
    let ok ←binarySort' c.2 (min (size - c.2) mr) f
    if(!ok)=true then pure (.done (some ⟨⟩,c.2)) else nextR size c.2 (min (size - c.2) mr)
   else nextR size c.2 f
  | _=>pure (.done (some ⟨⟩,c.2))
noncomputable def which(p:Array Pd):Nat:=if(if p.size - 2 > 0 then p[p.size - 2 - 1]?.map (·.2.1) else none).any (· < (p[p.size - 2+1]?.elim 0 (·.2.1)))=true then p.size - 2 - 1 else p.size - 2
noncomputable def lastB(_:Nat)(c:E1):StateT G_ Sem (ForInStep E1):=do
 let st ←get
 if(t_ st).size<=1 then pure (.done (none,⟨⟩)) else do
  let ok ←SK (which (t_ st))
  if(!ok)=true then pure (.done (some ⟨⟩,⟨⟩)) else pure (.yield (none,⟨⟩))
theorem GM:SR=(do
 let st ←get
 let c ←forIn [0:(r_ st).size] ((none,0):E2) (runB (r_ st).size (minRun' (r_ st).size (r_ st).size 0))
 match c.1 with
 | some r=>pure r
 | none=>do
  let c ←forIn [0:(r_ st).size] ((none,⟨⟩):E1) lastB
  match c.1 with
  | some r=>pure r
  | none=>pure ⟨⟩):=by kernel_rfl
section
variable{prog:B_}{w:J_}{E:b_->d_->Prop}{s:d_}{st:G_}{a₀:Array o_}
theorem Ai{i e:Nat}{Q:Bool->G_->Prop}(B:SB a₀ st)(h0:AllI a₀)(r:Rs (r_ st).toList 0 (t_ st).toList e)(he:e<=a₀.size)(hi:i+1 < (t_ st).size)(h:∀ag,SB a₀ ag->Rs (r_ ag).toList 0 (t_ ag).toList e->(t_ ag).size+1=(t_ st).size->(r_ ag).toList.drop e=(r_ st).toList.drop e->Q true ag):wpS (m_ prog w) A E s (SK i) Q st:=by
 obtain⟨l1,u,v,l2,e1,e2⟩:=Jq (l:=(t_ st).toList) (i:=i) (by simpa using hi);rw[e1] at r;obtain⟨_,a1,a2,a3,a4,a5,a6⟩:=r.at
 have g1:(t_ st)[i]?=some u:=by
  rw[←Mi,e1,MO (by omega),e2,SE];rfl
 have g2:(t_ st)[i+1]?=some v:=by
  rw[←Mi,e1,MO (by omega),e2,show i+1 - i=1 by omega];rfl
 refine J7 (sa:=u.1) (na:=u.2.1) (pw:=u.2.2) (sb:=v.1) (nb:=v.2.1) (pw':=v.2.2) B h0 g1 g2 a3 a1 a2 (by omega) a5 a6 λag B' pe tk dr rn=>?_
 have pl:(t_ ag).toList=l1++(u.1,u.2.1+v.2.1,u.2.2)::l2:=by
  rw[pe,Array.toList_eraseIdxIfInBounds,PZ,e1,List.set_append,if_neg (by omega),e2,SE];rw[List.set_cons_zero,List.eraseIdx_append_of_length_le (by omega),e2,show i+1 - i=1 by omega];rfl
 refine h ag B' ?_ ?_ ?_
 ·rw[pl];exact r.join tk dr rn
 ·have q1:=congrArg length pl;have q2:=congrArg length e1;simp at q1 q2;omega
 ·have t:∀l:List o_,l.drop e=(l.drop (v.1+v.2.1)).drop (e - (v.1+v.2.1)):=λl=>by rw[PF];congr 1;omega
  rw[t,dr,←t]
theorem Gw{xs:Array o_}{lo:Nat}(h:Up xs lo n)(hn:lo+n<=xs.size):Run xs.toList lo (lo+n):=Run.of hn λp q h1 h2 h3=>by
 have:=h (p - lo) (q - lo) (by omega) (by omega);rw[show lo+(p - lo)=p by omega,show lo+(q - lo)=q by omega] at this;exact this
theorem Fy{xs ys:Array o_}{lo:Nat}(h:∀k,k < lo->xs[k]?=ys[k]?):xs.toList.take lo=ys.toList.take lo:=by
 apply List.ext_getElem?
 intro k;rw[Si,Si];split
 ·rename_i hk;rw[Mi,Mi];exact h k hk
 ·rfl
theorem Dw{lo x:Nat}{Q:ForInStep E2->G_->Prop}(h0:AllI a₀)(B:SB a₀ st)(r:Rs (r_ st).toList 0 (t_ st).toList lo)(h1:1<=n)(h2:lo+n<=a₀.size)(rn:Run (r_ st).toList lo (lo+n))(h:∀ag,SB a₀ ag->Rs (r_ ag).toList 0 (t_ ag).toList (lo+n)->Q (.yield (none,lo+n)) ag):
  wpS (m_ prog w) A E s (nextR a₀.size lo n) Q st:=by
 have mE:∀ag,SB a₀ ag->Rs (r_ ag).toList 0 (t_ ag).toList lo->Run (r_ ag).toList lo (lo+n)->wpS (m_ prog w) A E s (addR lo n) Q ag:=λag B' r' fi=>by
  unfold addR;refine k_ (N2 (u_ (h _ ⟨B'.perm,B'.kind,B'.failed⟩ ?_)));show Rs (r_ ag).toList 0 ((t_ ag).push (lo,n,0)).toList (lo+n);rw[O'];exact r'.snoc h1 fi
 unfold nextR;refine k_ (Py ?_);cases eb:(t_ st).back? with
 | none=>exact mE st B r rn
 | some u =>
  dsimp only;generalize power' a₀.size (2*u.1+u.2.1) (2*u.1+u.2.1+u.2.1+n) a₀.size=pw
  have ps:1<=(t_ st).size:=by
   rcases Sf (t_ st).size with z | z
   ·rw[Array.back?_eq_getElem?,Og (by omega)] at eb;cases eb
   ·exact z
  refine k_ (MJ (MA (I:=λx c ag=>c=(none,⟨⟩)/\SB a₀ ag/\Rs (r_ ag).toList 0 (t_ ag).toList lo/\Run (r_ ag).toList lo (lo+n)/\1<=(t_ ag).size)
   (Q:=λc ag=>c=(none,⟨⟩)/\SB a₀ ag/\Rs (r_ ag).toList 0 (t_ ag).toList lo/\Run (r_ ag).toList lo (lo+n)/\1<=(t_ ag).size) ?_ (λ_ _ z=>z) ⟨rfl,B,r,rn,ps⟩) ?_)
  ·rintro x c ag - hx ⟨rfl,B',r',fi,iN⟩;unfold colB;refine k_ (Py ?_);split
   ·rename_i v ev;split
    ·exact u_ ⟨rfl,B',r',fi,iN⟩
    ·have gt:(t_ ag).size > 1:=by
      rcases N4 1 (t_ ag).size with z | z
      ·exact z
      ·rw[if_neg (by omega)] at ev;cases ev
     refine k_ (Ai B' h0 r' (by omega) (by omega) λbP B2 r2 z2 d2=>?_);rw[if_neg (by decide)];exact u_ ⟨rfl,B2,r2,fi.same' d2 (A_ _),by omega⟩
   ·exact u_ ⟨rfl,B',r',fi,iN⟩
  ·rintro c ag ⟨rfl,B',r',fi,iN⟩;dsimp only;refine k_ (N2 (mE _ ⟨B'.perm,B'.kind,B'.failed⟩ ?_ fi));show Rs (r_ ag).toList 0 ((t_ ag).modify ((t_ ag).size - 1) λv=>(v.1,v.2.1,pw)).toList lo;obtain⟨l1,v,ev⟩:∃l1 v,(t_ ag).toList=l1++[v]:=⟨_,_,(List.dropLast_concat_getLast (by intro z;have q:(t_ ag).toList.length=0:=(by rw[z];rfl);rw[LS] at q;omega)).symm⟩
   have ln:l1.length=(t_ ag).size - 1:=by
    have:=congrArg length ev;simp at this;omega
   have e3:((t_ ag).modify ((t_ ag).size - 1) λv=>(v.1,v.2.1,pw)).toList=l1++[(v.1,v.2.1,pw)]:=by
    rw[Array.toList_modify,ev,←ln];exact FS l1 v _
   rw[e3];rw[ev] at r';exact r'.power
theorem Iz{Q:Unit->G_->Prop}(h0:AllI a₀)(B:SB a₀ st)(pe:t_ st=#[])(h2:2<=a₀.size)(h:∀ag,SB a₀ ag->SL (r_ ag).toList->Q () ag):wpS (m_ prog w) A E s SR Q st:=by
 rw[GM];refine k_ (Py ?_);rw[B.size];generalize minRun' a₀.size a₀.size 0=mr
 refine k_ (MJ (MA (I:=λx c ag=>∃lo,c=(none,lo)/\x<=lo/\lo<=a₀.size/\SB a₀ ag/\Rs (r_ ag).toList 0 (t_ ag).toList lo)
  (Q:=λc ag=>c=(none,a₀.size)/\SB a₀ ag/\Rs (r_ ag).toList 0 (t_ ag).toList a₀.size) ?_ ?_ ⟨0,rfl,by omega,by omega,B,by rw[pe];exact rfl⟩) ?_)
 ·rintro x c ag - hx ⟨lo,rfl,h3,h4,B,r⟩;unfold runB;dsimp only;by_cases ge:lo>=a₀.size
  ·rw[if_pos ge];have:lo=a₀.size:=by omega
   subst this;exact u_ ⟨rfl,B,r⟩
  ·rw[if_neg ge];refine k_ (ww h0 (by omega) (by omega) B λf bP f1 f2 kp u=>?_);dsimp only
   have go:∀n cS,1<=n->lo+n<=a₀.size->Kp a₀ ag lo cS->Up (r_ cS) lo n->wpS (m_ prog w) A E s (nextR a₀.size lo n) (λr aP=>match r with
     | .done c=>c=(none,a₀.size)/\SB a₀ aP/\Rs (r_ aP).toList 0 (t_ aP).toList a₀.size
     | .yield c=>∃lo,c=(none,lo)/\x+1<=lo/\lo<=a₀.size/\SB a₀ aP/\Rs (r_ aP).toList 0 (t_ aP).toList lo) cS:=λn cS n1 n2 kp u =>
    Dw (x:=x) h0 kp.sb (by rw[kp.pe];exact r.same (Fy kp.lw)) n1 n2 (Gw u (by rw[kp.sb.size];exact n2)) λqi B4 r4=>⟨lo+n,rfl,by omega,n2,B4,r4⟩
   by_cases lt:f < mr
   ·rw[if_pos lt];refine k_ (QA (MZ ⟨rfl,?_⟩));refine k_ (Dx h0 (by omega) (by omega) kp u λcS oM u3=>?_);rw[if_neg (by decide)];exact MJ (go _ _ (by omega) (by omega) oM u3) λr aP z=>by cases r<;>exact z
   ·rw[if_neg lt];exact MJ (go _ _ f1 (by omega) kp u) λr aP z=>by cases r<;>exact z
 ·rintro c ag ⟨lo,rfl,h3,h4,B,r⟩;have:lo=a₀.size:=by omega
  subst this;exact⟨rfl,B,r⟩
 ·rintro c ag ⟨rfl,B,r⟩;dsimp only;have le:=r.le
  refine k_ (MJ (MA (I:=λx c ag=>c=(none,⟨⟩)/\SB a₀ ag/\Rs (r_ ag).toList 0 (t_ ag).toList a₀.size/\(t_ ag).size<=max 1 (a₀.size - x))
   (Q:=λc ag=>c=(none,⟨⟩)/\SB a₀ ag/\Rs (r_ ag).toList 0 (t_ ag).toList a₀.size/\(t_ ag).size<=1) ?_ ?_ ⟨rfl,B,r,by simp at le;omega⟩) ?_)
  ·rintro x c ag - hx ⟨rfl,B',r',z'⟩;unfold lastB;refine k_ (Py ?_);by_cases one:(t_ ag).size<=1
   ·rw[if_pos one];exact u_ ⟨rfl,B',r',one⟩
   ·rw[if_neg one]
    have hw:which (t_ ag)+1 < (t_ ag).size:=by
     unfold which;exact Cz (by omega) (by omega)
    refine k_ (Ai B' h0 r' (A_ _) hw λbP B2 r2 z2 d2=>?_);rw[if_neg (by decide)];exact u_ ⟨rfl,B2,r2,by omega⟩
  ·rintro c ag ⟨rfl,B',r',z'⟩;exact⟨rfl,B',r',by omega⟩
  ·rintro c ag ⟨rfl,B',r',z'⟩;refine u_ (h ag B' ?_);have ln:(t_ ag).toList.length<=1:=by simpa using z'
   have sz:=B'.size;cases e:(t_ ag).toList with
   | nil =>
    rw[e,Rs] at r';omega
   | cons u us =>
    cases us with
    | cons v vs=>rw[e] at ln;simp at ln
    | nil =>
     rw[e] at r';obtain⟨a1,a2,a3,a4⟩:=r';rw[Rs] at a4;rw[a4] at a3;unfold Run at a3;rw[Qq,L6 (by simp;omega)] at a3;exact a3
end
end TS
namespace DL
open PySem PySem.W PySem.Spec PyProof.Rows L2 PySem.SetTable
def IE(es:Array (Int×b_)):Prop:=∀e∈es,∃j t,e=(OZ j,b_.int j t)
theorem BD{t:MW}{es:Array (Int×b_)}(T:TabOk t es){h:Int}{K:Nat}(hK:sl t.mask h K∉t.place)(hk:∀k,k < K->sl t.mask h k∈t.place):∀(f k:Nat),k<=K->K - k < f →
  probe.go t (λ_=>h+1) h f (pth t.mask h k)=some (.empty (sl t.mask h K) none)
 | 0,k,h1,h2=>by omega
 | f+1,k,h1,h2=>by
  by_cases z:k=K
  ·subst z;rw[probe.go,show(pth t.mask h k).j=sl t.mask h k from rfl,CA T.ris T.nd hK,BW]
  ·obtain⟨i,hi,e⟩:=GQ (hk k (by omega))
   have st:t.slot (pth t.mask h k).j=.live i:=by
    rw[show(pth t.mask h k).j=t.place[i] from e.symm];exact Df T.ris hi
   rw[probe.go,st];dsimp only;have ne:¬((h+1 == h)=true):=by simp;omega
   rw[if_neg ne,Js];exact BD T hK hk f (k+1) (by omega) (by omega)
section
variable{prog:B_}{w:J_}{E:b_->d_->Prop}{s:d_}
theorem IE.elems{es:Array (Int×b_)}(h:IE es):ElemsOf (QM prog w) es.toList:=λe he=>by
 obtain⟨j,t,rfl⟩:=h e (by simpa using he);exact⟨⟨j,by simp[QM,b_.isInt],rfl⟩,rfl⟩
theorem Hv{a:i_}{led:Bool}{es:Array (Int×b_)}{i:Int}{Q:Bool->d_->Prop}(S:SetAt s.heap a led es)(ie:IE es)(few:(∀e∈es,∀tk,e.2≠b_.int i tk)->es.size<=299)(old:(∃e∈es,∃tk,e.2=b_.int i tk)->Q false s)(new:(∀e∈es,∀tk,e.2≠b_.int i tk)->∀h' es',SetAt h' a led es'->(∀e,e∈es'↔e=(OZ i,b_.int i tk)\/e∈es)->es'.size=es.size+1->KeptBut a s.heap h'->Q true { s with heap:=h' }):
  z_ (m_ prog w) A (setAddHashed a (.int i tk) (OZ i)) Q E s:=by
 have line:600<=v_:=by rw[Mq];decide
 obtain⟨o,ep,t,ho,hc,iO,T,tl⟩:=S;have le:es.size<=300:=by rw[←T.sz];exact T.few.1
 obtain⟨h,eh⟩:∃h,h=OZ i:=⟨_,rfl⟩;obtain⟨K,k1,k2,k3⟩:=T.free h;have fits:=T.fits;unfold setAddHashed;refine LX ?_;unfold setAddHashedIn;refine a_ (N9 ho iO fits ?_);dsimp only;rw[byScan_of (knd:=QM prog w) rfl (Oz le (by decide)) ie.elems,if_pos rfl];unfold setAddByScan;refine a_ (a_ (MZ ?_));refine a_ (wpAny_setScan_of (knd:=QM prog w) (k:=i) (by simp[QM,b_.isInt]) ho iO fits ie.elems ?_);cases hr:List.findIdx? (λe:Int×b_=>(QM prog w).is i e.2) es.toList with
 | some j =>
  dsimp only;obtain⟨hj,oN,_⟩:=List.findIdx?_eq_some_iff_getElem.mp hr;refine e_ (e_ (old ⟨es.toList[j],by simpa using MF hj,?_⟩));exact b_.isInt_shape oN
 | none =>
  dsimp only
  have aH:∀e∈es,∀tk,e.2≠b_.int i tk:=λe he tk z=>by
   have:=List.findIdx?_eq_none_iff.mp hr e (by simpa using he);rw[z] at this;simp[QM,b_.isInt] at this
  have few:=few aH;obtain⟨p1,p2,p3,p4,p5,p6,p7,p8,p9,km,mF⟩:=GY T (h:=h) (x:=.int i tk) k2 k3
  have fs:t.freeSlot h=some (sl t.mask h K,false):=by
   unfold freeSlot probe;rw[F9,BD T k2 k3 _ 0 (Me _) (by unfold TY;omega)];rfl
  obtain⟨q,mG⟩:∃q,q=t.put (sl t.mask h K):=⟨_,rfl⟩;rw[←mG] at p1 p2 p3 p4 p5 p6 p7 p8 p9 km mF;have cw:(MH es q.2 (h,b_.int i tk)).size=es.size+1:=wn km _
  have fill:q.1.fill=es.size+1:=by
   unfold MW.fill;rw[p1,p9,T.sz];rfl
  have gY:q.1.fits (MH es q.2 (h,b_.int i tk)).size=true:=by
   unfold MW.fits;rw[fill,cw,p5,p9,T.sz];have h1:=T.few.2;have h2:=T.sz;simp;omega
  have ln:layNew t es h (.int i tk)=(MH es q.2 (h,b_.int i tk),q.1,false,false):=by
   unfold layNew;rw[fs];dsimp only;rw[←mG,gY,MW.orStandIn,gY,if_pos rfl];rfl
  rw[←eh,ln];dsimp only;refine a_ (MV (a:=()) rfl ?_);rw[p6,T.pl,if_pos rfl];refine a_ (MV (a:=true) rfl ?_);rw[if_pos rfl];refine a_ (SM ho iO ?_ (by rw[cw];omega));have g1:=Aa (es':=MH es q.2 (h,b_.int i tk)) (t':=q.1) ho iO;have cG:KeptBut a s.heap (s.heap.update a (putSet (MH es q.2 (h,b_.int i tk)) q.1)):=λc u ne e=>(C_ _ _ (LU ne)).trans e
  have dH:∀e,e∈MH es q.2 (h,b_.int i tk)↔e=(OZ i,.int i tk)\/e∈es:=λe=>by rw[←eh];exact BU km _ e
  obtain⟨h1,oO⟩:∃h1,h1=s.heap.update a (putSet (MH es q.2 (h,b_.int i tk)) q.1):=⟨_,rfl⟩;rw[←oO] at g1 cG ⊢;by_cases full:q.1.tooFull=true
  ·have m7:(t.mask=7/\es.size+1=5)\/(t.mask=31/\es.size+1=19)\/(t.mask=127/\es.size+1=77):=by
    unfold tooFull at full;rw[fill,p5] at full;simp only[ge_iff_le,decide_eq_true_eq] at full;have:=T.sz
    rcases T.few.2 with m | m | m | m
    ·rw[m] at full;omega
    ·rw[m.1] at full;omega
    ·rw[m.1] at full;omega
    ·rw[m.1] at full;omega
   obtain⟨nm,Rn,sa,fw⟩:∃nm,Round nm/\sizeAbove (grown (es.size+1))=nm+1/\((nm=31/\es.size+1<=18)\/(nm=127/\es.size+1<=76)\/(nm=511/\es.size+1<=300)):=by
    rcases m7 with z | z | z
    ·exact⟨31,round31,by rw[z.2];decide,.inl ⟨rfl,by omega⟩⟩
    ·exact⟨127,round127,by rw[z.2];decide,.inr (.inl ⟨rfl,by omega⟩)⟩
    ·exact⟨511,round511,by rw[z.2];decide,.inr (.inr ⟨rfl,by omega⟩)⟩
   rw[if_pos (by simp[full])];obtain⟨t2,bR,l1,l2,l3,l4,l5,l6,l7⟩:=EI (es:=MH es q.2 (h,b_.int i tk)) Rn (by rw[cw];exact fw) q.1.finger (q.1.movedTo nm) q.1.led
   have aN:relayAll q.1 (MH es q.2 (h,b_.int i tk)) (grown (MH es q.2 (h,b_.int i tk)).size)=(bR.filterMap ((MH es q.2 (h,b_.int i tk))[·]?),t2,false):=by
    unfold relayAll
    have:q.1.relaid ((MH es q.2 (h,b_.int i tk)).map (·.1)) (grown (MH es q.2 (h,b_.int i tk)).size)=some (t2,bR):=by
     unfold relaid;rw[cw,sa,p6,T.pl];exact l1
    rw[this];dsimp only;have cv:coversAll bR (MH es q.2 (h,b_.int i tk)).size=true:=List.isPerm_iff.mpr l7;rw[cv,l3.fits];rfl
   rw[aN];dsimp only;refine a_ (MV (a:=()) rfl ?_);refine a_ (SM (s:={ s with heap:=h1 }) g1 rfl ?_ (by rw[l2,cw];omega));exact e_ (e_ (new aH _ _ ⟨_,_,t2,Aa g1 rfl,hc,rfl,l3,by rw[l5,p7,tl]⟩ (λe=>(l6 e).trans (dH e)) (by rw[l2,cw]) λc u ne e=>(C_ _ _ (LU ne)).trans (cG c u ne e)))
  ·rw[if_neg (by simp[full])];refine e_ (e_ (new aH h1 _ ⟨_,_,q.1,g1,hc,rfl,⟨p1,p2,p3,p4,?_,by rw[p6];exact T.pl,mF⟩,by rw[p7,tl]⟩ dH cw cG));unfold tooFull at full;rw[fill,p5] at full;simp only[ge_iff_le,decide_eq_true_eq] at full;have:=T.sz;rw[p9,p5];refine⟨by omega,?_⟩
   rcases T.few.2 with m | m | m | m
   ·exact .inl m
   ·refine .inr (.inl ⟨m.1,?_⟩);rw[m.1] at full;omega
   ·refine .inr (.inr (.inl ⟨m.1,?_⟩));rw[m.1] at full;omega
   ·refine .inr (.inr (.inr ⟨m.1,?_⟩));rw[m.1] at full;omega
end
end DL
namespace DL
open PySem PySem.W PySem.Spec PyProof.Rows L2
section
variable{prog:B_}{w:J_}{E:b_->d_->Prop}{s:d_}
theorem CQ(h:M9 vs ns):TS.AllI (RO vs):=TS.AllI.of λx hx=>by
 rw[pairsOf_toList] at hx;obtain⟨e,m⟩:=mem_zip_self hx;obtain⟨n,t,e'⟩:=h.intKeys x (by rw[pairsOf_toList];exact hx);exact⟨n,t,e'⟩
theorem JH{xs:Array o_}(h:TS.SL xs.toList):SortedTo xs xs.size:=by
 intro i j ij hj;have hi:i < xs.size:=by omega
 rw[TS.tM (getElem?_pos xs i hi),TS.tM (getElem?_pos xs j hj)]
 rcases N4 i j with z | z
 ·have:=NF.mp h i j (by simpa using hi) (by simpa using hj) z;simpa using this
 ·have:i=j:=by omega
  subst this;exact L9 _
theorem FN{a:i_}{e:Nat}{P:PySem.Fin->d_->Prop}(ho:s.heap.get? a=some (Ml "list" vs.toArray e))(hz:vs.length<=v_)(hI:M9 vs ns)(fin:∀us ms h' c,M9 us ms->ms.Perm ns->ms.Pairwise (·<=·)->KeptBut a s.heap h'->h'.get? a=some (Ml "list" us.toArray c)->P (.done (.ret .none)) { s with heap:=h' }):
  z_ (m_ prog w) A (Nk.«list.sort» ⟨[.ref a],[]⟩) P E s:=by
 obtain⟨g1,cn⟩:∃g1,g1=s.heap.update a (M_ λ_=>(#[]:Array b_)):=⟨_,rfl⟩;obtain⟨e1,o1⟩:∃e1,g1.get? a=some (Ml "list" #[] e1):=⟨_,by rw[cn];exact Ny ho _⟩;have k1:KeptBut a s.heap g1:=λb o ne x=>by rw[cn];exact(C_ _ _ (LU ne)).trans x
 obtain⟨g2,cq⟩:∃g2,g2=(g1.push (Ml "tuple" vs.toArray 0)).push (Ml "list" #[] 0):=⟨_,rfl⟩;have o2:g2.get? a=some (Ml "list" #[] e1):=by rw[cq];exact c_ _ (c_ _ o1)
 have k2:KeptBut a s.heap g2:=λb o ne x=>by rw[cq];exact c_ _ (c_ _ (k1 b o ne x))
 have eu:∀fe,(2<=vs.length->fe=M1)->z_ (m_ prog w) A ((if vs.toArray.size < 2 then pure () else SR).run (mk' fe (vs.toArray.zip vs.toArray) #[] 7 none))
   (λr s'=>s'={ s with heap:=g2 }/\∃us ms,M9 us ms/\ms.Perm ns/\ms.Pairwise (·<=·)/\(r_ r.2).map (·.2)=us.toArray/\us.length=vs.length/\O4 r.2=none) E { s with heap:=g2 }:=λfe j6=>by
  rcases N4 vs.length 2 with cr | big
  ·rw[if_pos (by rw[l_];exact cr)];refine e_ ⟨rfl,vs,ns,hI,PX _,?_,?_,rfl,rfl⟩
   ·have:=hI.length
    match ns with
    | []=>exact Nn.nil
    | [x]=>exact OD _ _
    | x::y::r=>simp at this;omega
   ·show((vs.toArray.zip vs.toArray).map (·.2))=_;refine SS (by simp) λi h1 h2=>by simp
  ·rw[if_neg (by rw[l_];omega),j6 big];have two:2<=(RO vs).size:=by rw[pairsOf_size];exact big
   refine Mz (TS.Iz (s:={ s with heap:=g2 }) (a₀:=RO vs) (Q:=λ_ ag=>TS.SB (RO vs) ag/\TS.SL (r_ ag).toList) (CQ hI) (st:=mk' M1 (RO vs) #[] 7 none) ⟨PX _,rfl,rfl⟩ rfl two λag b sl=>⟨b,sl⟩) (λr s' h=>?_) λ_ _ x=>x
   obtain⟨rfl,b,sl⟩:=h;have pm:(r_ r.2).Perm (RO vs):=Ms.mpr b.perm;have sz:(r_ r.2).size=(RO vs).size:=pm.size_eq;obtain⟨ms,m1,m2,m3⟩:=sorted_out hI pm (by rw[←sz];exact JH sl);exact⟨rfl,_,ms,m1,m2,m3,by first | exact O8.symm | exact(O8 _).symm,by rw[LS,Array.size_map,sz,pairsOf_size],b.failed⟩
 rw[list_sort_plain];refine a_ (Q0 ho rfl (a_ (NK ho rfl ?_ (by rw[l_];exact hz) (Me _))));rw[←cn];refine a_ (O5 o1 rfl (a_ (ON (a_ (Os (LX ?_) (Me _))) (by show vs.length<=_;exact hz))));show z_ (m_ prog w) A _ P E { s with heap:=(g1.push (Ml "tuple" vs.toArray 0)).push (Ml "list" #[] 0) };rw[←cq];dsimp only
 have kk:2<=vs.length->Tp vs.toArray=pure M1:=λbig=>by
  match vs,hI,big with
  | v₁::v₂::aB,hI,_=>exact keyKind_ints hI
 rcases N4 vs.length 2 with cr | big
 all_goals
  first
   | (rw[if_pos (by rw[l_];exact cr)];refine a_ (e_ ?_);have step:=eu general' λh=>by omega)
   | (rw[if_neg (by rw[l_];omega),kk big];refine a_ (e_ ?_);have step:=eu M1 λ_=>rfl)
  refine a_ (Mz step (λr s' h=>?_) λ_ _ x=>x);obtain⟨rfl,us,ms,m1,m2,m3,aR,ln,aH⟩:=h;rw[aR,aH];refine a_ (O5 o2 rfl (a_ (NK o2 rfl ?_ (Me _) ?_)))
  ·dsimp only;rw[bne_self_eq_false,if_neg y_];exact e_ (fin us ms _ _ m1 m2 m3 (λb o ne x=>(C_ _ _ (LU ne)).trans (k2 b o ne x)) (Ny o2 λ_=>us.toArray))
  ·rw[l_,ln];exact Nat.le_succ_of_le hz
theorem Cw{l:i_}{P:List b_->List Int->Prop}{Q:b_->d_->Prop}(hP:∀vs ns,P vs ns->vs.length<=v_/\M9 vs ns)(col:∀Q':List b_->d_->Prop,(∀vs ns h' tk,P vs ns->(∀b o,s.heap.get? b=some o->h'.get? b=some o)->s.heap.objs.size<=h'.objs.size->Q' vs { s with heap:=h',toks:=tk })->z_ (m_ prog w) A.in1 (S8 (.ref l)) Q' E s)(fin:∀vs ns,P vs ns->∀us ms h' tk D c,M9 us ms->ms.Perm ns->ms.Pairwise (·<=·)->(∀b o,s.heap.get? b=some o->h'.get? b=some o)->s.heap.objs.size<=D->h'.get? D=some (Ml "list" us.toArray c)->Q (.ref D) { s with heap:=h',toks:=tk }):
  z_ (m_ prog w) A (call (.builtin "sorted") [b_.ref l]) Q E s:=by
 refine P4 SZ Sz SA (args_sorted1 _) ?_;refine a_ (m:=Tq "sorted" 1 1 _) (e_ (a_ (col _ λvs ns g tk p kg above=>a_ (Os ?_ (by have:=(hP vs ns p).1;omega)))));obtain⟨hz,hI⟩:=hP vs ns p;have aF:(g.push (Ml "list" vs.toArray 0)).get? g.objs.size=some (Ml "list" vs.toArray 0):=s_ _ rfl
 have old:∀(h':L4),KeptBut g.objs.size (g.push (Ml "list" vs.toArray 0)) h'->∀b o,s.heap.get? b=some o->h'.get? b=some o:=λh' k b o x =>
  k b o (LW (H_ (F_ x) above)) (c_ _ (kg b o x))
 refine a_ (LX (Mn Pw ⟨_,aF,rfl⟩ Pk ?_ (args_list_sort _)));refine FN (s:={ s with heap:=g.push (Ml "list" vs.toArray 0),toks:=tk }) aF hz hI λus ms h' c m1 m2 m3 k aG=>?_
 exact⟨_,rfl,e_ ⟨_,rfl,fin vs ns p us ms h' tk _ c m1 m2 m3 (old h' k) above aG⟩⟩
end
end DL
namespace DL
open PySem PySem.W PySem.Spec PyProof.Rows L2 PySem.SetTable
noncomputable def insI(x:Int):List Int->List Int
 | []=>[x]
 | y::l=>if x < y then x::y::l else if x=y then y::l else y::insI x l
noncomputable def setI(ns:List Int):List Int:=ns.foldr insI []
theorem xb{x y:Int}:∀{l:List Int},y∈insI x l↔y=x\/y∈l
 | []=>by simp[insI]
 | z::l=>by
  rw[insI];split
  ·simp
  ·split
   ·rename_i e;subst e;simp
   ·rw[n_,xb (l:=l),n_];exact⟨λh=>h.elim (λz=>.inr (.inl z)) λh=>h.elim .inl λz=>.inr (.inr z),λh=>h.elim (λz=>.inr (.inl z)) λh=>h.elim .inl λz=>.inr (.inr z)⟩
theorem Ax{x:Int}:∀{l:List Int},l.Pairwise (· < ·)->(insI x l).Pairwise (· < ·)
 | [],_=>OD _ _
 | z::l,h=>by
  obtain⟨h1,h2⟩:=I_.mp h;rw[insI];split
  ·rename_i lt;refine I_.mpr ⟨λy hy=>?_,h⟩
   rcases n_.mp hy with e | m
   ·rw[e];exact lt
   ·exact Int.lt_trans lt (h1 y m)
  ·split
   ·exact h
   ·refine I_.mpr ⟨λy hy=>?_,Ax h2⟩
    rcases xb.mp hy with e | m
    ·omega
    ·exact h1 y m
theorem sC{x:Int}:∀{ns:List Int},x∈setI ns↔x∈ns
 | []=>by simp[setI]
 | n::ns=>by
  show x∈insI n (setI ns)↔_;rw[xb,sC (ns:=ns),n_]
theorem uq:∀(ns:List Int),(setI ns).Pairwise (· < ·)
 | []=>Nn.nil
 | n::ns=>Ax (uq ns)
theorem uu:∀{l m:List Int},l.Pairwise (· < ·)->m.Pairwise (· < ·)->(∀x,x∈l↔x∈m)->l=m
 | [],[],_,_,_=>rfl
 | [],y::m,_,_,h=>absurd ((h y).mpr g_) (by simp)
 | x::l,[],_,_,h=>absurd ((h x).mp g_) (by simp)
 | x::l,y::m,hl,hm,h=>by
  obtain⟨a1,a2⟩:=I_.mp hl;obtain⟨b1,b2⟩:=I_.mp hm
  have e:x=y:=by
   rcases n_.mp ((h x).mp g_) with e | e
   ·exact e
   ·rcases n_.mp ((h y).mpr g_) with e' | e'
    ·exact e'.symm
    ·have:=a1 y e';have:=b1 x e;omega
  subst e;refine congrArg _ (uu a2 b2 λz=>⟨λhz=>?_,λhz=>?_⟩)
  ·rcases n_.mp ((h z).mp (j_ _ hz)) with e | e
   ·have:=a1 z hz;omega
   ·exact e
  ·rcases n_.mp ((h z).mpr (j_ _ hz)) with e | e
   ·have:=b1 z hz;omega
   ·exact e
theorem CV{L:List Int}(p:ms.Perm L)(nd:L.Nodup)(mem:∀n,n∈L↔n∈ns)(up:ms.Pairwise (·<=·)):ms=setI ns:=by
 refine uu ?_ (uq ns) λx=>?_
 ·exact(List.pairwise_and_iff.mpr ⟨up,p.nodup_iff.mpr nd⟩).imp λ⟨h1,h2⟩=>by omega
 ·rw[p.mem_iff,mem,sC]
noncomputable def keyI(e:Int×b_):Int:=numOf e.2
structure IEs(es:Array (Int×b_))(ns:List Int):Prop where
 ie:IE es
 nd:(es.toList.map keyI).Nodup
 mem:∀n,n∈es.toList.map keyI↔n∈ns
theorem IE.key{es:Array (Int×b_)}(h:IE es){e:Int×b_}(he:e∈es):∃t,e=(OZ (keyI e),.int (keyI e) t):=by
 obtain⟨j,t,rfl⟩:=h e he;exact⟨t,rfl⟩
theorem AB{α:Type}:∀(l m:List α),l.Nodup->(∀x∈l,x∈m)->l.length<=m.length
 | [],m,_,_=>Me _
 | x::l,m,nd,h=>by
  obtain⟨a,b,rfl⟩:=Sg (h x g_);rw[Ox] at nd
  have:=AB l (a++b) nd.2 λy hy=>by
   rcases Mc.mp (h y (j_ _ hy)) with z | z
   ·exact Ph _ z
   ·rcases n_.mp z with z | z
    ·subst z;exact absurd hy nd.1
    ·exact Mv _ z
  simp at this ⊢;omega
theorem IEs.le{es:Array (Int×b_)}(h:IEs es ns)(sub:∀n∈ns,n∈ms):es.size<=(setI ms).length:=by
 have l:(es.toList.map keyI).length=es.size:=by simp
 rw[←l];exact AB _ _ h.nd λx hx=>sC.mpr (sub x ((h.mem x).mp hx))
section
variable{H:Hp}{s0 s:d_}{prog:B_}{w:J_}{E:b_->d_->Prop}
theorem Em{It:i_}(hS:s0.heap.objs.size<=S)(oP:s0.heap.objs.size<=It){P:Nat->b_->Prop}{St:Nat->L4->Prop}(W:SU prog w A.in1 It fp [It] n P St)(mH:S∉fp)(hn:n=ns.length)(few:(setI ns).length<=299)(hP:∀i v,P i v->∃x t,ns[i]?=some x/\v=.int x t){led:Bool}{R:SO->d_->Prop}:
  ∀(k i:Nat) (s:d_),n - i=k->i<=n->Ext s0 s->St i s.heap->(∃es,SetAt s.heap S led es/\IEs es (ns.take i)) →
   (∀s' es,Ext s0 s'->SetAt s'.heap S led es->IEs es ns->R (.ok (.ret .none)) s') →
   Nw (m_ prog w) A (.builtin "set.update.loop" ⟨[.ref S,.ref It],[]⟩) R s:=by
 have mI:S≠It:=λe=>mH (by rw[e];exact W.sub It g_)
 have nb:∀b,b < s0.heap.objs.size->b∉[It]:=λb hb h=>by
  rw[q_.mp h] at hb;exact absurd oP (Nat.not_le.mpr hb)
 have oQ:∀b,b < s0.heap.objs.size->b≠S:=λb hb h=>by
  rw[h] at hb;exact absurd hS (Nat.not_le.mpr hb)
 intro k
 induction k with
 | zero =>
  intro i s hk hi ex st gZ r;obtain⟨es,s1,s2⟩:=gZ;have:i=n:=by omega
  subst this;refine Mo QF ?_;rw[ML NV _];refine a_ (m:=Nx (.ref It)) (W.done s _ _ st λh' tk keep=>e_ ?_);rw[hn,OE] at s2;exact r _ es (ex.next λb o hb x=>keep b o (nb b hb) x) (s1.kept λo x=>keep S o (by simpa using mI) x) s2
 | succ k ih =>
  intro i s hk hi ex st gZ r;obtain⟨es,s1,s2⟩:=gZ;have lt:i < ns.length:=by omega
  refine Mo QF ?_;rw[ML NV _];refine a_ (m:=Nx (.ref It)) (W.item i s _ _ (by omega) st λv h1 iP pv bF cG=>?_);obtain⟨x,t,e1,rfl⟩:=hP i v pv;have oR:∀tk,Ext s0 { s with heap:=h1,toks:=tk }:=λtk=>ex.next λb o hb x=>cG b o (nb b hb) x
  have mJ:SetAt h1 S led es:=s1.kept λo x=>cG S o (by simpa using mI) x
  refine a_ (m:=OI [.int x t] (setAdd S (.int x t))) (LX ?_);unfold setAdd;refine LX (a_ (wpAny_pyHash_int ?_));have ca:ns.take (i+1)=ns.take i++[x]:=by rw[NG,e1];rfl
  have cont:∀h2 es',KeptBut S h1 h2->SetAt h2 S led es'->IEs es' (ns.take (i+1))->Nw (m_ prog w) A (.builtin "set.update.loop" ⟨[.ref S,.ref It],[]⟩) R { s with heap:=h2,toks:=iP+1 }:=λh2 es' kb sa eo=>by
   refine ih (i+1) _ (by omega) (by omega) ((oR (iP+1)).next (tk:=iP+1) λb o hb x=>kb b o (oQ b hb) x) (W.frame _ _ _ bF λb hb o x=>kb b o (λe=>mH (e▸hb)) x) ⟨es',sa,eo⟩ r
  have mK:(∃e∈es,∃tk,e.2=b_.int x tk)↔x∈es.toList.map keyI:=by
   constructor
   ·rintro⟨e,he,tk,z⟩;exact Nf.mpr ⟨e,by simpa using he,by unfold keyI;rw[z];rfl⟩
   ·intro h;obtain⟨e,he,z⟩:=Nf.mp h;have he:e∈es:=by simpa using he
    obtain⟨t,q⟩:=s2.ie.key he;exact⟨e,he,t,by rw[q,z]⟩
  have pm:∀es',(∀e,e∈es'↔e=(OZ x,b_.int x t)\/e∈es)->es'.size=es.size+1->x∉es.toList.map keyI->IEs es' (ns.take (i+1)):=λes' mem sz no=>by
   have oU:((OZ x,b_.int x t)::es.toList).Nodup:=by
    refine Ox.mpr ⟨λh=>no (Nf.mpr ⟨_,h,rfl⟩),?_⟩;exact of_map keyI (λa b h e=>h (by rw[e])) s2.nd
   have p:((OZ x,b_.int x t)::es.toList).Perm es'.toList:=zS _ _ oU (λe he=>by
    have:e∈es':=(mem e).mpr ((n_.mp he).imp id λh=>by simpa using h)
    simpa using this) (by simp[sz])
   refine⟨λe he=>?_,?_,λm=>?_⟩
   ·rcases(mem e).mp he with z | z
    ·exact⟨x,t,z⟩
    ·exact s2.ie e z
   ·refine(p.map keyI).nodup_iff.mp ?_;rw[K_];exact Ox.mpr ⟨no,s2.nd⟩
   ·rw[←(p.map keyI).mem_iff,K_,n_,s2.mem,ca];simp[keyI,numOf];exact Or.comm
  refine Hv (s:={ s with heap:=h1,toks:=iP+1 }) mJ s2.ie (λno=>?_) (λh=>?_) λno h2 es' sa mem sz kb=>?_
  ·have:=s2.le (ms:=ns) λn hn=>Mh hn
   omega
  ·refine e_ ⟨Mb NV _,cont h1 es (λb o _ x=>x) mJ ⟨s2.ie,s2.nd,λm=>?_⟩⟩;rw[s2.mem,ca,Mc,q_];exact⟨.inl,λz=>z.elim id λe=>by rw[e];exact(s2.mem x).mp (mK.mp h)⟩
  ·have oV:x∉es.toList.map keyI:=λh=>by
    obtain⟨e,he,tk,z⟩:=mK.mpr h;exact no e he tk z
   exact e_ ⟨Mb NV _,cont h2 es' kb sa (pm es' mem sz oV)⟩
end
theorem xy:∀{vs:List b_}{ns:List Int}{i:Nat}{v:b_},M9 vs ns->vs[i]?=some v->∃x t,ns[i]?=some x/\v=.int x t
 | _,_,i,v,.nil,h=>by simp at h
 | _,_,0,v,.cons _ _ r,h=>by cases h;exact⟨_,_,rfl,rfl⟩
 | _,_,i+1,v,.cons _ _ r,h=>by
  rw[NS] at h;obtain⟨x,t,h1,h2⟩:=xy r h;exact⟨x,t,by rw[NS];exact h1,h2⟩
section
variable{prog:B_}{w:J_}{E:b_->d_->Prop}{s:d_}
theorem CG(hh:A.handled=none){l:i_}{items:List b_}(hl:s.heap.IsList l items.toArray)(hI:M9 items ns)(few:(setI ns).length<=299){Q:b_->d_->Prop}(q:∀S s' es,Ext s s'->s.heap.objs.size<=S->SetAt s'.heap S (!byTx w) es->IEs es ns->Q (.ref S) s'):z_ (m_ prog w) A (call (.type "set") [.ref l]) Q E s:=by
 obtain⟨c,tl,pN⟩:=OA.mro;have oW:=OA.made;have gK:=OA.sub;refine R' (codeAny_of_tree (e_ ⟨Code.quiet_builtin _ (by decide +kernel),Mo F.entry_type_call ?_⟩));rw[Ni.under_plain (weight_type_call_type "set" [.ref l] []) rfl];have h1:=OA.notType;have h2:=OA.canCreate;have qj:=PySem.F.typeCall_set_1 (.ref l)
 repeat any_goals first | assumption | wp_step
 refine Oc (Gy (w:=w) (.ref l) (E:=E) (Q:=λobj aw=>obj=.ref s.heap.objs.size/\aw={ s with heap:=s.heap.push (fresh0 w) }) ⟨rfl,rfl⟩) λr aw hr=>?_
 rcases r with e | fl
 ·exact hr
 cases fl with
 | ret obj =>
  obtain⟨rfl,rfl⟩:=hr;have hS:(s.heap.push (fresh0 w)).get? s.heap.objs.size=some (fresh0 w):=s_ _ rfl;have hT:d_.TypeIs { s with heap:=s.heap.push (fresh0 w) } (.ref s.heap.objs.size) "set":=⟨_,hS,rfl⟩;have lS:=OA.init.lookup;have mL:=OA.init.bind (.ref s.heap.objs.size)
  repeat any_goals first | assumption | wp_step
  refine Oc (RF (R:=wants (λr cY=>r=.none/\∃es,Ext s cY/\SetAt cY.heap s.heap.objs.size (!byTx w) es/\IEs es ns) E) OA.init.plain F.entry_set_init (check_set_init_1 hT ?_)) λmM cY fj=>?_
  ·obtain⟨ol,mN,cF,nl,mO⟩:=hl;have mP:l < s.heap.objs.size:=F_ mN;obtain⟨pO,ko,oX,iQ⟩:=ol;simp only at cF mO;subst cF;subst mO;have jw:(s.heap.push (fresh0 w)).get? l=some { cls:=.type "list", dict:=ko,data:=.seq items.toArray nl,slots:=iQ }:=c_ _ mN;have pP:=PySem.F.sub_list_set;have pQ:=PySem.F.sub_list_frozenset;have gI:(type "list" == type "dict")=false:=(by decide);have dR:(s.heap.push (fresh0 w)).IsList l items.toArray:=⟨_,jw,rfl,nl,rfl⟩;obtain⟨h1,e1⟩:∃h1,h1=s.heap.push (fresh0 w):=⟨_,rfl⟩;have fg:h1.objs.size=s.heap.objs.size+1:=by rw[e1,M8]
   have cN:∀b o,s.heap.get? b=some o->h1.get? b=some o:=λb o x=>by rw[e1];exact c_ _ x
   rw[←e1] at hS jw dR;show z_ _ _ _ _ _ { s with heap:=s.heap.push (fresh0 w) };rw[←e1];have oY:h1.get? s.heap.objs.size=some { cls:=.type "set", dict:=none,data:=.set #[] 0 (.fresh 0 0 (!byTx w)) }:=hS;unfold Nk.«set.__init__» noKeywords updateFrom;generalize hPI:R9=PI
   wp_walk
   subst hPI;refine N8 (s:={ s with heap:=h1 }) dR (a_ (wpAny_runValue ?_));have iI:l≠h1.objs.size:=by rw[fg];exact LW (N5 mP)
   refine Em (s0:=s) (led:=!byTx w) (A_ _) (by rw[fg];exact RM _) (SU.list (by exact hh) h1.objs.size l iI items.toArray) ?_ (by rw[l_,hI.length]) few (λi v hi=>?_) _ 0 _ rfl (Me _) ?_ ?_ ?_ λs' es ex sa eo=>?_
   ·rw[fg];intro hm
    rcases n_.mp hm with z | z
    ·exact absurd z (LW (OX _))
    ·exact absurd (q_.mp z) (Om mP)
   ·have b9:items[i]?=some v:=by simpa using hi
    exact xy hI b9
   ·exact⟨_,s.toks,rfl,λb o x=>c_ _ (cN b o x)⟩
   ·exact⟨⟨_,s_ _ rfl,rfl,rfl⟩,dR.push _⟩
   ·refine⟨#[],⟨_,0,_,c_ _ oY,rfl,rfl,Fb w,rfl⟩,λe he=>?_,List.nodup_nil,λn=>by simp⟩;simp at he
   ·exact e_ (e_ ⟨rfl,es,ex,sa,eo⟩)
  ·rcases mM with e | kq
   ·exact fj
   ·cases kq with
    | ret r =>
     obtain⟨rfl,es,e1,e2,e3⟩:=fj
     repeat any_goals first | assumption | wp_step
     exact q _ _ es e1 (A_ _) e2 e3
    | _=>exact fj.elim
 | _=>exact hr.elim
theorem yu:∀(L:List (Int×b_)),(∀e∈L,∃j t,e=(OZ j,b_.int j t))->M9 (L.map (·.2)) (L.map keyI)
 | [],_=>.nil
 | e::L,h=>by
  obtain⟨j,t,rfl⟩:=h e g_;exact .cons _ _ (yu L λe he=>h e (j_ _ he))
theorem yA:∀{us:List b_}{ms:List Int},M9 us ms->Vals (ms.map V.int) us
 | _,_,.nil=>.nil
 | _,_,.cons n t r=>.cons ⟨t,rfl⟩ (yA r)
end
section
variable{B:BB}{kr:Nat}{H:Hp}{s:d_}
theorem J2(hh:X.A.handled=none)(I:Inv X aa U H s){p:i_}(hq:SqL X.K H p (ns.map V.int))(few:(setI ns).length<=299){Q:VK}(k:∀l,H l=none->Q (.ref l) (upd H l (.lst ((setI ns).map V.int)))):
  z_ (m_ X.prog X.w) X.A (call (.type "set") [.ref p]) (λv s'=>z_ (m_ X.prog X.w) X.A (call (.builtin "sorted") [v]) (EP X aa U Q) X.xe s') X.xe s:=by
 have line:600<=v_:=by rw[Mq];decide
 obtain⟨af,rv,t,hz⟩:=I.list hq;refine CG hh t.isList (vD rv) few λS s' es ex le sa eo=>?_
 have I':=ex.inv I;obtain⟨o,ep,tb,ho,hc,hd,T,led⟩:=sa;have sz:es.size<=299:=MY (eo.le (ms:=ns) λn h=>h) few;have wp:=AQ X.w S ep es;refine Cw (P:=λvs ms=>vs=(walkOf X.w S ep es).toList.map (·.2)/\ms=(walkOf X.w S ep es).toList.map keyI) (λvs ms h=>?_) (λQ' q=>HR (A:=X.A.in1) (by exact hh) T led ⟨o,ho,hc,hd⟩ λh' tk k1 k2=>q _ _ h' tk ⟨rfl,rfl⟩ k1 k2) λvs ms h us ks h' tk D c m1 m2 m3 keep above aG=>?_
 ·obtain⟨rfl,rfl⟩:=h;refine⟨?_,yu _ λe he=>eo.ie e (by simpa using wp.mem_iff.mp he)⟩;rw[x_,LS,vA];omega
 ·obtain⟨rfl,rfl⟩:=h;have pk:=wp.map keyI;have e:=CV (ns:=ns) m2 (pk.nodup_iff.mpr eo.nd) (λn=>by rw[pk.mem_iff];exact eo.mem n) m3;subst e;refine⟨.ref D,_,I'.laid (t':=tk) keep above (o:=.lst ((setI ns).map V.int)) ⟨?_,us,c,yA m1,aG⟩,rfl,k D (I'.hok.fresh above)⟩;show((setI ns).map V.int).length<=v_;rw[x_];omega
def rSI(X:Cx)(xs:List V)(H:Hp)(Q:VK):Prop:=∃(p:i_) (ns:List Int),xs=[.ref p]/\SqL X.K H p (ns.map V.int)/\(setI ns).length<=299/\∀l,H l=none->Q (.ref l) (upd H l (.lst ((setI ns).map V.int)))
theorem Jl{p:Pos}{t:TA}(hr:Room kr X.A)(hg:Gl X "sorted")(hm:X.mg "sorted"=none)(kt:Gl X "set")(fU:X.mg "set"=none)(ha:PA X [e] t)(he:f_ [e] X.env=(false,Mm e X.env)::f_ [] X.env:=by rfl)(fP:f_ [.Call (.Name "set" p') [e] [] aA] X.env=(false,Mm (.Call (.Name "set" p') [e] [] aA) X.env)::f_ [] X.env:=by rfl)(aC:∀pos,(Mp pos (f_ [] X.env)).any (·.1)=false:=by intros;rfl):
  PE X (.Call (.Name "sorted" p) [.Call (.Name "set" p') [e] [] aA] [] pos) (tCB (rSI X) t):=by
 intro aa s U H Q I h;refine M6 (rC I hg hm S0 (OU ?_ fP (aC _)) (by decide) (by decide));rw[fP];refine Nt (M6 (rC I kt fU boot_set (LZ ?_ he (aC _)) (by decide) (by decide)));refine thn (ha aA aa s U H _ I h) λus s1 ⟨vs,H1,I1,r1,p,ns,e1,q1,q2,q3⟩=>?_
 subst e1;obtain⟨u,rfl,ru⟩:=vals1 r1;cases ru;exact thn (J2 hr.hd I1 q1 q2 q3) λv s2 q=>NA q
noncomputable def setIF(ds:List D):Option (List D):=match ds with
 | [.lst xs]=>match intsD xs with
  | some ns=>if(setI ns).length<=299 then some ((setI ns).map .int) else none
  | none=>none
 | _=>none
theorem ym{K:PySem.W.Frag}{I:Hp}:∀(ns:List Int),IsA K I (ns.map D.int) (ns.map V.int)
 | []=>IsA.nil
 | n::ns=>IsA.cons (Is.int n) (ym ns)
theorem E7{p:Pos}{t:M (List D)}(hr:Room kr X.A)(hg:Gl X "sorted")(hm:X.mg "sorted"=none)(kt:Gl X "set")(fU:X.mg "set"=none)(ha:AD X B [e] t)(he:f_ [e] X.env=(false,Mm e X.env)::f_ [] X.env:=by rfl)(fP:f_ [.Call (.Name "set" p') [e] [] aA] X.env=(false,Mm (.Call (.Name "set" p') [e] [] aA) X.env)::f_ [] X.env:=by rfl)(aC:∀pos,(Mp pos (f_ [] X.env)).any (·.1)=false:=by intros;rfl):
  EO X B (.Call (.Name "sorted" p) [.Call (.Name "set" p') [e] [] aA] [] pos) (fn1 setIF t):=PE.imp (Jl hr hg hm kt fU ha he fP aC) (xh λds d e B G I H U Z xs Q r h k=>by
 unfold setIF at e;split at e
 ·rename_i ys;cases en:intsD ys with
  | none=>rw[en] at e;cases e
  | some ns =>
   rw[en] at e;obtain⟨ok,rfl⟩:=qQ e;rw[uL en] at h;obtain⟨x,rfl,hx⟩:=h.one;obtain⟨q,zs,rfl,h3,h4⟩:=qJ hx;rw[u8 h4] at h3;exact⟨q,ns,rfl,(Same.rdK r.iH h3).sq,ok,λl hl=>k.new r hl (ym _)⟩
 ·cases e)
end
end DL
namespace DL
open PySem PySem.W PySem.Spec PyProof.Rows L2
section
variable{B:BB}{a b c c':L8}{es:List L8}{p:Pos}{kr:Nat}{ga gb gc gd:M D}{t:M (List D)}
theorem Hn(hc:X.calm=true):CallR X (.builtin "sum") (λxs H Q=>∃(p:i_) (ns:List Int),xs=[.ref p]/\SqL X.K H p (ns.map V.int)/\Q (.int ns.sum) H):=by
 intro aa s U H xs us Q I r h;obtain⟨p,ns,rfl,hq,q⟩:=h;obtain⟨u,rfl,ru⟩:=vals1 r;cases ru;obtain⟨af,rv,t,hz⟩:=I.list hq;have hi:=vD rv;obtain⟨xs,ex⟩:=hi.allInts.items;have hl:=t.isList;rw[ex] at hl;refine sum_intListG (I.ok.hd hc) hl λh' tk t' hk=>?_
 have e2:preSum (numAt xs) xs.size=ns.sum:=by
  rw[preSum_eq,L6 (by simp),←nums_intItems,←ex,show af.toArray.toList=af from rfl,hi.numsOf]
 rw[e2];exact⟨.int ns.sum,H,I.kept hk,⟨t',rfl⟩,q⟩
noncomputable def sumF(ds:List D):Option D:=match ds with
 | [.lst xs]=>match intsD xs with
  | some ns=>some (.int ns.sum)
  | none=>none
 | _=>none
theorem tZ(ns:List Int):sumF [.lst (ns.map D.int)]=some (.int ns.sum):=by
 unfold sumF;simp only[u9]
theorem tQ(hc:X.calm=true)(hg:Gl X "sum")(hm:X.mg "sum"=none)(ha:AD X B [e] t)(he:f_ [e] X.env=(false,Mm e X.env)::f_ [] X.env:=by rfl)(aC:(Mp pos (f_ [] X.env)).any (·.1)=false:=by rfl):
  ED X B (.Call (.Name "sum" p) [e] [] pos) (fn1 sumF t):=sv (Hn hc) (λds d e B G I H U Z xs Q r h k=>by
 unfold sumF at e;split at e
 ·rename_i ys;cases en:intsD ys with
  | none=>rw[en] at e;cases e
  | some ns =>
   rw[en] at e;cases e;rw[uL en] at h;obtain⟨x,rfl,hx⟩:=h.one;obtain⟨q,zs,rfl,h3,h4⟩:=qJ hx;rw[u8 h4] at h3;exact⟨q,ns,rfl,(Same.rdK r.iH h3).sq,k.now r (Is.int _)⟩
 ·cases e) hg hm boot_sum ha (by decide) (by decide) he aC
noncomputable def rngW(i:Int)(n:Nat):List V:=(Nq n).map λ(k:Nat)=>V.int (i+(k:Int))
theorem Ev{p:Pos}(hc:X.calm=true)(hl:Gl X "list")(fm:X.mg "list"=none)(hg:Gl X "range")(hm:X.mg "range"=none)(ha:PA X [a,b] ta)(hs:f_ [a,b] X.env=[(false,Mm a X.env),(false,Mm b X.env)]:=by rfl)(bO:f_ [b] X.env=[(false,Mm b X.env)]:=by rfl)(dU:f_ [.Call (.Name "range" p2) [a,b] [] br] X.env=[(false,Mm (.Call (.Name "range" p2) [a,b] [] br) X.env)]:=by rfl):
  PE X (.Call (.Name "list" p) [.Call (.Name "range" p2) [a,b] [] br] [] pos) (λU H Q=>ta U H λvs H1=>∃i j:Int,vs=[.int i,.int j]/\((-1000000<=i/\i<=1000000)/\-1000000<=j/\j<=1000000)/\∀l,H1 l=none->Q (.ref l) (upd H1 l (.lst (rngW i (j - i).toNat)))):=by
 intro aa s U H Q I h;refine Tb (rC I hl fm boot_list (LZ ?_ dU rfl));rw[dU];refine Nt (Tb (rC I hg hm Tc (LZ (thn (ha br aa s U H _ I h) λus s1 ⟨vs,H1,I1,r1,q1⟩=>?_) (by rw[hs,bO]) (by rw[bO];rfl))));obtain⟨i,j,rfl,q1,q⟩:=q1;obtain⟨u1,u2,rfl,⟨t1,rfl⟩,⟨t2,rfl⟩⟩:=r1.two;refine call_range_2 (NA ?_);have size:rangeSize i j 1=(j - i).toNat:=by rw[rangeSize_one];split<;>omega
 refine call_list_range (I1.ok.hd hc) (IsRange.new ..) (small_one (by omega) (by omega) (by omega) (by omega)) size (by omega) λg tk am c' keep aF items=>?_
 refine⟨.ref _,_,I1.laid (t':=tk) (λb o e=>keep b o (c_ _ e)) ?_ (o:=.lst (rngW i (j - i).toNat)) ⟨?_,am.toList,c',?_,aF⟩,rfl,q _ ?_⟩
 ·exact OH (by show _ < (L4.push _ _).objs.size;rw[M8];exact OX _)
 ·show(rngW i (j - i).toNat).length<=v_;rw[rngW,x_,Pv,Mq];omega
 ·refine uB (by rw[rngW,x_,Pv,LS,items.1]) λn x u e f=>?_
  rw[Mi] at f;obtain⟨t',rfl⟩:=items.2 n u f;obtain⟨k,e1,rfl⟩:=getMap e;obtain⟨k1,k2⟩:=D_.mp e1;rw[Qi] at k2;subst k2;exact⟨t',by simp⟩
 ·refine I1.hok.fresh (OH ?_);show _ < (L4.push _ _).objs.size;rw[M8];exact OX _
theorem Hw{K:PySem.W.Frag}(i:Int)(n:Nat):IsA K I (rngD i n) (rngW i n):=by
 unfold rngD rngW
 induction Nq n with
 | nil=>exact IsA.nil
 | cons k ks ih=>exact IsA.cons (Is.int _) ih
theorem Hx{p:Pos}(hc:X.calm=true)(hl:Gl X "list")(fm:X.mg "list"=none)(hg:Gl X "range")(hm:X.mg "range"=none)(ha:AD X B [a,b] t)(hs:f_ [a,b] X.env=[(false,Mm a X.env),(false,Mm b X.env)]:=by rfl)(bO:f_ [b] X.env=[(false,Mm b X.env)]:=by rfl)(dU:f_ [.Call (.Name "range" p2) [a,b] [] br] X.env=[(false,Mm (.Call (.Name "range" p2) [a,b] [] br) X.env)]:=by rfl):
  EO X B (.Call (.Name "list" p) [.Call (.Name "range" p2) [a,b] [] br] [] pos) (fn1 rngI2 t):=PE.imp (Ev hc hl fm hg hm ha hs bO dU) λU H Q q=>by
 obtain⟨G,I,Z,ds,ah,r,e1,k⟩:=q;obtain⟨d,ae,e2,e3⟩:=pS e1;obtain⟨e4,rfl⟩:=qI e3;obtain⟨i,j,rfl,h1,rfl⟩:=zL e4;refine⟨G,I,Z,_,_,r,e2,λvs H1 I1 r1 g1 hd=>?_⟩;obtain⟨x,y,rfl,hx,hy⟩:=hd.two;exact⟨i,j,by rw[qD hx,qD hy],h1,λl hl=>(k.after g1).new r1 hl (Hw _ _)⟩
end
noncomputable def mx(m y:Int):Int:=if m < y then y else m
noncomputable def maxI(d:Int):List Int->Int
 | []=>d
 | x::xs=>xs.foldl mx x
theorem yH(d:Int)(ne:ns≠[])(y:Int):maxI d (ns++[y])=mx (maxI d ns) y:=by
 match ns,ne with
 | x::xs,_=>simp[maxI,PB]
section
variable{prog:B_}{w:J_}{E:b_->d_->Prop}{s:d_}
theorem wg{id:String}{b:Nk}{args:List b_}{Q:b_->d_->Prop}(hk:builtinKind id=none)(hp:plainId id=true)(hb:Tv table id=some b)(ha:Se id ⟨args,kw⟩)(hc:z_ (m_ prog w) A.in1 (b ⟨args,kw⟩) (λr s'=>match r with
   | .again d=>d.quiet=true/\Nw (m_ prog w) A d (wants Q E) s'
   | .done f=>wants Q E (.ok f) s') E s):z_ (m_ prog w) A (call (.builtin id) args kw) Q E s:=by
 have ck:Qy id ⟨args,kw⟩=pure ():=by
  unfold Se at ha;unfold Qy;rw[hk]
  revert ha
  cases Manifest.signature? id with
  | none=>exact λ_=>rfl
  | some sg=>exact λha=>ha
 refine R' (RF hp hb (MV ck ?_));exact Mz hc (λr s' h=>by cases r<;>exact h) λ_ _ h=>h
theorem Iu(a v:b_):Se "max" ⟨[a],[(NC "default", v)]⟩:=by unfold Se;kernel_rfl
def CellsI(d:Int)(ns:List Int)(j:Nat)(cells:Array b_):Prop:=match j with
 | 0=>cells=#[]
 | j+1=>∃t,cells=#[.int (maxI d (ns.take (j+1))) t,.int (maxI d (ns.take (j+1))) t]
theorem Gg{it:i_}{wr:List i_}{P:Nat->b_->Prop}{St:Nat->L4->Prop}{Fit:d_->Prop}{ak:SO->d_->Prop}{d:Int}{td:Tok}(W:SU prog w A.in1 it fp wr n P St)(cP:S∉fp)(hn:n=ns.length)(hP:∀i v,P i v->∃x t,ns[i]?=some x/\v=.int x t)(stay:∀s h' tk,Fit s->(∀b o,b∉wr->b≠S->s.heap.get? b=some o->h'.get? b=some o)->Fit { s with heap:=h',toks:=tk })(fin:∀t s,Fit s->ak (.ok (.ret (.int (maxI d ns) t))) s):∀(left:Nat) (s:d_) (cells:Array b_) (c j:Nat),j+left=n->St j s.heap->Fit s->CellsI d ns j cells->s.heap.get? S=some { cls:=.type "list", dict:=none,data:=.seq cells c,slots:=#[] } →
   Nw (m_ prog w) A (.builtin "max.loop" ⟨[.ref it,.none,.ref S],[(NC "default", .int d td)]⟩) ak s:=by
 have apart:S∉wr:=λh=>cP (W.sub _ h)
 have bG:∀{g:L4}{f:Obj->Obj}{b:i_}{o:Obj},b≠S->g.get? b=some o->(g.update S f).get? b=some o:=λne e=>(C_ _ _ (LU ne)).trans e
 have aX:(toString "max"++toString ".loop":String) = "max.loop":=by decide
 intro left
 induction left with
 | zero =>
  intro s cells c j len st cV bH slot;refine Mo OY ?_;rw[ML MK _];refine a_ (m:=PJ (.ref S)) (MB slot rfl (a_ (m:=tryCatch (Nx (.ref it)) _) (Nb (W.done s _ _ (len▸st) λg tk kk=>?_))));have all:ns.take j=ns:=L6 (by omega);cases j with
  | zero =>
   cases bH;have e0:ns=[]:=M7.mp (by omega);refine a_ (MZ (e_ ?_));have:=fin td { s with heap:=g,toks:=tk } (stay s g tk cV λx o n1 _ e=>kk x o n1 e);rw[e0] at this;exact this
  | succ m =>
   obtain⟨t,rfl⟩:=bH;rw[all] at slot ⊢;exact a_ (m:=Oi S λ_=>#[]) (Mg (kk S _ apart slot) rfl (a_ (MG (e_ (fin t _ (stay s _ tk cV λx o n1 n2 e=>bG n2 (kk x o n1 e)))))))
 | succ left ih =>
  intro s cells c j len st cV bH slot;refine Mo OY ?_;rw[ML MK _];refine a_ (m:=PJ (.ref S)) (MB slot rfl (a_ (m:=tryCatch (Nx (.ref it)) _) (Nb (W.item j s _ _ (by omega) st λv g tk g9 bF kk=>?_))));obtain⟨x,t,ex,rfl⟩:=hP j v g9;have aQ:=kk S _ apart slot;have cQ:=stay s g tk cV λx o n1 _ e=>kk x o n1 e
  have ca:ns.take (j+1)=ns.take j++[x]:=by rw[NG,ex];rfl
  have next:∀(f:Obj->Obj) (aK:Array b_) (c':Nat),(g.update S f).get? S=some { cls:=.type "list", dict:=none,data:=.seq aK c',slots:=#[] }->CellsI d ns (j+1) aK →
    Nw (m_ prog w) A (.builtin "max.loop" ⟨[.ref it,.none,.ref S],[(NC "default", .int d td)]⟩) ak { s with heap:=g.update S f,toks:=tk }:=λf aK c' aG is =>
   ih _ aK c' (j+1) (by omega) (W.frame _ _ _ bF λb hb o e=>bG (λz=>cP (z▸hb)) e) (stay { s with heap:=g,toks:=tk } _ tk cQ λx o _ n2 e=>bG n2 e) is aG
  cases j with
  | zero =>
   cases bH;refine a_ (m:=Oi S λ_=>#[.int x t,.int x t]) (Mg aQ rfl ?_);rw[aX];refine e_ ⟨Mb MK _,next _ _ _ (L3 _ aQ rfl) ⟨t,?_⟩⟩;rw[ca];rfl
  | succ m =>
   obtain⟨t2,rfl⟩:=bH
   have ne:ns.take (m+1)≠[]:=λz=>by
    rcases Pc.mp z with z | z
    ·exact absurd z (QG _)
    ·rw[z] at ex;simp at ex
   have step:maxI d (ns.take (m+2))=mx (maxI d (ns.take (m+1))) x:=by rw[ca,yH d ne]
   refine a_ (m:=tryCatch (OI [.int x t,.int x t] (Rx .Gt (.int x t) (.int (maxI d (ns.take (m+1))) t2) >>= _)) _) (Nb (LX (a_ (gt_int (a_ (LX (Mx (a_ (MG (e_ ?_))))))))));by_cases hb:maxI d (ns.take (m+1)) < x
   ·rw[if_pos (by simpa using hb)];refine a_ (Mg aQ rfl (a_ (MG ?_)));rw[aX];refine e_ ⟨Mb MK _,next _ _ _ (L3 _ aQ rfl) ⟨t,?_⟩⟩;rw[step,mx,if_pos hb]
   ·rw[if_neg (by simpa using hb)];refine a_ (MG ?_);rw[aX];refine e_ ⟨Mb MK _,ih _ _ c (m+2) (by omega) bF cQ ⟨t2,?_⟩ aQ⟩;rw[step,mx,if_neg hb]
theorem F6{p:i_}{d:Int}{td:Tok}{Q:b_->d_->Prop}(hh:A.handled=none)(L:s.heap.IsList p af.toArray)(hI:M9 af ns)(fin:∀t h' tk,(∀b o,s.heap.get? b=some o->h'.get? b=some o)->Q (.int (maxI d ns) t) { s with heap:=h',toks:=tk }):z_ (m_ prog w) A (call (.builtin "max") [.ref p] [(NC "default", .int d td)]) Q E s:=by
 have low:p < s.heap.objs.size:=by obtain⟨_,e,_⟩:=L;exact F_ e
 refine wg F.kind_max F.plain_max F.entry_max (Iu _ _) ?_;refine a_ (MV (a:=[none,some (.int d td)]) rfl (a_ (e_ (a_ (N8 L (a_ (Ma ?_)))))));have aX:(toString "max"++toString ".loop":String) = "max.loop":=by decide
 rw[aX];have W:=SU.list (prog:=prog) (w:=w) (A:=A.in1) hh s.heap.objs.size p (LW low) af.toArray;have bE:∀o:Obj,(s.heap.push o).objs.size=s.heap.objs.size+1:=λo=>M8 ..
 refine e_ ⟨Mb MK _,Gg (Fit:=λs'=>∃h' tk,s'={ s with heap:=h',toks:=tk }/\∀b o,s.heap.get? b=some o->h'.get? b=some o) (ns:=ns) (d:=d) W ?_ ?_ ?_ ?_ ?_ af.toArray.size _ #[] 0 0 (N3 _) ⟨⟨_,c_ _ (s_ _ rfl),rfl,rfl⟩,(L.push _).push _⟩ ⟨_,_,rfl,λb o e=>c_ _ (c_ _ e)⟩ rfl (s_ _ rfl)⟩
 ·rw[bE];intro z;rw[n_,q_] at z
  rcases z with z | z
  ·exact absurd z (OW _)
  ·exact absurd z (Om (N5 low))
 ·rw[l_,hI.length]
 ·intro i v hv;exact xy hI (by simpa using hv)
 ·rintro _ h' tk ⟨g,ca,rfl,keep⟩ k;refine⟨h',tk,rfl,λb o e=>k b o (λz=>?_) (λz=>?_) (keep b o e)⟩
  ·rw[q_] at z;exact LW (F_ e) z
  ·rw[bE] at z;have:=F_ e;rw[z] at this;exact absurd this (TR.mpr (RM _))
 ·rintro t _ ⟨g,tk,rfl,keep⟩;exact fin t g tk keep
end
section
variable{B:BB}{dx:L8}{p kp:Pos}{ga gb:M D}
noncomputable def rMxD(K:PySem.W.Frag):R2:=λx y H Q=>∃(p:i_) (ns:List Int) (d:Int),x=.ref p/\y=.int d/\SqL K H p (ns.map V.int)/\Q (.int (maxI d ns)) H
theorem ER{ta:TE}(hc:X.calm=true)(hg:Gl X "max")(hm:X.mg "max"=none)(he:PE X e ta)(hd:PE X dx tb)(hs:Mp pos (f_ [e] X.env)=(false,Mm e X.env)::Mp pos (f_ [] X.env):=by rfl)(hp:(Mp pos (f_ [e] X.env)).any (·.1)=false:=by rfl):PE X (.Call (.Name "max" p) [e] [⟨some "default", dx,kp⟩] pos) (tOp (rMxD X.K) ta tb):=by
 intro aa s U H Q I h;refine M6 (rC I hg hm boot_max (callWith_kw ?_ hs hp) (by decide) (by decide));rw[hs];refine Nt (thn (he aa s U H _ I h) λv s1 ⟨x,H1,I1,r1,q1⟩=>NA (kws_cons (thn (hd aa s1 U H1 _ I1 q1) λu s2 ⟨y,H2,I2,r2,q2⟩=>kws_nil ?_)));obtain⟨p,ns,d,rfl,rfl,hq,q⟩:=q2;cases r1;obtain⟨t,rfl⟩:=r2;obtain⟨af,rv,tl,hz⟩:=I2.list hq;exact F6 (I2.ok.hd hc) tl.isList (vD rv) λt h' tk keep=>⟨.int (maxI d ns),H2,I2.kept keep,⟨t,rfl⟩,q⟩
noncomputable def maxdF(c k:D):Option D:=match c,k with
 | .lst xs,.int d=>match intsD xs with
  | some ns=>some (.int (maxI d ns))
  | none=>none
 | _,_=>none
theorem Ej(d:Int)(ns:List Int):maxdF (.lst (ns.map D.int)) (.int d)=some (.int (maxI d ns)):=by
 unfold maxdF;simp only[u9]
theorem Hg(hc:X.calm=true)(hg:Gl X "max")(hm:X.mg "max"=none)(he:ED X B e ga)(hd:ED X B dx gb)(hs:Mp pos (f_ [e] X.env)=(false,Mm e X.env)::Mp pos (f_ [] X.env):=by rfl)(hp:(Mp pos (f_ [e] X.env)).any (·.1)=false:=by rfl):ED X B (.Call (.Name "max" p) [e] [⟨some "default", dx,kp⟩] pos) (op2 maxdF ga gb):=PE.imp (ER hc hg hm he hd hs hp) (t_op λa b d e B G I H U Z x y Q r hx hy k=>by
 unfold maxdF at e;split at e
 ·rename_i ys dv;cases en:intsD ys with
  | none=>rw[en] at e;cases e
  | some ns =>
   rw[en] at e;cases e;rw[uL en] at hx;obtain⟨q,zs,rfl,h3,h4⟩:=qJ hx;rw[u8 h4] at h3;exact⟨q,ns,dv,rfl,qD hy,(Same.rdK r.iH h3).sq,k.now r (Is.int _)⟩
 ·cases e)
end
section
variable{K:PySem.W.Frag}{B:Nat->Option (Option V)}{H:Hp}
theorem Rep.freezeO(r:Rep K B G I H U Z){p:i_}(h:H p=some o)(hi:I p=none)(a:Apart U Z p):Rep K B G (upd I p o) H U Z where
 iH:=λb u q=>by
  by_cases e:b=p
  ·subst e;rw[qH] at q;cases q;exact h
  ·rw[qx e] at q;exact r.iH b u q
 gH:=r.gH
 len:=r.len
 slot:=λi q e=>by
  obtain⟨v,e1,e2⟩:=r.slot i q e;refine⟨v,e1,?_⟩;have up:=rf hi o
  have mt:q.ptr=true->∀ds,Mt K G I H ds v->Mt K G (upd I p o) H ds v:=λm ds h=>by
   obtain⟨p',bb,h1,h2,h3,h4,h5⟩:=h;refine⟨p',bb,h1,h2,?_,h4,h5.mono up⟩;have ne:p'≠p:=λz=>a i q e m (by rw[e1,h1,z])
   rw[qx ne];exact h3
  cases q with
  | val d=>exact Is.mono up e2
  | dic ds =>
   obtain⟨p',bb,h1,h2,h3,h4,h5⟩:=e2;refine⟨p',bb,h1,h2,?_,h4,h5.mono up⟩;have ne:p'≠p:=λz=>a i _ e rfl (by rw[e1,h1,z])
   rw[qx ne];exact h3
  | own ds=>exact mt rfl ds e2
  | bor ds=>exact mt rfl ds e2
  | fro ds=>obtain⟨p,xs,f1,f2,f3,f4⟩:=e2;exact⟨p,xs,f1,up _ _ f2,f3,f4.mono up⟩
 dist:=r.dist
 bor:=r.bor
theorem growFreezeO{G I:Hp}{p:i_}(hi:I p=none)(hg:G p=none):Grow G I (upd I p o):=⟨rf hi _,λb u q=>by
 by_cases e:b=p
 ·subst e;exact .inr hg
 ·rw[qx e] at q;exact .inl q⟩
end
section
variable{B:BB}{k v f':L8}{es:List L8}{p:Pos}{g:M (List (Int×D))}{gx:M D}{kr:Nat}
noncomputable def dlit0:M (List (Int×D)):=ret []
theorem IB:EK X B (.Dict [] [] pos) dlit0:=PE.imp FF λU H Q q p hl=>by
 obtain⟨G,I0,Z,aj,ah,r,e1,kk⟩:=q;cases e1;exact kk _ _ _ _ (r.fresh hl _) (Grow.refl _ _) qH (r.iFree hl) (r.gFree hl) (r.apart hl) IsK.nil
noncomputable def Itd(a:i_)(o:Obj):It:=
 ⟨λi H=>∃xs,H a=some (.frz o (.dK xs))/\i < xs.length,λi H x H'=>H'=H/\∀xs,H a=some (.frz o (.dK xs))->∃k y,xs[i]?=some (k,y)/\x=kV k,λi H=>∃xs,H a=some (.frz o (.dK xs))/\xs.length<=i⟩
theorem BY{P:B_}{w:J_}{H:Hp}{a:i_}{o:Obj}{xs:List (Key×V)}{es:Array DictEntry}(ok:HOk P w H h)(e:H a=some (.frz o (.dK xs)))(hd:o.data=.dict es ep):∃vs,L2.KV xs vs/\h.DictAt (mixKind P w) a vs ep:=by
 obtain⟨ho,_,_,vs,aN,o',es',h9,bK,r1,r2,r3⟩:=(show ObjOk P w H h a (.frz o (.dK xs)) from ok a _ e);rw[ho] at bK;cases bK;rw[hd] at r2;cases r2;exact⟨vs,aN,o,es,ho,r1,hd,r3⟩
theorem JG{P:B_}{w:J_}{K:PySem.W.Frag}(a it:i_)(o:Obj){es:Array DictEntry}(hd:o.data=.dict es ep)(hn:es.size=n)(ne:a≠it):Turn P w K tg (Itd a o) [it] it (λi h=>h.IsKeyIter it a i n ep) where
 mem:=by simp
 obj:=λi h st b hb=>by
  have e:b=it:=by simpa using hb
  subst e;obtain⟨o,e,c,d⟩:=st;exact⟨o,e,λv z=>by rw[d] at z;cases z⟩
 keep:=λi h h' st k=>st.at λo e=>k it (by simp) o e
 item:=by
  intro X hP hw hK hc i aa s U H E I hf st hg;subst hP hw hK;obtain⟨xs,hq,hi⟩:=hg;obtain⟨vs,aN,dd⟩:=BY I.hok hq hd;have lv:vs.length=xs.length:=aN.length.symm
  have ln:vs.length=n:=by
   obtain⟨o',es',bK,_,bj,_,pr,_⟩:=id dd;have ho:=(show ObjOk X.prog X.w H s.heap a (.frz o (.dK xs)) from I.hok a _ hq).1;rw[ho] at bK;cases bK;rw[hd] at bj;cases bj;have:=pr.length;rw[LS] at this;omega
  obtain⟨f0,f1,f2,f3,f4,f5⟩:=hf it (by simp);have W:=dictKeys (prog:=X.prog) (w:=X.w) (A:=X.A) (knd:=mixKind X.prog X.w) (I.ok.hd hc) it a ne vs ep;refine W.item i s _ _ (by omega) ⟨by rw[ln];exact st,dd⟩ λv h' tk hv ag kk=>?_
  obtain⟨k,y,e1,e2⟩:=hv;have I1:Inv X aa U H { s with heap:=h',toks:=tk }:=I.turned (λb o hb e=>kk b o (by simpa using hb) e) f0 f1 f3 f4 f5;obtain⟨oi,e,c,d⟩:=id ag.1;have kx:(xs.map (·.1))[i]?=some k:=by rw[aN.keys,E_,e1];rfl
  refine⟨v,rfl,u4 (s:={ s with heap:=h',toks:=tk }) e c d (by decide) ⟨kV k,H,I1,?_,⟨rfl,λys hy=>?_⟩,by have:=ag.1;rw[ln] at this;exact this,λb hb=>(hf b hb).1⟩⟩
  ·have e2:keyIs k v=true:=e2
   rcases rW e2 with⟨j,t,rfl,e'⟩ | ⟨j,t,rfl,e'⟩
   ·exact⟨t,e'⟩
   ·exact⟨t,e'⟩
  ·rw[hq] at hy;cases hy;obtain⟨q,g1,g2⟩:=getMap kx;exact⟨q.1,q.2,g1,by rw[←g2]⟩
 done:=by
  intro X hP hw hK hc i aa s U H E I hf st hg;subst hP hw hK;obtain⟨xs,hq,hi⟩:=hg;obtain⟨vs,aN,dd⟩:=BY I.hok hq hd;have lv:vs.length=xs.length:=aN.length.symm
  have ln:vs.length=n:=by
   obtain⟨o',es',bK,_,bj,_,pr,_⟩:=id dd;have ho:=(show ObjOk X.prog X.w H s.heap a (.frz o (.dK xs)) from I.hok a _ hq).1;rw[ho] at bK;cases bK;rw[hd] at bj;cases bj;have:=pr.length;rw[LS] at this;omega
  obtain⟨f0,f1,f2,f3,f4,f5⟩:=hf it (by simp);exact wpAny_pyNext_dict_end (I.ok.hd hc) (by rw[ln];exact st) dd (M3 (by omega)) λh' eb=>⟨rfl,I.turned (t':=s.toks) (λb o hb e=>eb b o hb e) f0 f1 f3 f4 f5⟩
 self:=λ_ _ _ _ _ st h=>wpAny_pyIter_keyiter st h
end
abbrev IsZip1(h:L4)(z TI TO:i_)(f0 f1:b_):Prop:=
 h.get? z=some { cls:=.type "zip", dict:=none,data:=.fields #[f0,f1,.bool false,.ref TI,.ref TO],slots:=#[] }
section
variable{prog:B_}{w:J_}{E:b_->d_->Prop}{s:d_}{k:Kd}
theorem EF{a:i_}{o:Obj}{Q:Option Obj->d_->Prop}(ho:s.heap.get? a=some o)(h:Q (some o) s):z_ (m_ prog w) A (loadIfAlive a) Q E s:=λZ p _=>by
 have h':Q (s.heap.get? a) s:=by rw[ho];exact h
 exact h'
theorem EM{z ta:i_}{b:Bool}{R:Bool->d_->Prop}(qw:IsZip1 s.heap z ta aE (Nj T) (.bool b))(al:∃o,s.heap.get? T=some o)(r:∀g:L4,IsZip1 g z ta aE (Nj T) (.bool true)->L4.SameBut z s.heap g->R false { s with heap:=g }):z_ (m_ prog w) A (Qs (.ref z)) R E s:=by
 obtain⟨oT,hT⟩:=al;refine a_ (MU (i:=0) qw rfl (x:=Nj T) rfl (a_ (EF hT ?_)));rw[if_neg (by simp)];refine a_ (MU (i:=1) qw rfl (x:=.bool b) rfl ?_);cases b with
 | true =>
  rw[if_neg (by decide)];exact e_ (r s.heap qw (L4.SameBut.refl _ _))
 | false =>
  rw[if_pos (by decide)];exact a_ (N1 qw (by simp) λg Z1 b1=>e_ (r g Z1 b1))
theorem BF(ok:KdOk k){z ta p q u v:i_}{xs ys:Array b_}{b:Bool}{Q:PySem.Fin->d_->Prop}(D:Tk z ta aE p q u v)(qw:IsZip1 s.heap z ta aE (Nj T) (.bool b))(al:∃o,s.heap.get? T=some o)(Ta:NJ s.heap ta (.ref p) (.ref q))(P:k.it s.heap p u m)(P':k.it s.heap q v n)(qv:k.sq s.heap u xs)(U':k.sq s.heap v ys)(dF:∀x y,xs[m]?=some x->ys[n]?=some y->∀g:L4,NJ g s.heap.objs.size x y->IsZip1 g z ta aE (Nj T) (.bool true)->k.it g p u (m+1)/\k.it g q v (n+1) →
   (∀c o,(c≠z/\c≠p/\c≠q)->s.heap.get? c=some o->g.get? c=some o)->Q (.done (.ret (.ref s.heap.objs.size))) { s with heap:=g })(ee:(xs[m]?=none\/ys[n]?=none)->A.handled=none/\∀(g:L4) (x:i_),(∀c o,(c≠z/\c≠p/\c≠q)->s.heap.get? c=some o->g.get? c=some o)->(∃o,g.get? x=some o/\o.cls=.type "StopIteration")->E (.ref x) { s with heap:=g }):
  z_ (m_ prog w) A (Nk.«zip.__next__» ⟨[.ref z],[]⟩) Q E s:=by
 refine a_ (MV (a:=(b_.ref z,[])) rfl (a_ (MU (i:=2) qw rfl (x:=.bool false) rfl (a_ (MU (i:=3) qw rfl (x:=.ref ta) rfl (a_ (MB Ta rfl ?_)))))));refine a_ (m:=Qs (.ref z)) (EM qw al λg1 Z1 b1=>?_);rw[if_neg y_];have f1:∀c o,c≠z->s.heap.get? c=some o->g1.get? c=some o:=λc o ne e=>b1.extBut _ _ ne e
 refine a_ ?_;rw[←Sj,show(#[b_.ref p,b_.ref q]:Array b_).toList=[.ref p,.ref q] from rfl,QW];refine a_ (a_ (LX (a_ (m:=Sd (.ref p)) ?_)));have P1:=ok.itAt P λo e=>f1 _ o D.i1z e
 have U1:=ok.sqAt qv λo e=>f1 _ o D.l1z e
 cases hx:xs[m]? with
 | none =>
  obtain⟨hh,ak⟩:=ee (.inl hx);exact ok.stop hh P1 U1 hx λg2 x b2 is=>ak g2 x (λc o ne e=>b2 _ _ ne.2.1 (f1 c o ne.1 e)) is
 | some x =>
  refine ok.item P1 U1 hx λg2 P2 b2=>e_ ?_
  dsimp only;refine e_ ?_;have f2:∀c o,c≠p->g1.get? c=some o->g2.get? c=some o:=λc o n2 e=>b2.extBut _ _ n2 e
  dsimp only;rw[QW];refine a_ (a_ (LX (a_ (m:=Sd (.ref q)) ?_)));have Q2:=ok.itAt P' λo e=>f2 _ o D.i12.symm (f1 _ o D.i2z e)
  have V2:=ok.sqAt U' λo e=>f2 _ o D.l2i1 (f1 _ o D.l2z e)
  cases hy:ys[n]? with
  | none =>
   obtain⟨hh,ak⟩:=ee (.inr hy);exact ok.stop hh Q2 V2 hy λg4 x b4 is=>ak g4 x (λc o ne e=>b4 _ _ ne.2.2 (f2 c o ne.2.1 (f1 c o ne.1 e))) is
  | some y =>
   refine ok.item Q2 V2 hy λg4 Q4 b4=>e_ ?_
   dsimp only;refine e_ ?_;dsimp only;rw[forIn_nil];refine e_ (a_ (ON (e_ ?_) (by show 2<=v_;rw[Mq];decide)));have same:g4.objs.size=s.heap.objs.size:=b4.1.trans (b2.1.trans b1.1);have Z4:IsZip1 g4 z ta aE (Nj T) (.bool true):=b4.extBut _ _ D.i2z.symm (f2 _ _ D.i1z.symm Z1);have T5:NJ (g4.push { cls:=.type "tuple", data:=.seq #[x,y] }) g4.objs.size x y:=s_ _ rfl;show Q (.done (.ret (.ref g4.objs.size))) { s with heap:=g4.push { cls:=.type "tuple", data:=.seq #[x,y] } };rw[same] at T5 ⊢
   exact dF x y hx hy _ T5 (c_ _ Z4) ⟨ok.itAt P2 λo e=>c_ _ (b4.extBut _ _ D.i12 e),ok.itAt Q4 λo e=>c_ _ e⟩
    λc o ne e=>c_ _ (b4.extBut _ _ ne.2.2 (f2 c o ne.2.1 (f1 c o ne.1 e)))
end
theorem zP{H:Hp}{s:d_}(I:Inv X aa U H s)(f:FpOk X aa H T)(new:ObjOk X.prog X.w (upd H T o) s.heap T o):Inv X aa U (upd H T o) s:=by
 have ne:∀{b u},H b=some u->b≠T:=λ{b u} e=>rG e f.1
 have:=I.step (H':=upd H T o) (h':=s.heap) (g':=s.gens) (d':=s.drawn) (t':=s.toks) (ch:=[T]) (λb hb=>by rw[q_.mp hb];exact⟨f.2.2.2.1,f.2.1,f.2.2.2.2.1,f.2.2.2.2.2⟩) (λb u _ _ hc e _=>e) (λb u _ _ hc e _=>⟨u.slots,e⟩)
  (λb u hc e n=>by rw[qx (by simpa using hc)];exact n) (λb u hc e=>⟨u,e⟩) (λb xs e=>by rw[qx (ne e)];exact e) (λb u v e=>by rw[qx (ne e)];exact e) (λb q e=>by rw[qx (ne e)];exact e) (λm hm=>hm) (λb u e=>?_) I.bare
 ·exact this
 ·by_cases hb:b=T
  ·subst hb;rw[qH] at e;cases e;exact new
  ·rw[qx hb] at e;exact(I.hok b u e).stay (λc v hc q=>q) (λc q=>by rw[qx (ne q)];exact q) (λc xs q=>by rw[qx (ne q)];exact q) λc o u q=>by rw[qx (ne q)];exact q
def zipK:List V->List V->Hp->List V->(List V->Hp->Prop)->Prop
 | x::xs,y::ys,H,am,Q=>∀p,H p=none->zipK xs ys (upd H p (.tup [x,y])) (am++[.ref p]) Q
 | _,_,H,am,Q=>Q am H
def ZipAt(h:L4)(z ta aE:i_):Nat->Prop
 | 0=>Re h z ta aE .none/\∃a b,NJ h aE a b
 | _+1=>∃(T:i_) (b:Bool),IsZip1 h z ta aE (Nj T) (.bool b)/\∃o,h.get? T=some o
theorem zq:∀{xs:List V}{us:List b_}{x:V}{u:b_},Vals xs us->RelV x u->Vals (xs++[x]) (us++[u])
 | _,_,_,_,.nil,h=>.cons h .nil
 | _,_,_,_,.cons a r,h=>.cons a (zq r h)
section
variable{R:SO->d_->Prop}
theorem JE{z ta p q u v:i_}(D:Tk z ta aE p q u v)(hh:A.handled=none){ys:List V}{bg:List b_}(r1:Vals xs af)(r2:Vals ys bg)(hl:xs.length=ys.length)(hz:xs.length < v_)(hS:S∉[z,ta,aE,p,q,u,v]){Qf:List V->Hp->Prop}(fin:∀s' H' aJ us c,Inv X aa U H' s'->FpOk X aa H' S->s'.heap.get? S=some { cls:=.type "list", dict:=none,data:=.seq (us:List b_).toArray c,slots:=#[] }->Vals aJ us->aJ.length=xs.length->Qf aJ H'->R (.ok (.ret .none)) s'):
  ∀(k i:Nat) (s:d_) (H:Hp) (aJ:List V) (us:List b_) (c:Nat),xs.length - i=k->i<=xs.length->Inv X aa U H s->(∀b∈[z,ta,aE,p,q,S],FpOk X aa H b/\b < s.heap.objs.size)->ZipAt s.heap z ta aE i->NJ s.heap ta (.ref p) (.ref q)->s.heap.IsListIter p u i->s.heap.IsListIter q v i →
   s.heap.IsList u af.toArray->s.heap.IsList v bg.toArray->s.heap.get? S=some { cls:=.type "list", dict:=none,data:=.seq us.toArray c,slots:=#[] }->Vals aJ us->aJ.length=i->zipK (xs.drop i) (ys.drop i) H aJ Qf →
   Nw (m_ X.prog X.w) A (.builtin "list.extend.loop" ⟨[.ref S,.ref z,.none],[]⟩) R s:=by
 have l1:=r1.length;have l2:=r2.length;simp only[n_,M2,or_false,not_or] at hS;obtain⟨s1,s2,s3,s4,s5,s6,s7⟩:=hS;intro k
 induction k with
 | zero =>
  intro i s H aJ us c hk hi I hf za Ta P P' qv U' iR rv rl zk;have:i=xs.length:=by omega
  refine Mo RV ?_;rw[ML NM _];have hG:af.toArray[i]?=none:=by rw[List.getElem?_toArray];exact M3 (by omega)
  have hT:s.TypeIs (.ref z) "zip":=by
   cases i with
   | zero=>exact⟨_,za.1,rfl⟩
   | succ i=>obtain⟨T,b,z1,_⟩:=za;exact⟨_,z1,rfl⟩
  have ak:∀(g:L4) (x:i_),(∀c o,(c≠z/\c≠aE/\c≠p/\c≠q)->s.heap.get? c=some o->g.get? c=some o)->(∃o,g.get? x=some o/\o.cls=.type "StopIteration") →
    z_ (m_ X.prog X.w) A.in1 (isInstance (.ref x) (.type "StopIteration") >>= λb=>if b=true then pure none else throw (.ref x)) (λ(r:Option b_) s1=>r=none/\R (.ok (.ret .none)) s1) (λ_ _=>False) { s with heap:=g }:=λg x kk is=>by
   obtain⟨o,ho,gL⟩:=is;refine a_ (Od (T:= "StopIteration") (b:=true) ⟨o,ho,gL⟩ PV ?_);refine e_ ⟨rfl,?_⟩
   have I1:Inv X aa U H { s with heap:=g }:=t6 (t':=s.toks) I (ch:=[z,aE,p,q]) (λb hb=>(hf b (by simp only[n_,M2,or_false] at hb ⊢;rcases hb with h | h | h | h<;>simp[h])).1) λb u hb e=>by
    simp only[n_,M2,or_false,not_or] at hb;exact kk b u hb e
   refine fin _ H aJ us c I1 (hf S (by simp)).1 (kk S _ ⟨s1,s3,s4,s5⟩ iR) rv (by omega) ?_;rw[this,OC,hl,OC] at zk;exact zk
  have next:z_ (m_ X.prog X.w) A.in1 (Nx (.ref z)) (λr s1=>r=none/\R (.ok (.ret .none)) s1) (λ_ _=>False) s:=by
   unfold Nx;refine a_ (No (Mk (name:=NC "__next__") hT Nh (Mn Nh hT OV ?_ (OO _))));cases i with
   | zero =>
    obtain⟨z0,a,b,t0⟩:=za;refine uQ r8 D z0 Ta t0 P P' qv U' (λx y hx=>?_) λ_=>⟨hh,λg x kk is=>ak g x kk is⟩
    rw[hG] at hx;cases hx
   | succ i =>
    obtain⟨T,b,z1,al⟩:=za;refine BF r8 D z1 al Ta P P' qv U' (λx y hx=>?_) λ_=>⟨hh,λg x kk is=>ak g x (λc o h=>kk c o ⟨h.1,h.2.2⟩) is⟩
    rw[hG] at hx;cases hx
  refine a_ (m:=Nx (.ref z)) (Mz next (λr s1 h=>?_) λ_ _ x=>x.elim);obtain⟨rfl,h⟩:=h;exact e_ h
 | succ k ih =>
  intro i s H aJ us c hk hi I hf za Ta P P' qv U' iR rv rl zk;have lt:i < xs.length:=by omega
  refine Mo RV ?_;rw[ML NM _];have dx:xs.drop i=xs[i]::xs.drop (i+1):=LV lt;have dy:ys.drop i=ys[i]'(by omega)::ys.drop (i+1):=LV (by omega);rw[dx,dy] at zk;obtain⟨u1,e1,e2⟩:=r1.get (h_ lt);obtain⟨u2,e3,e4⟩:=r2.get (h_ (show i < ys.length by omega));have f1:af.toArray[i]?=some u1:=by simpa using e1
  have f2:bg.toArray[i]?=some u2:=by simpa using e3
  have gT:S < s.heap.objs.size:=F_ iR;have nT:∀{b:i_}{o:Obj},s.heap.get? b=some o->b≠s.heap.objs.size:=λe=>LW (F_ e)
  have hT:s.TypeIs (.ref z) "zip":=by
   cases i with
   | zero=>exact⟨_,za.1,rfl⟩
   | succ i=>obtain⟨T,b,z1,_⟩:=za;exact⟨_,z1,rfl⟩
  have dm:z < s.heap.objs.size:=by
   cases i with
   | zero=>exact F_ za.1
   | succ i=>obtain⟨T,b,z1,_⟩:=za;exact F_ z1
  have go:∀(g:L4) (b:Bool) (T:i_),NJ g s.heap.objs.size u1 u2->IsZip1 g z ta aE (Nj T) (.bool b)->(∃o,g.get? T=some o)->g.IsListIter p u (i+1)/\g.IsListIter q v (i+1)->(∀c o,(c≠z/\c≠aE/\c≠p/\c≠q)->s.heap.get? c=some o->g.get? c=some o) →
    z_ (m_ X.prog X.w) A.in1 (Oi S (·.push (.ref s.heap.objs.size)) >>= λ_=>(Sm (.builtin "list.extend.loop" ⟨[.ref S,.ref z,.none],[]⟩):Sem PySem.Fin)) (λfin s'=>match fin with
     | .done f=>R (.ok f) s'
     | .again c'=>c'.quiet=true/\Nw (m_ X.prog X.w) A c' R s') (λe s'=>R (.error e) s') { s with heap:=g }:=λg b T pT z1 al its' kk=>by
   have fQ:=kk S _ ⟨s1,s3,s4,s5⟩ iR;have qk:us.length=i:=by rw[←rv.length];exact rl
   have I1:Inv X aa U (upd H s.heap.objs.size (.tup [xs[i],ys[i]'(by omega)])) { s with heap:=g }:=wL (t':=s.toks) I (ch:=[z,aE,p,q]) (λb hb=>(hf b (by simp only[n_,M2,or_false] at hb ⊢;rcases hb with h | h | h | h<;>simp[h])).1) (λb u hb e=>by
    simp only[n_,M2,or_false,not_or] at hb
    exact kk b u hb e) (A_ _) ⟨by show 2<=v_;rw[Mq];decide,[u1,u2],.cons e2 (.cons e4 .nil),⟨_,pT,rfl,_,rfl⟩⟩
   have gl:s.heap.objs.size < g.objs.size:=F_ pT
   have fp:∀b∈[z,ta,aE,p,q,S],FpOk X aa (upd H s.heap.objs.size (.tup [xs[i],ys[i]'(by omega)])) b/\b < s.heap.objs.size:=λb hb=>by
    have h0:=hf b hb;exact⟨⟨by rw[qx (LW h0.2)];exact h0.1.1,h0.1.2⟩,h0.2⟩
   have nz:∀{f:Obj->Obj}{b:i_}{o:Obj},b≠S->g.get? b=some o->(g.update S f).get? b=some o:=λne e=>(C_ _ _ (LU ne)).trans e
   refine a_ (Mg fQ rfl (e_ ⟨Mb NM _,?_⟩) (by rw[l_];omega) (by rw[Pn,l_];omega));have fS:=(fp S (by simp)).1;have I2:Inv X aa U (upd H s.heap.objs.size (.tup [xs[i],ys[i]'(by omega)])) { s with heap:=g.update S (M_ (·.push (.ref s.heap.objs.size))) }:=t6 (s:={ s with heap:=g }) (t':=s.toks) I1 (ch:=[S]) (λb hb=>by rw[q_.mp hb];exact fS) λb u hb e=>nz (by simpa using hb) e
   have oZ:(g.update S (M_ (·.push (.ref s.heap.objs.size)))).objs.size=g.objs.size:=RA ..;have own:=L3 (M_ (·.push (b_.ref s.heap.objs.size))) fQ rfl
   obtain⟨c',mQ⟩:∃c',(g.update S (M_ (·.push (b_.ref s.heap.objs.size)))).get? S=some { cls:=.type "list", dict:=none,data:=.seq (us++[b_.ref s.heap.objs.size]).toArray c',slots:=#[] }:=⟨_,by
    have:(us++[b_.ref s.heap.objs.size]).toArray=us.toArray.push (.ref s.heap.objs.size):=by simp
    rw[this]
    exact own⟩
   refine ih (i+1) _ _ (aJ++[.ref s.heap.objs.size]) (us++[.ref s.heap.objs.size]) c' (by omega) lt I2 (λb hb=>⟨(fp b hb).1,by rw[oZ];exact Rt (fp b hb).2 gl⟩) ⟨T,b,nz (LU s1) z1,?_⟩ (nz (LU s2) (kk ta _ ⟨D.TIz,D.TITO,D.TIi1,D.TIi2⟩ Ta))
    (its'.1.at λo e=>nz (LU s4) e) (its'.2.at λo e=>nz (LU s5) e) (qv.at λo e=>nz (LU s6) (kk u o ⟨D.l1z,D.l1TO,D.l1i1,D.l1i2⟩ e)) (U'.at λo e=>nz (LU s7) (kk v o ⟨D.l2z,D.l2TO,D.l2i1,D.l2i2⟩ e)) mQ (zq (x:=.ref s.heap.objs.size) (u:=.ref s.heap.objs.size) rv rfl) (by simp[rl]) ?_
   ·obtain⟨o,ho⟩:=al;by_cases e:T=S
    ·subst e;exact⟨_,own⟩
    ·exact⟨o,nz e ho⟩
   ·exact zk _ (I.hok.fresh (A_ _))
  refine a_ (m:=Nx (.ref z)) ?_;unfold Nx;refine a_ (No (Mk (name:=NC "__next__") hT Nh (Mn Nh hT OV ?_ (OO _))));cases i with
  | zero =>
   obtain⟨z0,a,b,t0⟩:=za;refine uQ r8 D z0 Ta t0 P P' qv U' (λx y hx hy g ⟨_,b5⟩ b1 b2 b3 b7=>?_) λnon=>?_
   ·rw[f1] at hx;cases hx;rw[f2] at hy;cases hy;exact⟨_,rfl,e_ (go g false _ b5 b1 ⟨_,b5⟩ b3 b7)⟩
   ·rw[f1,f2] at non
    rcases non with non | non<;>cases non
  | succ i =>
   obtain⟨T,b,z1,al⟩:=za;refine BF r8 D z1 al Ta P P' qv U' (λx y hx hy g b5 b1 b3 b7=>?_) λnon=>?_
   ·rw[f1] at hx;cases hx;rw[f2] at hy;cases hy;refine⟨_,rfl,e_ (go g true T b5 b1 ?_ b3 λc o h=>b7 c o ⟨h.1,h.2.2⟩)⟩;obtain⟨o,ho⟩:=al;by_cases t1:T=z
    ·subst t1;exact⟨_,b1⟩
    ·by_cases t2:T=p
     ·subst t2;obtain⟨o',e,_⟩:=b3.1;exact⟨o',e⟩
     ·by_cases t3:T=q
      ·subst t3;obtain⟨o',e,_⟩:=b3.2;exact⟨o',e⟩
      ·exact⟨o,b7 T o ⟨t1,t2,t3⟩ ho⟩
   ·rw[f1,f2] at non
    rcases non with non | non<;>cases non
end
theorem Ct:Tg (.type "zip") "__len__"=pure none:=by rw[Po,N7];kernel_rfl
theorem Jy:Tg (.type "zip") "__length_hint__"=pure none:=by rw[Po,N7];kernel_rfl
section
variable{B:BB}{a b:L8}{p:Pos}{H:Hp}{s:d_}
theorem JC(hc:X.calm=true)(I:Inv X aa U H s){ys:List V}(h1:SqL X.K H l1 xs)(h2:SqL X.K H l2 ys)(hl:xs.length=ys.length)(hz:xs.length < v_){Q:VK}(zk:zipK xs ys H [] λaJ H'=>∀l,H' l=none->Q (.ref l) (upd H' l (.lst aJ))):
  z_ (m_ X.prog X.w) X.A (call (.type "zip") [.ref l1,.ref l2]) (λv s1=>z_ (m_ X.prog X.w) X.A (call (.type "list") [v]) (EP X aa U Q) X.xe s1) X.xe s:=by
 have hh:=I.ok.hd hc;obtain⟨af,r1,t1,_⟩:=I.list h1;obtain⟨bg,r2,t2,_⟩:=I.list h2;have U0:s.heap.IsList l1 af.toArray:=t1.isList;have V0:s.heap.IsList l2 bg.toArray:=t2.isList;refine AN r8 U0 V0 λn h' hn a1 a2 a3 a4 a5 a6=>?_
 have I1:Inv X aa U H { s with heap:=h' }:=I.kept (t':=s.toks) a6;have mR:l1 < n:=by rw[hn];exact r8.sqLt U0
 have mS:l2 < n:=by rw[hn];exact r8.sqLt V0
 have up:∀m,FpOk X aa H (n+m):=λm=>by rw[hn];exact I.fpOk (Mr _ _) (I.hok.fresh (Mr _ _))
 have dm:n+4 < h'.objs.size:=F_ a1;have D:=zipApart_new mR mS;obtain⟨S,eS⟩:∃S,S=h'.objs.size:=⟨_,rfl⟩;refine callType_codes (Q₁:=λobj aw=>obj=.ref S/\aw={ s with heap:=h'.push { cls:=.type "list", data:=.seq #[] } }) F.called_list (F.typeCall_list_1 _) F.entry_list_init (code_list_new _ ⟨by rw[eS],rfl⟩) λobj aw fC=>?_
 obtain⟨rfl,rfl⟩:=fC;have dA:(h'.push { cls:=.type "list", data:=.seq #[] }).get? S=some { cls:=.type "list", data:=.seq #[] }:=by rw[eS];exact s_ _ rfl
 refine⟨⟨_,dA,rfl⟩,F.args_list_init_2 _ _,?_⟩;have cN:∀b o,h'.get? b=some o->(h'.push { cls:=.type "list", data:=.seq #[] }).get? b=some o:=λb o e=>c_ _ e
 obtain⟨g1,cn⟩:∃g1,g1=h'.push { cls:=.type "list", data:=.seq #[] }:=⟨_,rfl⟩;rw[←cn] at dA cN;rw[←cn];refine a_ (m:=Nk.List.listItems (.ref S)) (a_ (m:=PJ (.ref S)) (MB (s:={ s with heap:=g1 }) dA rfl (e_ ?_)));refine a_ (m:=Oi S λ_=>#[]) (Mg dA rfl ?_);have dI:=L3 (M_ (λ_=>(#[]:Array b_))) dA rfl;have dE:∀{g:L4}{f:Obj->Obj} (b:i_) (o:Obj),b≠S->g.get? b=some o->(g.update S f).get? b=some o:=λb o hb e=>(C_ _ _ (LU hb)).trans e
 obtain⟨g2,cq⟩:∃g2,g2=g1.update S (M_ (λ_=>(#[]:Array b_))):=⟨_,rfl⟩;have k2:∀b o,b≠S->g1.get? b=some o->g2.get? b=some o:=λb o hb e=>by rw[cq];exact dE b o hb e
 rw[←cq] at dI ⊢;refine a_ (MG ?_);have nS:∀b,b < h'.objs.size->b≠S:=λb hb=>by rw[eS];exact LW hb
 have z2:Re g2 (n+4) (n+2) (n+3) .none:=k2 _ _ (nS _ dm) (cN _ _ a1);have hT2:d_.TypeIs { s with heap:=g2 } (.ref (n+4)) "zip":=⟨_,z2,rfl⟩;unfold RD;refine a_ (QP hT2 ?_);have c1:S1 (.ref S) (.ref (n+4))=false:=by simp[S1,LU (nS _ dm)]
 have c2:(type "zip" == type "list")=false:=by decide
 have c3:(type "zip" == type "tuple")=false:=by decide
 simp only[c1,c2,c3,Bool.or_false,MX,if_false];refine a_ (Qu z2 ?_);refine a_ (LX (a_ (m:=specialOf (.ref (n+4)) "__len__") (Rg hT2 Ct (a_ (m:=specialOf (.ref (n+4)) "__length_hint__") (Rg hT2 Jy (e_ ?_))))));refine a_ (m:=Sn _) (MZ (a_ (m:=listTouch (.ref S)) ?_));refine a_ (m:=Oi S (·.push .none)) (Mg (s:={ s with heap:=g2 }) dI rfl ?_ (by simp) (by simp));have eC:=L3 (M_ (·.push b_.none)) dI rfl;refine Mg eC rfl ?_ (by show(#[b_.none]:Array b_).size<=_;rw[Mq];decide) (by simp);have dJ:=L3 (M_ (·.pop)) eC rfl;obtain⟨g4,eD⟩:∃g4,g4=(g2.update S (M_ (·.push b_.none))).update S (M_ (·.pop)):=⟨_,rfl⟩;rw[←eD] at dJ;show z_ _ _ _ _ _ { s with heap:=L4.update (L4.update g2 _ _) _ _ };rw[←eD];have k4:∀b o,b≠S->h'.get? b=some o->g4.get? b=some o:=λb o hb e=>by rw[eD];exact dE b o hb (dE b o hb (k2 b o hb (cN b o e)))
 have kk:∀b o,h'.get? b=some o->g4.get? b=some o:=λb o e=>k4 b o (nS b (F_ e)) e
 have I4:Inv X aa U H { s with heap:=g4 }:=I.kept (t':=s.toks) λb o e=>kk b o (a6 b o e)
 have fS:FpOk X aa H S:=by rw[eS];exact I1.fpOk (A_ _) (I1.hok.fresh (A_ _))
 have gT:S < g4.objs.size:=F_ dJ;have low:∀m,m<=4->n+m < g4.objs.size/\n+m≠S:=λm hm=>⟨by omega,nS _ (by omega)⟩
 refine e_ ⟨Mb NM _,JE (A:=X.A.in1) (Qf:=λaJ H'=>∀l,H' l=none->Q (.ref l) (upd H' l (.lst aJ))) D hh r1 r2 hl hz ?_ (λs' H' aJ us c J f hS rv rl q=>?_) xs.length 0 { s with heap:=g4 } H [] [] _ (by omega) (Me _) I4 (λb hb=>?_) ⟨kk _ _ a1,_,_,kk _ _ a3⟩ (kk _ _ a2)
  (a4.at λo e=>kk _ o e) (a5.at λo e=>kk _ o e) (U0.at λo e=>kk _ o (a6 _ o e)) (V0.at λo e=>kk _ o (a6 _ o e)) dJ .nil rfl zk⟩
 ·simp only[n_,M2,or_false,not_or];exact⟨LU (low 4 (by omega)).2,LU (low 2 (by omega)).2,LU (low 3 (by omega)).2,LU (low 0 (by omega)).2,LU (low 1 (by omega)).2,LU (nS l1 (Rt mR (Oz (Mr n 4) dm))),LU (nS l2 (Rt mS (Oz (Mr n 4) dm)))⟩
 ·refine⟨rfl,.ref S,_,zP (o:=.lst aJ) J f ⟨by rw[rl];omega,us,c,rv,hS⟩,rfl,q S f.1⟩
 ·simp only[n_,M2,or_false] at hb
  rcases hb with h | h | h | h | h | h
  ·rw[h];exact⟨up 4,(low 4 (by omega)).1⟩
  ·rw[h];exact⟨up 2,(low 2 (by omega)).1⟩
  ·rw[h];exact⟨up 3,(low 3 (by omega)).1⟩
  ·rw[h];exact⟨up 0,(low 0 (by omega)).1⟩
  ·rw[h];exact⟨up 1,(low 1 (by omega)).1⟩
  ·rw[h];exact⟨fS,gT⟩
theorem G7{p:Pos}(hc:X.calm=true)(hl:Gl X "list")(fm:X.mg "list"=none)(hg:Gl X "zip")(hm:X.mg "zip"=none)(ha:PA X [a,b] ta)(hs:f_ [a,b] X.env=[(false,Mm a X.env),(false,Mm b X.env)]:=by rfl)(bO:f_ [b] X.env=[(false,Mm b X.env)]:=by rfl)(dU:f_ [.Call (.Name "zip" p2) [a,b] [] br] X.env=[(false,Mm (.Call (.Name "zip" p2) [a,b] [] br) X.env)]:=by rfl):
  PE X (.Call (.Name "list" p) [.Call (.Name "zip" p2) [a,b] [] br] [] pos) (λU H Q=>ta U H λvs H1=>∃l1 l2 xs ys,vs=[.ref l1,.ref l2]/\SqL X.K H1 l1 xs/\SqL X.K H1 l2 ys/\xs.length=ys.length/\xs.length < v_ ∧
   zipK xs ys H1 [] λaJ H'=>∀l,H' l=none->Q (.ref l) (upd H' l (.lst aJ))):=by
 intro aa s U H Q I h;refine Tb (rC I hl fm boot_list (LZ ?_ dU rfl));rw[dU];refine Nt (Tb (rC I hg hm boot_zip (LZ (thn (ha br aa s U H _ I h) λus s1 ⟨vs,H1,I1,r1,q1⟩=>?_) (by rw[hs,bO]) (by rw[bO];rfl))));obtain⟨l1,l2,xs,ys,rfl,h1,h2,hl,hz,zk⟩:=q1;obtain⟨u1,u2,rfl,e1,e2⟩:=r1.two;cases e1;cases e2;exact thn (JC hc I1 h1 h2 hl hz zk) λv s2 q=>NA q
noncomputable def zipLF(ds:List D):Option (List D):=match ds with
 | [.lst xs,.lst ys]=>if xs.length=ys.length/\xs.length<=1000 then some (pairsD xs ys) else none
 | _=>none
theorem zT{K:PySem.W.Frag}{B:BB}{G:Hp}{Z:Gm}{Qf:List V->Hp->Prop}:∀(ds es:List D) (xs ys:List V) (H I:Hp) (am:List V) (cR:List D),ds.length=es.length->Rep K B G I H U Z->IsA K I ds xs->IsA K I es ys->IsA K I cR am →
  (∀aJ H' I',Rep K B G I' H' U Z->Grow G I I'->IsA K I' (cR++pairsD ds es) aJ->Qf aJ H')->zipK xs ys H am Qf
 | [],es,xs,ys,H,I,am,cR,hl,r,hx,hy,ha,k=>by
  rw[hx.nil_inv];have:pairsD [] es=[]:=by simp[pairsD]
  rw[this,M5] at k;cases ys<;>exact k am H I r (Grow.refl _ _) ha
 | d::ds,[],xs,ys,H,I,am,cR,hl,r,hx,hy,ha,k=>by cases hl
 | d::ds,e::es,xs,ys,H,I,am,cR,hl,r,hx,hy,ha,k=>by
  obtain⟨x,xr,rfl,x1,x2⟩:=hx.cons_inv;obtain⟨y,yr,rfl,y1,y2⟩:=hy.cons_inv;intro p hp;have r1:=r.alloc hp (.tup [x,y]);have g1:=r.growAlloc hp (.tup [x,y]);have m:=g1.up;refine zT ds es xr yr _ _ _ (cR++[.tup [d,e]]) (Oe hl) r1 (x2.mono m) (y2.mono m) ?_ λaJ H' I' r' g' h'=>k aJ H' I' r' (g1.trans g') ?_
  ·refine IsA.append (ha.mono m) (IsA.cons ?_ IsA.nil);exact Is.tup (SqT.of qH) (IsA.cons (x1.mono m) (IsA.cons (y1.mono m) IsA.nil))
  ·have:cR++pairsD (d::ds) (e::es)=(cR++[.tup [d,e]])++pairsD ds es:=by simp[pairsD]
   rw[this];exact h'
theorem CW{t:M (List D)}{p:Pos}(hc:X.calm=true)(hl:Gl X "list")(fm:X.mg "list"=none)(hg:Gl X "zip")(hm:X.mg "zip"=none)(ha:AD X B [a,b] t)(hs:f_ [a,b] X.env=[(false,Mm a X.env),(false,Mm b X.env)]:=by rfl)(bO:f_ [b] X.env=[(false,Mm b X.env)]:=by rfl)(dU:f_ [.Call (.Name "zip" p2) [a,b] [] br] X.env=[(false,Mm (.Call (.Name "zip" p2) [a,b] [] br) X.env)]:=by rfl):
  EO X B (.Call (.Name "list" p) [.Call (.Name "zip" p2) [a,b] [] br] [] pos) (fn1 zipLF t):=PE.imp (G7 hc hl fm hg hm ha hs bO dU) λU H Q q=>by
 obtain⟨G,I,Z,ds,ah,r,e1,k⟩:=q;obtain⟨d,ae,e2,e3⟩:=pS e1;obtain⟨e4,rfl⟩:=qI e3;refine⟨G,I,Z,_,_,r,e2,λvs H1 I1 r1 g1 hd=>?_⟩;unfold zipLF at e4;split at e4
 ·obtain⟨ok,rfl⟩:=qQ e4;obtain⟨x,y,rfl,hx,hy⟩:=hd.two;obtain⟨l1,xs,rfl,h1,h2⟩:=qJ hx;obtain⟨l2,ys,rfl,h3,h4⟩:=qJ hy;have n1:=h2.length;have n2:=h4.length;refine⟨l1,l2,xs,ys,rfl,(Same.rdK r1.iH h1).sq,(Same.rdK r1.iH h3).sq,by omega,by rw[Mq];omega,zT _ _ xs ys H1 I1 [] [] ok.1 r1 h2 h4 IsA.nil λaJ H' I' r' g' h' l hl=>?_⟩;exact(k.after (g1.trans g')).new r' hl h'
 ·cases e4
end
section
variable{B:BB}{p:Pos}{kr:Nat}
inductive KX(X:Cx):List L8->M (List D)->Prop
 | nil:KX X [] nilA
 | int {i:Int} {a b es t}:KX X es t->KX X (.Constant (.int i) a b::es) (consA (ret (.int i)) t)
 | bl {i:Bool} {a b es t}:KX X es t->KX X (.Constant (.bool i) a b::es) (consA (ret (.bl i)) t)
 | non {a b es t}:KX X es t->KX X (.Constant .none a b::es) (consA (ret .non) t)
 | str {i:Str} {a b es t}:KX X es t->KX X (.Constant (.str i) a b::es) (consA (ret (.str i)) t)
 | neg {i:Int} {a b p es t}:KX X es t->KX X (.UnaryOp .USub (.Constant (.int i) a b) p::es) (consA (un1 negI (ret (.int i))) t)
 | pow {i j:Int} {a b a' b' p es t}:KX X es t->KX X (.BinOp (.Constant (.int i) a b) .Pow (.Constant (.int j) a' b') p::es) (consA (op2 powI (ret (.int i)) (ret (.int j))) t)
 | nm {z p i es t}:PE X (.Name z p) (tVar i)->KX X es t->KX X (.Name z p::es) (consA (nm i) t)
 | tup {fs u x p es t}:KX X fs u->KX X es t->KX X (.Tuple fs x p::es) (consA (tupA u) t)
 | lst {fs u p es t}:KX X fs u->KX X es t->KX X (.List fs p::es) (consA (frz (lstA u)) t)
theorem KX.ad{es:List L8}{t:M (List D)}(h:KX X es t):AD X B es t:=by
 induction h with
 | nil=>exact pL
 | int _ ih=>exact gV i' ih rfl
 | bl _ ih=>exact gV rE ih rfl
 | non _ ih=>exact gV tR ih rfl
 | str _ ih=>exact gV zy ih rfl
 | neg _ ih=>exact gV (sd i') ih rfl
 | pow _ ih=>exact gV (sD i' i') ih rfl
 | nm h _ ih=>exact gV (AH h) ih rfl
 | tup _ _ ih1 ih2=>exact gV (qS ih1) ih2 rfl
 | lst _ _ ih1 ih2=>exact gV (qB (qN ih1)) ih2 rfl
end
end DL
namespace L2
open PySem PySem.Spec PyProof.Rows
theorem BK{p p':Pos}{c cv:b_}:∀(l:List b_),RJ l->PD p' (l++[Nj p.line,Nj p.col,c])=some cv->PD p' l=some cv\/cv=c
 | [],_,h=>by
  right;simp only[QY,PD,Nj] at h;split at h
  ·exact(L0 h).symm
  ·cases h
 | .int a t::.int b u::x::r,ok,h=>by
  simp only[QE,PD] at h ⊢;split at h
  ·rename_i q;rw[if_pos q];exact .inl h
  ·rename_i q;rw[if_neg q];exact BK r ok h
theorem Bn{a b:Int}{c:b_}:∀(l:List b_),RJ l->RJ (l++[Nj a,Nj b,c])
 | [],_=>trivial
 | .int _ _::.int _ _::x::r,ok=>Bn r ok
section
variable{H:Hp}{s:d_}
theorem J5{P c:i_}{ps:Array b_}{oc:Obj}{vs:Array b_}{t:Tok}(I:Inv X aa U H s)(hP:H P=some (.tbl q))(fq:s.heap.get? P=some { cls:=.none,data:=.fields ps })(ok:RJ ps.toList)(hx:L4.ExtBut P s.heap h')(hc:s.heap.objs.size<=c)(ec:h'.get? c=some oc)(hd:oc.data=.fields vs)(hv:vs[1]?=some (.str q t))(mT:h'.get? P=some { cls:=.none,data:=.fields (ps++#[Nj pos.line,Nj pos.col,.ref c]) }):
  Inv X aa U (upd H c (.frz oc (.own P))) { s with heap:=h',toks:=t' }:=by
 have hf:=I.hok.fresh hc;have ne:∀{b u},H b=some u->b≠c:=λ{b u} e=>rG e hf
 have nP:∀{b},H b=none->b≠P:=λ{b} n z=>by rw[z,hP] at n;cases n
 have old:∀{q':Str}{aA:Pos}{cv:b_},PD aA ps.toList=some cv->∃c oc vs t,cv=.ref c/\H c=some (.frz oc (.own P))/\oc.data=.fields vs/\vs[1]?=some (.str q t):=λ{q' aA cv} e=>by
  obtain⟨iN,e1,_,e3⟩:=(show ObjOk X.prog X.w H s.heap P (.tbl q) from I.hok P _ hP);rw[fq] at e1;cases e1;exact e3 _ _ e
 have:=I.step (H':=upd H c (.frz oc (.own P))) (h':=h') (g':=s.gens) (d':=s.drawn) (t':=t') (ch:=[]) (λb z=>nomatch z) (λb o _ _ _ e n=>hx b o (nP n) e) (λb o _ _ _ e n=>⟨o.slots,hx b o (nP n) e⟩)
  (λb o _ e n=>by rw[qx (LW (H_ (F_ e) hc))];exact n) (λb o _ e=>by
   by_cases z:b=P
   ·exact⟨_,by rw[z];exact mT⟩
   ·exact⟨o,hx b o z e⟩) (λb xs e=>by rw[qx (ne e)];exact e) (λb o u e=>by rw[qx (ne e)];exact e) (λb q' e=>by rw[qx (ne e)];exact e)
  (λm hm=>by
   obtain⟨o,es,ep,e,r⟩:=hm
   exact⟨o,es,ep,hx _ o (nP I.free) e,r⟩) (λb u e=>?_) I.bare
 ·exact this
 ·by_cases hb:b=c
  ·subst hb;rw[qH] at e;cases e;exact⟨ec,oc,ec⟩
  ·rw[qx hb] at e;by_cases hbP:b=P
   ·subst hbP;rw[hP] at e;cases e;refine⟨_,mT,by rw[MQ];exact Bn _ ok,λaA cv z=>?_⟩;rw[MQ] at z
    rcases BK _ ok z with z | z
    ·obtain⟨c',o0,gO,t',e1,e2,e3⟩:=old (q':=q) z;exact⟨c',o0,gO,t',e1,by rw[qx (ne e2)];exact e2,e3⟩
    ·exact⟨c,oc,vs,t,z,qH,hd,hv⟩
   ·refine(I.hok b u e).stay (λd v hd q=>hx d v ?_ q) (λd q=>by rw[qx (ne q)];exact q) (λd xs q=>by rw[qx (ne q)];exact q) λd o u q=>by rw[qx (ne q)];exact q
    rcases hd with z | z
    ·rw[z];exact hbP
    ·intro y;rw[y,hP] at z;cases z
end
noncomputable abbrev lamObj(params:Arguments)(body:L8)(scope:OG)(cl:List (Str×i_))(pm cv bx:b_):Obj:=
 { cls:=.type "function", data:=.func (kla_fn "<lambda>" "few_of.<locals>.<lambda>" params body scope cl pm cv bx) }
section
variable{H:Hp}{s:d_}{body:L8}{dB:Pos}
def Code1(H:Hp)(cv:b_):Prop:=∃c oc P vs t,cv=.ref c/\H c=some (.frz oc (.own P))/\oc.data=.fields vs/\vs[1]?=some (.str "few_of.<locals>.<lambda>" t)
theorem Code1.rec'(h:Code1 H cv)(ok:HOk X.prog X.w H s.heap):s.heap.CodeRec cv "few_of.<locals>.<lambda>":=by
 obtain⟨c,oc,P,vs,t,rfl,e,d,v⟩:=h;obtain⟨ho,_⟩:=(show ObjOk X.prog X.w H s.heap c (.frz oc (.own P)) from ok c _ e);exact⟨c,oc,vs,t,rfl,ho,d,v⟩
theorem Jo{c P:i_}(I:Inv X aa U H s)(ht:OF X.K "few_of"=some (c,P))(cH:X.env.code=.ref c)(hq:X.env.qual = "few_of.<locals>.")(eF:Tz params X.env=([],[]))(cF:QX scope X.env=pure eE){Q:b_->d_->Prop}(k:∀f H' s' pm cv bx,Inv X aa U H' s'->(H'=H\/∃c' oc,H c'=none/\H'=upd H c' (.frz oc (.own P)))->Code1 H' cv->s.heap.objs.size<=f->H' f=none->s'.heap.get? f=some (lamObj params body scope eE pm cv bx)->Q (.ref f) s'):
  z_ (m_ X.prog X.w) X.A (Mm (.Lambda params body scope dB) X.env) Q X.xe s:=by
 have q2:X.env.qual ++ "<lambda>" = "few_of.<locals>.<lambda>":=by rw[hq];decide
 refine PySem.W.kla_eval eF ?_;rw[q2];have hP:H P=some (.tbl "few_of.<locals>.<lambda>"):=I.base.tbls P _ (I.ok.tb c P ht);obtain⟨ps,fq,ok,en⟩:=(show ObjOk X.prog X.w H s.heap P (.tbl "few_of.<locals>.<lambda>") from I.hok P _ hP);have hg:=I.ok.mod.glob.keeps I.bk;have C:=(I.ok.mod.cod c P ht).keeps I.bk
 have o5:My≠P:=λz=>by
  obtain⟨o,es,ep,e,hd,_⟩:=hg;rw[z,fq] at e;cases e;cases hd
 have hb:s.heap.BuiltinsAt X.mg P:=by
  obtain⟨bm,ob,b1,b2,b3,b4,b5,b6⟩:=I.ok.mod.bm;refine⟨bm,ob,b1,b2,λz=>?_,λz=>?_,I.bk _ _ b3,b4,b5,b6⟩
  ·obtain⟨o,es,ep,e,hd,_⟩:=hg;rw[←z,I.bk _ _ b3] at e;cases e;rw[b6] at hd;cases hd
  ·have:=I.bk _ _ b3;rw[z,fq] at this;cases this;cases b4
 cases hf:PD dB ps.toList with
 | some cv =>
  refine PySem.W.kla_makeFunctionHit (mg:=X.mg) cF I.ok.glob hg cH C fq ok hf hb λbx h' tk keep sz=>?_
  have kB:∀b o,s.heap.get? b=some o->(h'.push (lamObj params body scope eE ((X.mg "__name__").getD .none) cv bx)).get? b=some o:=λb o e=>c_ _ (keep b o e)
  have I2:Inv X aa U H { s with heap:=h'.push (lamObj params body scope eE ((X.mg "__name__").getD .none) cv bx),toks:=tk }:=I.kept (t':=tk) kB;refine k _ H _ _ cv bx I2 (.inl rfl) ?_ sz (I.hok.fresh sz) (s_ _ rfl);obtain⟨c',oc,vs,t,e1,e2,e3,e4⟩:=en _ _ hf;exact⟨c',oc,P,vs,t,e1,e2,e3,e4⟩
 | none =>
  refine PySem.W.kla_makeFunction (mg:=X.mg) cF I.ok.glob hg cH C fq ok hf o5 hb λc' bx h' tk hx kC bI mU o6=>?_
  obtain⟨c2,oc,vs,t,e1,e2,e3,e4⟩:=mU;cases e1;have I1:=J5 (t':=tk) I hP fq ok hx kC e2 e3 e4 o6;have I2:Inv X aa U _ { s with heap:=h'.push (lamObj params body scope eE ((X.mg "__name__").getD .none) (.ref c') bx),toks:=tk }:=I1.kept (t':=tk) λb o e=>c_ _ e
  refine k _ _ _ _ (.ref c') bx I2 (.inr ⟨c',oc,I.hok.fresh kC,rfl⟩) ⟨c',oc,P,vs,t,rfl,qH,e3,e4⟩ (MY kC (OH bI)) ?_ (s_ _ rfl);exact I1.hok.fresh (A_ _)
noncomputable abbrev envL(scope:OG)(L f:i_)(cv:b_)(cl:List (Str×i_)):Env:=PySem.W.envX "few_of.<locals>.<lambda>" scope L f cv cl
noncomputable abbrev cxL(X:Cx)(A:Ni)(scope:OG)(N:List Str)(s:d_)(H:Hp)(f:i_)(cv:b_)(cl:List (Str×i_)):Cx:=
 { X with A:=A.deeper (envL scope s.heap.objs.size f cv cl),N:=N,s₀:=s,H₀:=H,env:=envL scope s.heap.objs.size f cv cl,outer:=X.stack,stack:=envL scope s.heap.objs.size f cv cl::X.stack,ex:=[],fn:=λ_=>false,calm:=true,pn:=[],xe:=λ_ _=>False }
theorem Ih{c0:i_}{g:Str}{bx u uc:b_}{v:V}{t:TE}{Q:VK}{R:b_->d_->Prop}{E:b_->d_->Prop}(I:Inv X aa U H s)(hA:Env0 X.prog X.w X.K X.mg X.base A X.stack s H)(hd:A.handled=none)(kD:A.depth < Ro)(hf:s.heap.get? f=some (lamObj params body scope [(y,c0)] pm cv bx))(aW:Code1 H cv)(o7:∃z,X.env.cells.lookup z=some c0)(cf:s.heap.IsCell c0 (some uc))(rv:RelV v u)(rc:RelV vc uc)(ql:g≠y)(fc:∀u,NB (kla_fn "<lambda>" "few_of.<locals>.<lambda>" params body scope [(y,c0)] pm cv bx) ⟨[u],[]⟩=pure [(g,u)])(hk:scope.kind=.function)(o8:scope.isCoroutine=false)(mV:scope.isGenerator=false)(mW:scope.names.lookup g=some .local)(o9:scope.names.lookup y=some .free)(ir:∀x∈scope.names,x.2≠.cell)(dM:∀x,scope.names.lookup x=some .free->x=y)(hb:PE (cxL X A scope [g,y] s H f cv [(y,c0)]) body t)(ht:t [some v,some vc] H Q)(k:∀u' s',CE X.stack X.prog X.w H s Q u' s'->R u' s'):z_ (m_ X.prog X.w) A (call (.ref f) [u]) R E s:=by
 refine R' (PySem.W.kla_callFunE kD hf rfl o8 mV rfl (aW.rec' I.hok) ?_);rw[fc];refine e_ (Ru ir (λx hx=>by rw[q_.mp hx];exact mW) (λfC fK iB=>⟨(I.nolimit).fresh _ iB,?_⟩) hk);have old:∀b o,s.heap.get? b=some o->fC.get? b=some o:=λb o e=>iB.extBut b o (LW (F_ e)) (c_ _ e)
 have gm:∀x,(envL scope s.heap.objs.size f cv [(y,c0)]).kindOf x=scope.names.lookup x:=λx=>rfl
 have look:∀x d,(envL scope s.heap.objs.size f cv [(y,c0)]).cells.lookup x=some d->x=y/\d=c0:=λx d e=>by
  have e:List.lookup x [(y,c0)]=some d:=e;rw[Qr] at e;by_cases z:x=y
  ·subst z;simp at e;exact⟨rfl,e.symm⟩
  ·have:(x == y)=false:=by simpa using z
   rw[this] at e;cases e
 have own:(envL scope s.heap.objs.size f cv [(y,c0)]).cells.lookup y=some c0:=by
  show List.lookup y [(y,c0)]=some c0;simp
 obtain⟨z0,pc⟩:=o7
 have ok:(cxL X A scope [g,y] s H f cv [(y,c0)]).Ok:=by
  refine⟨hA.mod,hk,rfl,rfl,A_ _,λa b d e1 e2=>?_,λx hx=>?_,λx d z=>(nomatch z),λ_=>hd,Ni.frames_deeper hA.frames,.inr ⟨rfl,rfl⟩,λb z=>(nomatch z),hA.bs,hA.bsz,λb _ _ z=>(nomatch z),λb z=>(nomatch z),hA.funs,hA.frf,hA.tb⟩
  ·rw[(look a d e1).1,(look b d e2).1]
  ·rcases hx with hx | hx
   ·exact absurd rfl (ir _ (PySem.mem_of_lookup hx))
   ·rw[dM x hx];exact⟨c0,own⟩
 have I':Inv (cxL X A scope [g,y] s H f cv [(y,c0)]) [] [some v,some vc] H { s with heap:=fC,toks:=s.toks+1 }:=by
  refine⟨ok,rfl,hA.bare,Un.kept old,⟨_,fK,λi x w e1 e2 e3=>?_⟩,λx d e=>?_,I.hok.fresh (A_ _),λx d e=>?_,λp hp=>(nomatch hp),I.hok.kept old,rfl⟩
  ·match i,e1,e2 with
   | 0,e1,e2 =>
    cases e1;cases e2;exact⟨u,rv,.inl ⟨mW,by simp⟩⟩
   | 1,e1,e2 =>
    cases e1;cases e2;obtain⟨o,ho,bj⟩:=cf;exact⟨uc,rc,.inr ⟨.inr o9,c0,own,o,old _ _ ho,bj⟩⟩
  ·rw[(look x d e).2];obtain⟨o,ho,bj⟩:=cf;exact⟨_,o,old _ _ ho,bj⟩
  ·rw[(look x d e).2];exact I.freeC z0 c0 pc
 refine PySem.W.kla_codeExpr (Mz (hb [] _ _ H Q I' ht) (λv' s' h=>?_) λ_ _ x=>x.elim);obtain⟨v2,H2,I2,r2,q2⟩:=h;refine k v' s' ⟨v2,H2,I2.os,I2.bare,?_,I2.hok,r2,q2⟩;exact I2.base
end
end L2
namespace DL
open PySem PySem.W PySem.Spec PyProof.Rows L2
noncomputable def evK{α:Type}(lt:Nat->Nat->Bool):KasT α->α
 | .ret a=>a
 | .ask i j k=>evK lt (k (lt i j))
theorem A0{α:Type}{n:Nat}{lt:Nat->Nat->Bool}{s:d_}{P:α->Prop}:∀t:KasT α,t.kasWp (askIn n lt) (λa _=>P a) s->t.kasWp (askIn n lt) (λa _=>P a/\a=evK lt t) s
 | .ret a,h=>⟨h,rfl⟩
 | .ask i j k,⟨h1,h2,h3⟩=>⟨h1,h2,A0 (k (lt i j)) h3⟩
theorem zF{α:Type}{n:Nat}{lt:Nat->Nat->Bool}{s:d_}{P:α->Prop}:∀t:KasT α,t.kasWp (askIn n lt) (λa _=>P a) s->P (evK lt t)
 | .ret a,h=>h
 | .ask i j k,⟨h1,h2,h3⟩=>zF (k (lt i j)) h3
noncomputable def ltR(ks:List Int)(i j:Nat):Bool:=decide (ks.getD i 0 < ks.getD j 0)
theorem Bg(ks:List Int):Ord (ltR ks):=⟨λa b h=>by unfold ltR at h ⊢;simp at h ⊢;omega,λa b c h1 h2=>by unfold ltR at h1 h2 ⊢;simp at h1 h2 ⊢;omega⟩
noncomputable def permK(ks:List Int):Array Nat:=if ks.length < 2 then(Nq ks.length).toArray else evK (ltR ks) (Tn ks.length)
theorem sS(s:d_)(ks:List Int):Pm ks.length (permK ks)/\Up (ltR ks) (permK ks) ks.length:=by
 unfold permK;split
 ·exact⟨Rf _,λi j x y=>by omega⟩
 ·rename_i h;exact zF (s:=s) _ (xJ (Bg ks) (by omega))
noncomputable def srtK{α:Type}(d:α)(kz:List Int)(xs:List α):List α:=((permK kz.reverse).toList.map λi=>xs.reverse.getD i d).reverse
theorem EN{α β:Type}(ks:List α)(vs:List β)(h:ks.length=vs.length):(ks.toArray.zip vs.toArray).reverse=ks.reverse.toArray.zip vs.reverse.toArray:=by
 apply Array.toList_inj.mp
 rw[Pa,Array.toList_zip,Array.toList_zip];show(ks.zip vs).reverse=ks.reverse.zip vs.reverse;refine P_ (by simp) λi h1 h2=>?_
 simp at h1;simp[h]
section
variable{prog:B_}{w:J_}{E:b_->d_->Prop}{s:d_}
theorem zz(h:M9 us ms):M9 us.reverse ms.reverse:=by
 induction h with
 | nil=>exact .nil
 | cons n t r ih =>
  rw[Pu,Pu];exact ksk_snoc ih
theorem xU:∀{us:List b_}{ms:List Int},M9 us ms->∀i,i < us.length->∃t,us.getD i b_.none=.int (ms.getD i 0) t
 | _,_,.nil,i,h=>absurd h (RC _)
 | _,_,.cons n t r,0,h=>⟨t,rfl⟩
 | _,_,.cons n t r,i+1,h=>by
  obtain⟨t',e⟩:=xU r i (QV h);exact⟨t',by rw[RW,RW];exact e⟩
theorem IJ{a:i_}{kA:List b_}{e:Nat}{P:PySem.Fin->d_->Prop}(hS:s.heap.get? kS=some (Ml "list" kA.toArray e))(hL:s.heap.get? a=some (Ml "list" #[] e1))(ne:kS≠a)(hk:M9 kA kz)(hl:kz.length=vs.length)(bY:vs.length < 64)(fin:∀h' c,(∀b o,b≠kS->b≠a->s.heap.get? b=some o->h'.get? b=some o)->h'.get? a=some (Ml "list" (srtK b_.none kz vs).toArray c)->P (.done (.ret .none)) { s with heap:=h' }):
  z_ (m_ prog w) A (ksk_end a true vs.toArray e1 (.ref kS) kA.toArray) P E s:=by
 have line:64<=v_:=by rw[Mq];decide
 have lk:kA.length=vs.length:=by rw[hk.length];exact hl
 have lr:kA.reverse.length=vs.reverse.length:=by simp[lk]
 have fB:∀st:G_,(r_ st).map (·.2)=((permK kz.reverse).toList.map λi=>vs.reverse.getD i b_.none).toArray->O4 st=none->z_ (m_ prog w) A (ksk_tail a true e1 (.ref kS) st) P E s:=λst aR aH=>by
  unfold ksk_tail;dsimp only;have kE:(s.heap.update kS (M_ λ_=>(#[]:Array b_))).get? a=some (Ml "list" #[] e1):=(C_ _ _ ne).trans hL;have ak:((r_ st).map (·.2)).reverse=(srtK b_.none kz vs).toArray:=by rw[aR];simp[srtK]
  have sz:((r_ st).map (·.2)).reverse.size<=64:=by
   rw[Array.size_reverse,aR,l_,x_,LS,(sS s kz.reverse).1.size,MC];omega
  refine a_ (NK hS rfl ?_ (by rw[l_];omega) (Me _));refine a_ (MG (a_ (O5 kE rfl ?_)));refine a_ (NK kE rfl ?_ (Me _) (by rw[if_pos rfl];omega));rw[aH];simp only[bne_self_eq_false,MX,if_false];have c2:=Ny kE λ_=>(srtK b_.none kz vs).toArray
  simp only[if_true,ak];exact e_ (fin _ _ (λb o n1 n2 e=>(C_ _ _ (LU n2)).trans ((C_ _ _ (LU n1)).trans e)) c2)
 unfold ksk_end;simp only[↓reduceIte];refine a_ (MZ ?_);rw[EN kA vs lk];by_cases h2:vs.toArray.size < 2
 ·rw[if_pos h2,if_pos h2];refine a_ (e_ (a_ (e_ ?_)));refine fB _ ?_ rfl;rw[l_] at h2
  have e1:permK kz.reverse=(Nq vs.length).toArray:=by
   unfold permK;rw[MC,hl,if_pos h2]
  rw[e1];have:=Bl vs.reverse;unfold byP at this;rw[MC] at this;rw[this];show(kA.reverse.toArray.zip vs.reverse.toArray).map (·.2)=_;refine SS (by simp[lk]) λi h3 h4=>by simp
 ·rw[if_neg h2,if_neg h2];rw[l_] at h2;have kk:Tp kA.toArray=pure M1:=ksk_kind (by simpa using hk) (by rw[l_];omega);rw[kk];have l2:2<=vs.reverse.length:=by rw[MC];omega
  have n1:vs.reverse.length=kz.reverse.length:=by simp[hl]
  refine a_ (e_ (a_ (kat_run (ks:=kA.reverse) (vs:=vs.reverse) (G:=λp s'=>p=permK kz.reverse/\s'=s) (Q:=λst s'=>z_ (m_ prog w) A (ksk_tail a true e1 (.ref kS) st) P E s') lr l2 (by rw[MC];exact bY) (λp st s' hz aR aH h=>?_) ?_)))
  ·obtain⟨rfl,rfl⟩:=h;exact fB st (kat_snds lr aR) aH
  ·have ev:=A0 (s:=s) (Tn vs.reverse.length) (xJ (n:=vs.reverse.length) (Bg kz.reverse) l2);refine uy (n:=vs.reverse.length) (lt:=ltR kz.reverse) (λi j C h1 h2 h3=>?_) (λp hp=>⟨?_,rfl⟩) _ ev
   ·obtain⟨t1,e1⟩:=xU (zz hk) i (by rw[lr];exact h1);obtain⟨t2,e2⟩:=xU (zz hk) j (by rw[lr];exact h2);unfold kas_ask;rw[e1,e2];exact Tr h3
   ·rw[hp.2];unfold permK;rw[←n1,if_neg (by omega)]
end
def keyK(mX:V->Hp->(Int->Hp->Prop)->Prop):List V->Hp->List Int->(List Int->Hp->Prop)->Prop
 | [],H,am,Q=>Q am H
 | x::xs,H,am,Q=>mX x H λk H'=>keyK mX xs H' (am++[k]) Q
def stpL(t:TE)(vc:V):V->Hp->(Int->Hp->Prop)->Prop:=λx H R=>t [some x,some vc] H λv H'=>∃k,v=.int k/\R k H'
section
variable{H:Hp}{s:d_}{body:L8}{t:TE}{g:Str}{c0:i_}{bx:b_}{kb jc:Nat}
structure LamFix(X:Cx)(params:Arguments)(body:L8)(scope:OG)(g y:Str)(c0:i_)(t:TE)(kb jc:Nat):Prop where
 jn:X.N[jc]?=some y
 vis:Vis X.env.scope y
 cel:X.env.kindOf y≠some .local
 cl:X.env.cells.lookup y=some c0
 ne:g≠y
 bind:∀pm cv bx u,NB (kla_fn "<lambda>" "few_of.<locals>.<lambda>" params body scope [(y,c0)] pm cv bx) ⟨[u],[]⟩=pure [(g,u)]
 kind:scope.kind=.function
 co:scope.isCoroutine=false
 gen:scope.isGenerator=false
 lg:scope.names.lookup g=some .local
 ly:scope.names.lookup y=some .free
 no:∀x∈scope.names,x.2≠.cell
 fre:∀x,scope.names.lookup x=some .free->x=y
 body:∀(A:Ni) (s:d_) (H:Hp) (f:i_) (cv:b_),Room kb (A.deeper (envL scope s.heap.objs.size f cv [(y,c0)]))->PE (cxL X A scope [g,y] s H f cv [(y,c0)]) body t
theorem FX(hr:Room (kb+3) X.A)(L:LamFix X params body scope g y c0 t kb jc)(hv:U[jc]?=some (some vc)){a:i_}(rv:Vals xs af)(bY:xs.length < 64)(ne:kS≠a)(nf:f≠kS/\f≠a)(fa:∀H',H' a=none->FpOk X aa H' a)(fk:∀H',H' kS=none->FpOk X aa H' kS)(pf:∀b,b=a\/b=kS\/b=f->b∉frs X.stack){Qf:List Int->Hp->Prop}{P:PySem.Fin->d_->Prop}{E:b_->d_->Prop}(I:Inv X aa U H s)(hf:s.heap.get? f=some (lamObj params body scope [(y,c0)] pm cv bx))(nF:H f=none)(aW:Code1 H cv)(hL:s.heap.get? a=some (Ml "list" #[] e1))(nL:H a=none)(hS:s.heap.get? kS=some (Ml "list" #[] 0))(nS:H kS=none)(kk:keyK (stpL t vc) xs H [] Qf)(fin:∀s' H' kz c,Inv X aa U H' s'->H' a=none->s'.heap.get? a=some (Ml "list" (srtK b_.none kz af).toArray c)->kz.length=xs.length->Qf kz H'->P (.done (.ret .none)) s'):
  z_ (m_ X.prog X.w) X.A.in1.in1 (ksk_rest a (.ref f) true af.toArray e1 (.ref kS)) P E s:=by
 have line:64<=v_:=by rw[Mq];decide
 have lv:=rv.length;unfold ksk_rest;refine a_ (MZ ?_);rw[←Sj,show af.toArray.toList=af from rfl]
 refine a_ (ksk_fold (λi s'=>∃H' kA e am,Inv X aa U H' s'/\s'.heap.get? f=some (lamObj params body scope [(y,c0)] pm cv bx)/\H' f=none/\Code1 H' cv/\s'.heap.get? a=some (Ml "list" #[] e1)/\H' a=none/\s'.heap.get? kS=some (Ml "list" (kA:List b_).toArray e)/\H' kS=none/\M9 kA am/\am.length=i/\keyK (stpL t vc) (xs.drop i) H' am Qf) af 0 s
  ⟨H,[],0,[],I,hf,nF,aW,hL,nL,hS,nS,.nil,rfl,kk⟩ ?step ?done)
 case step =>
  rintro j u s' hu ⟨H',kA,e,am,I,hf,nF,aW,hL,nL,hS,nS,hk,al,kk⟩;rw[N3] at al kk ⊢;have hj:j < xs.length:=by rw[lv];exact(D_.mp hu).1
  rw[LV hj] at kk;obtain⟨u',eW,ru⟩:=rv.get (h_ hj);rw[hu] at eW;cases eW;obtain⟨m,_,lo⟩:=I.loc;obtain⟨uc,rc,lk⟩:=lo jc y vc L.jn hv L.vis
  have cf:s'.heap.IsCell c0 (some uc):=by
   rcases lk with⟨z,_⟩ | ⟨_,c,z,q⟩
   ·exact absurd z L.cel
   ·rw[L.cl] at z;cases z;exact q
  have r2:Room (kb+1) X.A.in1.in1:=hr.in1.in1;refine a_ (No (Ih I I.env0.in1.in1 r2.hd (by have:=r2.dp;omega) hf aW ⟨y,L.cl⟩ cf ru rc L.ne (λu=>L.bind pm cv bx u) L.kind L.co L.gen L.lg L.ly L.no L.fre (L.body _ s' H' f cv (r2.deeper _)) kk λu2 s2 ce=>?_));obtain⟨v2,H2,os,bare,un,hok,rr,k,rfl,pg⟩:=ce;obtain⟨hh,gg,dd,tt,gj⟩:=s2;obtain rfl:gj=s'.os:=os;obtain⟨tk,rfl⟩:=rr;have I2:=I.call (h':=hh) (g':=gg) (d':=dd) (t':=tt) (ch:=[]) un hok bare (λb z=>absurd z (by simp));have kp:∀b o,(b=a\/b=kS\/b=f)->s'.heap.get? b=some o->H' b=none->hh.get? b=some o/\H2 b=none:=λb o hb e n=>⟨un.keep b o e n (pf b hb) (by simp),un.free b o e n (by simp)⟩
  have iS:=kp kS _ (.inr (.inl rfl)) hS nS;have mY:=kp a _ (.inl rfl) hL nL;have mZ:=kp f _ (.inr (.inr rfl)) hf nF;have qm:kA.length=j:=by rw[hk.length];exact al
  dsimp only;refine a_ (NK (s:={ heap:=hh,gens:=gg,drawn:=dd,toks:=tt,os:=s'.os }) iS.1 rfl ?_ (by rw[l_];omega) (by rw[Pn,l_];omega))
  obtain⟨c2,c9⟩:∃c2,(hh.update kS (M_ (·.push (b_.int k tk)))).get? kS=some (Ml "list" (kA++[b_.int k tk]).toArray c2):=⟨_,by
   have:(kA++[b_.int k tk]).toArray=kA.toArray.push (.int k tk):=by simp
   rw[this]
   exact Ny iS.1 _⟩
  have nz:∀{b:i_}{o:Obj},b≠kS->hh.get? b=some o->(hh.update kS (M_ (·.push (b_.int k tk)))).get? b=some o:=λne e=>(C_ _ _ (LU ne)).trans e
  have I3:Inv X aa U H2 { heap:=hh.update kS (M_ (·.push (b_.int k tk))),gens:=gg,drawn:=dd,toks:=tt,os:=s'.os }:=t6 (s:={ heap:=hh,gens:=gg,drawn:=dd,toks:=tt,os:=s'.os }) (t':=tt) I2 (ch:=[kS]) (λb hb=>by rw[q_.mp hb];exact fk _ iS.2) λb u hb e=>nz (by simpa using hb) e
  have m8:Code1 H2 cv:=by
   obtain⟨c,oc,P,vs,t,q1,q2,q3⟩:=aW;exact⟨c,oc,P,vs,t,q1,un.frzs _ _ _ q2,q3⟩
  exact e_ ⟨rfl,H2,kA++[.int k tk],c2,am++[k],I3,nz nf.1 mZ.1,mZ.2,m8,nz (LU ne) mY.1,mY.2,c9,iS.2,ksk_snoc hk,by simp[al],pg⟩
 case done =>
  rintro s' ⟨H',kA,e,am,I,hf,nF,aW,hL,nL,hS,nS,hk,al,kk⟩;rw[N3] at al kk;rw[ND (by omega)] at kk;refine a_ (Q0 hS rfl ?_);refine IJ hS hL ne hk (by omega) (by omega) λh' c keep aG=>?_
  have I2:Inv X aa U H' { s' with heap:=h' }:=t6 (t':=s'.toks) I (ch:=[kS,a]) (λb hb=>by
   simp only[n_,M2,or_false] at hb
   rcases hb with h | h
   ·rw[h];exact fk _ nS
   ·rw[h];exact fa _ nL) λb u hb e=>by
   simp only[n_,M2,or_false,not_or] at hb;exact keep b u hb.1 hb.2 e
  exact fin _ H' am c I2 nL aG (by omega) kk
end
theorem Gf(kz:List Int)(ds:List D):srtK .non kz ds=(permD (permK kz.reverse) ds.reverse).reverse:=rfl
theorem Dc(kz:List Int)(xs:List V):srtK .non kz xs=(permV (permK kz.reverse) xs.reverse).reverse:=rfl
theorem GW{α:Type}{d:α}{xs:List α}(s:d_):(srtK d kz xs).length=kz.length:=by
 unfold srtK;rw[MC,x_,LS,(sS s kz.reverse).1.size,MC]
theorem F1(s:d_)(rv:Vals xs af)(hl:kz.length=xs.length):Vals (srtK .non kz xs) (srtK b_.none kz af):=by
 have r2:=Vals.rev rv;have l2:=r2.length;unfold srtK;refine Vals.rev (uB (by simp) λi x u e1 e2=>?_);obtain⟨j,f1,rfl⟩:=getMap e1;obtain⟨j',f2,rfl⟩:=getMap e2;rw[f1] at f2;cases f2
 have hj:j < xs.reverse.length:=by
  have h1:j∈(permK kz.reverse).toList:=Mf f1;have h2:=(Ms.mp (sS s kz.reverse).1).mem_iff.mp h1;simp at h2;simp;omega
 obtain⟨u,g1,g2⟩:=r2.get (h_ hj);rw[p_,p_,h_ hj,g1];exact g2
section
variable{H:Hp}{s:d_}{body:L8}{t:TE}{g:Str}{c0:i_}{bx:b_}{kb jc:Nat}
theorem nofr(I:Inv X aa U H s){b:i_}(h:s.heap.objs.size<=b):b∉frs X.stack:=λz=>by
 rcases n_.mp (I.stkSub b z) with e | e
 ·exact absurd I.lt (by rw[←e];exact TR.mpr h)
 ·exact I.nofs h e
theorem yw(hr:Room (kb+3) X.A)(L:LamFix X params body scope g y c0 t kb jc)(hv:U[jc]?=some (some vc))(I:Inv X aa U H s)(hf:s.heap.get? f=some (lamObj params body scope [(y,c0)] pm cv bx))(nF:H f=none)(ff:f∉frs X.stack)(aW:Code1 H cv){l:i_}(hq:SqL X.K H l xs)(bY:xs.length < 64){Q:VK}(kk:keyK (stpL t vc) xs H [] λkz H'=>∀d,H' d=none->Q (.ref d) (upd H' d (.lst (srtK .non kz xs)))):
  z_ (m_ X.prog X.w) X.A (call (.builtin "sorted") [.ref l] [(NC "key", .ref f),(NC "reverse", .bool true)]) (EP X aa U Q) X.xe s:=by
 have line:64<=v_:=by rw[Mq];decide
 obtain⟨af,rv,tl,hz⟩:=I.list hq;have lv:=rv.length;refine call_function_entry_kw SZ Sz SA (ksk_s2 _ _ _) ?_;refine a_ (m:=Tq "sorted" 1 1 _) (e_ (a_ (collect_list tl.isList ?_ (by omega))));obtain⟨g0,kF⟩:∃g0,g0=(s.heap.push (Ml "list" #[] 0)).update s.heap.objs.size (M_ (·++af.toArray)):=⟨_,rfl⟩;have k0:∀b o,s.heap.get? b=some o->g0.get? b=some o:=λb o e=>by rw[kF];exact(C_ _ _ (Om (F_ e))).trans (c_ _ e)
 have z0:g0.objs.size=s.heap.objs.size+1:=by rw[kF,RA,M8]
 rw[←kF];refine a_ (Os ?_ (by omega));obtain⟨a,ea⟩:∃a,a=g0.objs.size:=⟨_,rfl⟩;obtain⟨g1,cn⟩:∃g1,g1=g0.push (Ml "list" af.toArray 0):=⟨_,rfl⟩;have o1:g1.get? a=some (Ml "list" af.toArray 0):=by rw[cn,ea];exact s_ _ rfl
 have z1:g1.objs.size=g0.objs.size+1:=by rw[cn,M8]
 show z_ _ _ _ _ _ { s with heap:=g0.push (Ml "list" af.toArray 0) };rw[←cn,←ea];refine a_ (LX (wpAny_call_entry_kw slot_list_sort ⟨_,o1,rfl⟩ entry_list_sort ?_ (ksk_l2 _ _ _)));rw[ksk_t2];unfold ksk_tree;refine a_ (Q0 o1 rfl (a_ (NK o1 rfl ?_ (by rw[l_];omega) (Me _))));obtain⟨g2,cq⟩:∃g2,g2=g1.update a (M_ λ_=>(#[]:Array b_)):=⟨_,rfl⟩;obtain⟨e1,o2⟩:∃e1,g2.get? a=some (Ml "list" #[] e1):=⟨_,by rw[cq];exact Ny o1 _⟩;have z2:g2.objs.size=g1.objs.size:=by rw[cq,RA]
 rw[←cq];refine a_ (O5 o2 rfl (a_ (ON (a_ (Os (LX ?_) (Me _))) (by show af.length<=_;omega))));obtain⟨g3,iT⟩:∃g3,g3=g2.push (Ml "tuple" af.toArray 0):=⟨_,rfl⟩;obtain⟨kS,ek⟩:∃kS,kS=g3.objs.size:=⟨_,rfl⟩;obtain⟨g4,eD⟩:∃g4,g4=g3.push (Ml "list" #[] 0):=⟨_,rfl⟩;have z3:g3.objs.size=g2.objs.size+1:=by rw[iT,M8]
 show z_ _ _ (ksk_rest a (.ref f) true af.toArray e1 (.ref (g2.push (Ml "tuple" af.toArray 0)).objs.size)) _ _ { s with heap:=(g2.push (Ml "tuple" af.toArray 0)).push (Ml "list" #[] 0) };rw[←iT,←ek,←eD]
 have keep:∀b o,s.heap.get? b=some o->g4.get? b=some o:=λb o e=>by
  have nb:b≠a:=by rw[ea,z0];exact LW (N5 (F_ e))
  rw[eD,iT,cq];refine c_ _ (c_ _ ((C_ _ _ (LU nb)).trans ?_));rw[cn];exact c_ _ (k0 b o e)
 have I4:Inv X aa U H { s with heap:=g4 }:=I.kept (t':=s.toks) keep;have hJ:s.heap.objs.size<=a:=by rw[ea,z0];exact RM _
 have iU:s.heap.objs.size<=kS:=by rw[ek,z3,z2,z1,z0];omega
 have ph:kS≠a:=by rw[ek,ea,z3,z2,z1];omega
 have m9:f < s.heap.objs.size:=F_ hf;refine FX hr L hv rv bY ph ⟨LW (H_ m9 iU),LW (H_ m9 hJ)⟩ (λH' n=>I.fpOk hJ n) (λH' n=>I.fpOk iU n) (λb hb=>?_) I4 (keep _ _ hf) nF aW ?_ (I.hok.fresh hJ) ?_ (I.hok.fresh iU) kk λs' H' kz c I' nL aG kl q=>?_
 ·rcases hb with h | h | h
  ·rw[h];exact nofr I hJ
  ·rw[h];exact nofr I iU
  ·rw[h];exact ff
 ·show g4.get? a=_;rw[eD,iT];exact c_ _ (c_ _ o2)
 ·show g4.get? kS=_;rw[eD,ek];exact s_ _ rfl
 ·refine⟨_,rfl,e_ ⟨_,rfl,.ref a,_,zP (o:=.lst (srtK .non kz xs)) I' (I.fpOk hJ nL) ⟨by rw[GW s,kl];omega,srtK b_.none kz af,c,F1 s rv kl,aG⟩,rfl,q a nL⟩⟩
variable{B:BB}{p dB iV fT cp:Pos}{jx:Option Str}
end
section
variable{body:L8}{t:TE}{g:Str}{c0:i_}{kb jc:Nat}{B:BB}{p dB iV fT cp:Pos}{jx:Nat}
noncomputable def tSortL(X:Cx)(t:TE)(jc:Nat)(te:TE):TE:=λU H Q=>te U H λx H1=>∃l xs vc,x=.ref l/\U[jc]?=some (some vc)/\SqL X.K H1 l xs/\xs.length < 64 ∧
 keyK (stpL t vc) xs H1 [] (λkz H'=>∀d,H' d=none->Q (.ref d) (upd H' d (.lst (srtK .non kz xs)))) ∧
 ∀c' o,H1 c'=none->SqL X.K (upd H1 c' o) l xs/\keyK (stpL t vc) xs (upd H1 c' o) [] (λkz H'=>∀d,H' d=none->Q (.ref d) (upd H' d (.lst (srtK .non kz xs))))
theorem HX{c P:i_}(hr:Room (kb+3) X.A)(hg:Gl X "sorted")(hm:X.mg "sorted"=none)(L:LamFix X params body scope g y c0 t kb jc)(ht:OF X.K "few_of"=some (c,P))(cH:X.env.code=.ref c)(hq:X.env.qual = "few_of.<locals>.")(eF:Tz params X.env=([],[]))(cF:QX scope X.env=pure [(y,c0)])(he:PE X e te)(hs:Mp pos (f_ [e] X.env)=(false,Mm e X.env)::Mp pos (f_ [] X.env):=by rfl)(hp:(Mp pos (f_ [e] X.env)).any (·.1)=false:=by rfl):
  PE X (.Call (.Name "sorted" p) [e] [⟨some "key", .Lambda params body scope dB,iV⟩,⟨some "reverse", .Constant (.bool true) jx cp,fT⟩] pos) (tSortL X t jc te):=by
 intro aa s U H Q I h;refine M6 (rC I hg hm S0 (callWith_kw ?_ hs hp) (by decide) (by decide));rw[hs];refine Nt (thn (he aa s U H _ I h) λv s1 ⟨x,H1,I1,r1,l,xs,vc,ex,hv,iw,bY,kk,nc⟩=>NA (kws_cons ?_));subst ex;cases r1;refine Jo I1 ht cH hq eF cF λf H' s' pm cv bx I2 hH aW ng nF hf=>kws_cons (Constant_bool (kws_nil ?_))
 rcases hH with rfl | ⟨c',oc,n,rfl⟩
 ·exact yw hr L hv I2 hf nF (nofr I1 ng) aW iw bY kk
 ·exact yw hr L hv I2 hf nF (nofr I1 ng) aW (nc c' _ n).1 bY (nc c' _ n).2
noncomputable def B0:BB:=λ_=>none
noncomputable def keysL(el:M D)(dc:D):List D->Option (List Int)
 | []=>some []
 | d::ds=>match el [some (.val d),some (.val dc)] with
  | some (.int k,_)=>match keysL el dc ds with
   | some kz=>some (k::kz)
   | none=>none
  | _=>none
noncomputable def sortLF(el:M D)(d dc:D):Option (List D):=match d with
 | .lst ds=>match keysL el dc ds with
  | some kz=>if ds.length < 64 then some (srtK .non kz ds) else none
  | none=>none
 | _=>none
noncomputable def valAt(j:Nat):M D:=λZ=>match Z[j]? with
 | some (some (.val d))=>some (d,Z)
 | _=>none
noncomputable def sortLam(j:Nat)(el ga:M D):M (List D):=bnd ga λd=>bnd (valAt j) λdc=>lft (sortLF el d dc)
theorem Co{K:PySem.W.Frag}{H:Hp}{dc:D}{v:V}(iH:Same I H)(hd:Is K I d v)(hc:Is K I dc vc):Rep K B0 H I H [some v,some vc] [some (.val d),some (.val dc)] where
 iH:=iH
 gH:=Same.refl _
 len:=rfl
 slot:=λi r e=>by
  match i,e with
  | 0,e=>cases e;exact⟨v,rfl,hd⟩
  | 1,e=>cases e;exact⟨vc,rfl,hc⟩
 dist:=λi j r r' w e e' m=>by
  match i,e with
  | 0,e=>cases e;cases m
  | 1,e=>cases e;cases m
 bor:=λi ds e=>by
  match i,e with
  | 0,e=>cases e
  | 1,e=>cases e
theorem AC{el:M D}{dc:D}:∀{ds:List D}{kz:List Int},keysL el dc ds=some kz->kz.length=ds.length
 | [],kz,h=>by cases h;rfl
 | d::ds,kz,h=>by
  unfold keysL at h;split at h
  ·split at h
   ·rename_i e;cases h;simp[AC e]
   ·cases h
  ·cases h
theorem BP{K:PySem.W.Frag}{G:Hp}{Z:Gm}{U:L2.St}{el:M D}{dc:D}{vc:V}{Qf:List Int->Hp->Prop}:∀(ds:List D) (xs:List V) (H I:Hp) (am kz:List Int),IsA K I ds xs->Is K I dc vc->Rep K B G I H U Z->keysL el dc ds=some kz →
  (∀H' I',Rep K B G I' H' U Z->Grow G I I'->Qf (am++kz) H')->keyK (stpL (tD K B0 el) vc) xs H am Qf
 | [],xs,H,I,am,kz,ha,hc,r,h,k=>by
  rw[ha.nil_inv];cases h;have:=k H I r (Grow.refl _ _);rw[M5] at this;exact this
 | d::ds,xs,H,I,am,kz,ha,hc,r,h,k=>by
  obtain⟨x,xr,rfl,h1,h2⟩:=ha.cons_inv;unfold keysL at h;split at h
  ·rename_i n ao e1;split at h
   ·rename_i kr e2;cases h;refine⟨H,I,_,_,_,Co r.iH h1 hc,e1,λv H' I' r' g' hv=>⟨n,qD hv,?_⟩⟩;have rx:Rep K B G I' H' U Z:=r.ext g'.up r'.gH r'.iH g'.new;refine BP ds xr H' I' (am++[n]) kr (h2.mono g'.up) (hc.mono g'.up) rx e2 λH2 I2 r2 g2=>?_
    have:=k H2 I2 r2 ((show Grow G I I' from⟨g'.up,λb o e=>(g'.new b o e).imp id λhn=>r.gFree hn⟩).trans g2);rw[MR];exact this
   ·cases h
  ·cases h
theorem G6{K:PySem.W.Frag}(s:d_)(h:IsA K I ds xs)(hl:kz.length=ds.length):IsA K I (srtK .non kz ds) (srtK .non kz xs):=by
 rw[Gf,Dc];refine IsA.reverse (IsA.perm h.reverse ?_);have:=(sS s kz.reverse).1;rw[MC,hl] at this;rw[MC];exact this
theorem Io{ga:M D}{c P:i_}(hr:Room (kb+3) X.A)(hg:Gl X "sorted")(hm:X.mg "sorted"=none)(L:LamFix X params body scope g y c0 (tD X.K B0 el) kb jc)(ht:OF X.K "few_of"=some (c,P))(cH:X.env.code=.ref c)(hq:X.env.qual = "few_of.<locals>.")(eF:Tz params X.env=([],[]))(cF:QX scope X.env=pure [(y,c0)])(he:ED X B e ga)(hs:Mp pos (f_ [e] X.env)=(false,Mm e X.env)::Mp pos (f_ [] X.env):=by rfl)(hp:(Mp pos (f_ [e] X.env)).any (·.1)=false:=by rfl):
  EO X B (.Call (.Name "sorted" p) [e] [⟨some "key", .Lambda params body scope dB,iV⟩,⟨some "reverse", .Constant (.bool true) jx cp,fT⟩] pos) (sortLam jc el ga):=PE.imp (HX hr hg hm L ht cH hq eF cF he hs hp) λU H Q q=>by
 obtain⟨G,I,Z,d,ah,r,e1,kk⟩:=q;obtain⟨d1,ae,e2,e3⟩:=pS e1;obtain⟨dc,ao,e4,e5⟩:=pS e3;obtain⟨e6,rfl⟩:=qI e5;refine⟨G,I,Z,d1,ae,r,e2,λv H1 I1 r1 g1 hd=>?_⟩;unfold valAt at e4;split at e4
 ·rename_i d2 sl;cases e4;obtain⟨vc,hv,pi⟩:=r1.slot jc _ sl;unfold sortLF at e6;split at e6
  ·rename_i ds;split at e6
   ·rename_i kz ek;obtain⟨bY,rfl⟩:=qQ e6;obtain⟨l,xs,rfl,h3,h4⟩:=qJ hd;have n1:=h4.length;have kl:=AC ek
    have go:∀H2,Rep X.K B G I1 H2 U ah->keyK (stpL (tD X.K B0 el) vc) xs H2 [] (λkz H'=>∀d,H' d=none->Q (.ref d) (upd H' d (.lst (srtK .non kz xs)))):=λH2 r2 =>
     BP ds xs H2 I1 [] kz h4 pi r2 ek λH' I' r' g' l' hl=>(kk.after (g1.trans g')).new r' hl (G6 {} (h4.mono g'.up) kl)
    refine⟨l,xs,vc,rfl,hv,(Same.rdK r1.iH h3).sq,by omega,go H1 r1,λc' o n=>⟨?_,go _ (r1.fresh n o)⟩⟩;exact(Same.rdK (r1.fresh n o).iH h3).sq
   ·cases e6
  ·cases e6
 ·cases e4
end
end DL
namespace DL
open PySem PySem.Spec PyProof.Rows L2
section
variable{P:B_}{w:J_}{K:PySem.W.Frag}
theorem Ho{c:i_}(hn:nsIn K My "few_of"=some (some (.ref f)))(ht:OF K "few_of"=some (c,P'))(lk:K.lookup f=some ⟨oc,od,.func fd,c7⟩):fd.code=.ref c:=by
 unfold OF at ht;rw[hn] at ht;dsimp only at ht;rw[lk] at ht;dsimp only at ht;split at ht
 ·rename_i e;split at ht
  ·split at ht
   ·cases ht;exact e
   ·cases ht
  ·cases ht
 ·cases ht
theorem Hh{x:Str}{st:Nc}{c:i_}{k:Nat}(F:Fun K x qual st f fd)(S:FnScope N ps (defScope st))(hn:nsIn K My "few_of"=some (some (.ref f)))(ht:OF K "few_of"=some (c,P'))(len:∀vs H Q E,sp vs H Q E->vs.length=ps.length)(c8:∀(ay:b_),ay=.ref c->∀(A:Ni) (outer:List Env) (s:d_) (H:Hp) (vs:List V) (Q:VK) (E:XK),Room k (A.deeper (PQ qual (defScope st) s.heap.objs.size f ay))->sp vs H Q E →
   ∃t,PSs (cxOf CX0 P w K mg base N qual (defScope st) f ay A outer s H E).nox (defBody st) t/\t { nx:=λ_ H'=>Q .non H',rt:=Q } (start N vs) H):FnOk P w K mg base CX0 (k+1) f fd ps sp:=by
 obtain⟨oc,od,kV,bQ,pm,an,ay,ct,c7,rfl,lk,aW⟩:=F.ex;refine yz lk aW S len λA outer s H vs Q E hr dD=>?_
 obtain⟨t,h,q⟩:=c8 ay (Ho hn ht lk) A outer s H vs Q E hr dD;exact⟨t,h.nox,q⟩
theorem EW{x:Str}{c:i_}{st:Nc}{k:Nat}(F:Fun K x qual st f fd)(S:FnScope N ps (defScope st))(hn:nsIn K My "few_of"=some (some (.ref f)))(ht:OF K "few_of"=some (c,P'))(g:M Fl)(hb:∀(ay:b_),ay=.ref c->∀(A:Ni) (outer:List Env) (s:d_) (H:Hp) (E:XK) (B:BB),Room k (A.deeper (PQ qual (defScope st) s.heap.objs.size f ay)) →
   SDs (cxOf CX0 P w K mg base N qual (defScope st) f ay A outer s H E).nox B (defBody st) g):FnOk P w K mg base CX0 (k+1) f fd ps (spD K (fnD N.length ps.length g)):=by
 refine Hh F S hn ht (λvs H Q E h=>?_) (λay aW A outer s H vs Q E hr h=>?_)
 ·obtain⟨_,_,rs,_,_,h1,_,h2,_⟩:=h;unfold fnD at h2;by_cases hc:rs.length=ps.length
  ·rw[←hc];simpa using h1.len
  ·rw[if_neg hc] at h2;cases h2
 ·obtain⟨G,I,rs,r,bf,h2,h3,h4,h5⟩:=h;have hl:vs.length=rs.length:=by simpa using h2.len
  refine⟨_,hb ay aW A outer s H E (λi=>(L2.start N vs)[i]?) hr,?_⟩;unfold fnD at h4
  have hc:rs.length=ps.length:=by
   by_cases hc:rs.length=ps.length
   ·exact hc
   ·rw[if_neg hc] at h4;cases h4
  rw[if_pos hc] at h4;unfold fnD1 at h4;cases e1:g (rs.map some++Mw (N.length - rs.length) none) with
  | none=>rw[e1] at h4;cases h4
  | some q =>
   obtain⟨fl,ah⟩:=q;rw[e1] at h4;dsimp only at h4;cases e2:flR fl with
   | none=>rw[e2] at h4;cases h4
   | some rr =>
    rw[e2] at h4;dsimp only at h4;cases e3:fin rs ah with
    | none=>rw[e3] at h4;cases h4
    | some l =>
     rw[e3] at h4;obtain⟨rfl,rfl⟩:rr=r/\l=bf:=by cases h4;exact⟨rfl,rfl⟩
     have dP:∀{i:Nat}{v:V},vs[i]?=some v->(L2.start N vs)[i]?=some (some v):=λ{i v} e=>by
      unfold L2.start;rw[MT (by rw[x_];exact(D_.mp e).1),E_,e];rfl
     have eU:∀{i:Nat}{v:V},(L2.start N vs)[i]?=some (some v)->vs[i]?=some v:=λ{i v} e=>sx e
     have gD:Rep K (λi=>(L2.start N vs)[i]?) G I H (L2.start N vs) (rs.map some++Mw (N.length - rs.length) none):={
      iH:=h2.iH,gH:=h2.gH
      len:=by unfold L2.start;rw[LY,LY,x_,x_,L7,L7,hl]
      slot:=λi q e=>by
       have e':=sx e;obtain⟨v,e4,e5⟩:=h2.slot i q (by rw[E_,e'];rfl);obtain⟨v',e6,e7⟩:=getMap e4;cases e7;exact⟨v,dP e6,e5⟩
      dist:=λi j q q' v e e' m m' s1 s2=>h2.dist i j q q' v (by rw[E_,sx e];rfl) (by rw[E_,sx e'];rfl) m m' (by rw[E_,eU s1];rfl) (by rw[E_,eU s2];rfl)
      bor:=λi ds e=>rfl }
     obtain⟨f1,f2⟩:=vL e3
     -- behind the body
     have dh:∀{au:L2.St}{H' I':Hp},Rep K (λi=>(L2.start N vs)[i]?) G I' H' au ah->Grow G I I'->Rep K (vB vs) G I' H' (vs.map some) (l.map some):=λ{au H' I'} r' g'=>{
      iH:=r'.iH,gH:=r'.gH
      len:=by rw[x_,x_,f1,hl]
      slot:=λi q e=>by
       obtain⟨q',e4,e5⟩:=getMap e;cases e5
       rcases f2 i q e4 with⟨d,rfl,e6⟩ | ⟨ds,rfl,e6⟩
       ·obtain⟨v,e7,e8⟩:=h2.slot i (.val d) (by rw[E_,e6];rfl);exact⟨v,e7,Is.mono g'.up e8⟩
       ·obtain⟨v,e7,e8⟩:=r'.slot i _ e6;have e9:=r'.bor i ds e6;rw[e7] at e9;exact⟨v,by rw[E_,eU e9.symm];rfl,e8⟩
      dist:=λi j q q' v e e' m m' s1 s2=>by
       obtain⟨_,e4,e5⟩:=getMap e;cases e5;obtain⟨_,e6,e7⟩:=getMap e';cases e7
       rcases f2 i q e4 with⟨d,rfl,_⟩ | ⟨ds,rfl,e8⟩
       ·cases m
       rcases f2 j q' e6 with⟨d,rfl,_⟩ | ⟨iz,rfl,e9⟩
       ·cases m'
       obtain⟨v1,a1,_⟩:=getMap s1;obtain⟨v2,a2,a3⟩:=getMap s2;have b1:=r'.bor i ds e8;have b2:=r'.bor j iz e9;rename_i b3;cases b3;cases a3;rw[dP a1] at b1;rw[dP a2] at b2;exact r'.dist i j _ _ v e8 e9 rfl rfl b1 b2
      bor:=λi ds e=>rfl }
     have ap:∀{au:L2.St}{H' I':Hp}{p:i_},Rep K (λi=>(L2.start N vs)[i]?) G I' H' au ah->Apart au ah p->Apart (vs.map some) (l.map some) p:=λ{au H' I' p} r' a i q e m z=>by
      obtain⟨_,e4,e5⟩:=getMap e;cases e5
      rcases f2 i q e4 with⟨d,rfl,_⟩ | ⟨ds,rfl,e8⟩
      ·cases m
      obtain⟨v1,a1,a2⟩:=getMap z;cases a2;exact a i _ e8 rfl ((r'.bor i ds e8).trans (dP a1))
     refine⟨G,I,_,fl,ah,gD,e1,λau H' I' r' g'=>?_⟩;cases fl with
     | nx=>cases e2;exact h5 _ H' I' (dh r' g') g' (show Is K I' D.non V.non from Is.non)
     | bk=>cases e2
     | ct=>cases e2
     | rt r0 =>
      cases e2;intro v hv;refine h5 v H' I' (dh r' g') g' ?_;cases rr with
      | val d=>exact hv
      | bor d=>exact hv
      | fro d=>exact hv
      | dic d =>
       obtain⟨p,xs,b1,b2,b3,b4,b5,b6⟩:=hv;exact⟨p,xs,b1,b2,b3,b4,ap r' b5,b6⟩
      | own d =>
       obtain⟨p,xs,b1,b2,b3,b4,b5,b6⟩:=hv;exact⟨p,xs,b1,b2,b3,b4,ap r' b5,b6⟩
end
section
variable{body:L8}{g:Str}{c0:i_}{kb jc:Nat}
theorem E8(jn:X.N[jc]?=some y)(cl:X.env.cells.lookup y=some c0)(hb:∀(A:Ni) (s:d_) (H:Hp) (f:i_) (cv:b_),Room kb (A.deeper (envL scope s.heap.objs.size f cv [(y,c0)]))->ED (cxL X A scope [g,y] s H f cv [(y,c0)]) B0 body el)(hk:X.env.scope.names.lookup y=some .cell:=by rfl)(ne:g≠y:=by decide)(mL:∀pm cv bx u,NB (kla_fn "<lambda>" "few_of.<locals>.<lambda>" params body scope [(y,c0)] pm cv bx) ⟨[u],[]⟩=pure [(g,u)]:=by intros;rfl)(k1:scope.kind=.function:=by rfl)(k2:scope.isCoroutine=false:=by rfl)(k3:scope.isGenerator=false:=by rfl)(lg:scope.names.lookup g=some .local:=by rfl)(ly:scope.names.lookup y=some .free:=by rfl)(no:∀x∈scope.names,x.2≠.cell:=by decide +kernel)(fre:∀x∈scope.names,x.2=.free->x.1=y:=by decide +kernel):LamFix X params body scope g y c0 (tD X.K B0 el) kb jc:=
 ⟨jn,.inr (.inl hk),(λz=>by
  have z:X.env.scope.names.lookup y=some .local:=z;rw[hk] at z
  cases z),cl,ne,mL,k1,k2,k3,lg,ly,no,λx h=>fre _ (PySem.mem_of_lookup h) rfl,hb⟩
end
end DL
namespace DL
open PySem PySem.W PySem.Spec PyProof.Rows L2
section
variable{B:BB}{a b c c':L8}{ga gb gc gd:M D}
theorem JR{kG hU:CmpOp}{r r':R2}{ta tc td:TE}(ho:OpR X (MS op) r)(bK:OpR X (MS kG) r')(ni:OpR X (MS hU) fh)(ha:PE X a ta)(hb:PE X b tb)(hc:PE X c tc)(hd:PE X c' td)(hm:lastMarks [op,kG,hU] [b,c,c']=false:=by with_unfolding_all rfl):PT X (.Compare a [op,kG,hU] [b,c,c'] pos) (tTest (tChain3 r r' fh ta tb tc td)):=by
 intro aa s U H Q I h
 refine isTrue_chain (thn (ha aa s U H _ I h) λv s1 ⟨x,H1,I1,r1,q1⟩=>test_link (thn (hb aa s1 U H1 _ I1 q1) λu s2 ⟨y,H2,I2,r2,q2⟩ =>
  thn (ho aa s2 U H2 x y v u _ I2 r1 r2 q2) λd s3 ⟨z,H3,I3,r3,k,e,q3⟩=>?_)) hm
 subst e;cases r3;refine Mx ?_;cases k with
 | false =>
  obtain⟨k',e',q'⟩:=q3;cases e';exact ite_ff ⟨H3,I3,q'⟩
 | true =>
  refine ite_tt (test_link (thn (hc aa s3 U H3 _ I3 q3) λu' s4 ⟨y',H4,I4,r4,q4⟩=>thn (bK aa s4 U H4 y y' u u' _ I4 r2 r4 q4) λd' s5 ⟨z',H5,I5,r5,k',e',q5⟩=>?_));subst e';cases r5;refine Mx ?_;cases k' with
  | false =>
   obtain⟨k2,e2,q'⟩:=q5;cases e2;exact ite_ff ⟨H5,I5,q'⟩
  | true =>
   refine ite_tt (test_last (thn (hd aa s5 U H5 _ I5 q5) λw' s6 ⟨z3,H6,I6,r6,q6⟩=>thn (ni aa s6 U H6 y' z3 u' w' _ I6 r4 r6 q6) λd' s7 ⟨z2,H7,I7,r7,k2,e2,q7⟩=>?_));subst e2;cases r7;exact Mx ⟨H7,I7,q7⟩
theorem Hy(ha:ED X B a ga)(hb:ED X B b gb)(hc:ED X B c gc)(hd:ED X B c' gd)(hm:lastMarks [.Lt,.LtE,.Lt] [b,c,c']=false:=by with_unfolding_all rfl):TD X B (.Compare a [.Lt,.LtE,.Lt] [b,c,c'] pos) (tst (chn3 ltI leI ltI ga gb gc gd)):=PT.imp (JR xz Dt xz ha hb hc hd hm) (t8 (G8 sV sV sV))
end
theorem IsK.cons_mk{K:PySem.W.Frag}{a:Int}{v:V}{aj:List (Int×D)}{xs:List (Key×V)}(hd:Is K I d v)(h:IsK K I aj xs):IsK K I ((a,d)::aj) ((L_ a,v)::xs):=⟨by simp[h.1],IsA.cons hd h.2⟩
theorem IsK.remap{K:PySem.W.Frag}{I:Hp}{k:Int}{d:D}{v:V}(hd:Is K I d v):∀{aj:List (Int×D)}{xs:List (Key×V)},IsK K I aj xs->IsK K I (aj.map λp=>if p.1=k then(p.1,d) else p) (xs.map λp=>if p.1=L_ k then(p.1,v) else p)
 | [],xs,h=>by rw[h.nil_inv];exact IsK.nil
 | p::aj,xs,h=>by
  obtain⟨w,r,rfl,h1,h2⟩:=h.cons_inv;rw[K_,K_];have ih:=IsK.remap (k:=k) hd h2;by_cases e:p.1=k
  ·rw[if_pos e,if_pos (show(L_ p.1:Key)=L_ k by rw[e])];exact IsK.cons_mk hd ih
  ·rw[if_neg e,if_neg (show ¬(L_ p.1:Key)=L_ k from λz=>e (L_.inj z))];exact IsK.cons_mk h1 ih
noncomputable def putGF(n d:D)(aj:List (Int×D)):Option (List (Int×D)):=match n with
 | .int k=>if aj.length < lim then some (if(valD aj k).isSome=true then aj.map (λp=>if p.1=k then(p.1,d) else p) else aj++[(k,d)]) else none
 | _=>none
noncomputable def putG(i:Nat)(gk gv:M D):M Fl:=bnd gv λd=>bnd (lookK i) λ_=>bnd gk λn=>wrK i (putGF n d)
theorem Ci{B:BB}{k:L8}{kr i:Nat}{x:Str}(hr:Room kr X.A)(hv:PE X (.Name x p1) (tVar i))(hk:ED X B k gk)(he:ED X B e gv)(hs:NO e (some (.Subscript (.Name x p1) k aA)) pos.line X.env=pure false:=by rfl):
  SD X B (.Assign [.Subscript (.Name x p1) k aA] e pos) (putG i gk gv):=PS.imp (EB (vE hr) hv hk he hs) λE U H q=>by
 obtain⟨G,I,Z,fl,ah,r,e1,kk⟩:=q;obtain⟨d,ae,e2,e3⟩:=pS e1;obtain⟨qo,ao,e4,e5⟩:=pS e3;obtain⟨n,aO,e6,e7⟩:=pS e5;obtain⟨rfl,aj,es,w1,w2,rfl⟩:=JF e7;refine⟨G,I,Z,d,ae,r,e2,λv H1 I1 r1 g1 hd=>?_⟩;obtain⟨rfl,_,a,xs,f1,f2,_⟩:=FV e4 r1;refine⟨_,f1,G,I1,ao,n,aO,r1,e6,λy H2 I2 r2 g2 hn=>?_⟩;obtain⟨u,h1,a',bb,rfl,f5,f6,f7,f8⟩:=r2.slot i _ w1;have hp:a'=a:=by rw[f1] at h1;cases h1;rfl
 subst hp;unfold putGF at w2;split at w2
 ·rename_i m;obtain⟨c2,rfl⟩:=qQ w2;have:=qD hn;subst this;have ln:bb.length < v_:=by rw[f8.len];exact H_ c2 (sm (A_ _))
  refine⟨a',_,rfl,DPut.k (k:=L_ m) f5 ln,?_⟩;have bj:=hd.mono g2.up
  have key:IsK X.K I2 (if(valD aj m).isSome=true then aj.map (λp=>if p.1=m then(p.1,d) else p) else aj++[(m,d)]) (putK bb (L_ m) v):=by
   rcases f8.val (k:=m) with⟨d',v',w1,w2,_⟩ | ⟨w1,w2⟩
   ·rw[w1,if_pos (show(some d').isSome=true from rfl)];unfold putK;rw[vw,w2,if_pos (show(some v').isSome=true from rfl)];exact f8.remap bj
   ·rw[w1,Ft v w2,if_neg (by decide)];exact f8.snoc bj
  exact kk U _ I2 (r2.writeK w1 h1 key) (g1.trans g2)
 ·cases w2
section
variable{prog:B_}{w:J_}{E:b_->d_->Prop}{s:d_}
theorem Cr{it:i_}{wr:List i_}{P:Nat->b_->Prop}{St:Nat->L4->Prop}{Fit:d_->Prop}{ak:SO->d_->Prop}(W:SU prog w A.in1 it fp wr n P St)(cP:S∉fp)(hn:n=ns.length)(n0:0 < n)(hP:∀i v,P i v->∃x t,ns[i]?=some x/\v=.int x t)(stay:∀s h' tk,Fit s->(∀b o,b∉wr->b≠S->s.heap.get? b=some o->h'.get? b=some o)->Fit { s with heap:=h',toks:=tk })(fin:∀t s,Fit s->ak (.ok (.ret (.int (maxI 0 ns) t))) s):∀(left:Nat) (s:d_) (cells:Array b_) (c j:Nat),j+left=n->St j s.heap->Fit s->CellsI 0 ns j cells->s.heap.get? S=some { cls:=.type "list", dict:=none,data:=.seq cells c,slots:=#[] } →
   Nw (m_ prog w) A (.builtin "max.loop" ⟨[.ref it,.none,.ref S],[]⟩) ak s:=by
 have apart:S∉wr:=λh=>cP (W.sub _ h)
 have bG:∀{g:L4}{f:Obj->Obj}{b:i_}{o:Obj},b≠S->g.get? b=some o->(g.update S f).get? b=some o:=λne e=>(C_ _ _ (LU ne)).trans e
 have aX:(toString "max"++toString ".loop":String) = "max.loop":=by decide
 intro left
 induction left with
 | zero =>
  intro s cells c j len st cV bH slot;refine Mo OY ?_;rw[ML MK _];refine a_ (m:=PJ (.ref S)) (MB slot rfl (a_ (m:=tryCatch (Nx (.ref it)) _) (Nb (W.done s _ _ (len▸st) λg tk kk=>?_))));have all:ns.take j=ns:=L6 (by omega);cases j with
  | zero =>
   omega
  | succ m =>
   obtain⟨t,rfl⟩:=bH;rw[all] at slot ⊢;exact a_ (m:=Oi S λ_=>#[]) (Mg (kk S _ apart slot) rfl (a_ (MG (e_ (fin t _ (stay s _ tk cV λx o n1 n2 e=>bG n2 (kk x o n1 e)))))))
 | succ left ih =>
  intro s cells c j len st cV bH slot;refine Mo OY ?_;rw[ML MK _];refine a_ (m:=PJ (.ref S)) (MB slot rfl (a_ (m:=tryCatch (Nx (.ref it)) _) (Nb (W.item j s _ _ (by omega) st λv g tk g9 bF kk=>?_))));obtain⟨x,t,ex,rfl⟩:=hP j v g9;have aQ:=kk S _ apart slot;have cQ:=stay s g tk cV λx o n1 _ e=>kk x o n1 e
  have ca:ns.take (j+1)=ns.take j++[x]:=by rw[NG,ex];rfl
  have next:∀(f:Obj->Obj) (aK:Array b_) (c':Nat),(g.update S f).get? S=some { cls:=.type "list", dict:=none,data:=.seq aK c',slots:=#[] }->CellsI 0 ns (j+1) aK →
    Nw (m_ prog w) A (.builtin "max.loop" ⟨[.ref it,.none,.ref S],[]⟩) ak { s with heap:=g.update S f,toks:=tk }:=λf aK c' aG is =>
   ih _ aK c' (j+1) (by omega) (W.frame _ _ _ bF λb hb o e=>bG (λz=>cP (z▸hb)) e) (stay { s with heap:=g,toks:=tk } _ tk cQ λx o _ n2 e=>bG n2 e) is aG
  cases j with
  | zero =>
   cases bH;refine a_ (m:=Oi S λ_=>#[.int x t,.int x t]) (Mg aQ rfl ?_);rw[aX];refine e_ ⟨Mb MK _,next _ _ _ (L3 _ aQ rfl) ⟨t,?_⟩⟩;rw[ca];rfl
  | succ m =>
   obtain⟨t2,rfl⟩:=bH
   have ne:ns.take (m+1)≠[]:=λz=>by
    rcases Pc.mp z with z | z
    ·exact absurd z (QG _)
    ·rw[z] at ex;simp at ex
   have step:maxI 0 (ns.take (m+2))=mx (maxI 0 (ns.take (m+1))) x:=by rw[ca,yH 0 ne]
   refine a_ (m:=tryCatch (OI [.int x t,.int x t] (Rx .Gt (.int x t) (.int (maxI 0 (ns.take (m+1))) t2) >>= _)) _) (Nb (LX (a_ (gt_int (a_ (LX (Mx (a_ (MG (e_ ?_))))))))));by_cases hb:maxI 0 (ns.take (m+1)) < x
   ·rw[if_pos (by simpa using hb)];refine a_ (Mg aQ rfl (a_ (MG ?_)));rw[aX];refine e_ ⟨Mb MK _,next _ _ _ (L3 _ aQ rfl) ⟨t,?_⟩⟩;rw[step,mx,if_pos hb]
   ·rw[if_neg (by simpa using hb)];refine a_ (MG ?_);rw[aX];refine e_ ⟨Mb MK _,ih _ _ c (m+2) (by omega) bF cQ ⟨t2,?_⟩ aQ⟩;rw[step,mx,if_neg hb]
end
noncomputable def mi(m y:Int):Int:=if y < m then y else m
noncomputable def minI:List Int->Int
 | []=>0
 | x::xs=>xs.foldl mi x
theorem JY(ne:ns≠[])(y:Int):minI (ns++[y])=mi (minI ns) y:=by
 match ns,ne with
 | x::xs,_=>simp[minI,PB]
def CellsM(ns:List Int)(j:Nat)(cells:Array b_):Prop:=match j with
 | 0=>cells=#[]
 | j+1=>∃t,cells=#[.int (minI (ns.take (j+1))) t,.int (minI (ns.take (j+1))) t]
section
variable{prog:B_}{w:J_}{E:b_->d_->Prop}{s:d_}
theorem Fk{it:i_}{wr:List i_}{P:Nat->b_->Prop}{St:Nat->L4->Prop}{Fit:d_->Prop}{ak:SO->d_->Prop}(W:SU prog w A.in1 it fp wr n P St)(cP:S∉fp)(hn:n=ns.length)(n0:0 < n)(hP:∀i v,P i v->∃x t,ns[i]?=some x/\v=.int x t)(stay:∀s h' tk,Fit s->(∀b o,b∉wr->b≠S->s.heap.get? b=some o->h'.get? b=some o)->Fit { s with heap:=h',toks:=tk })(fin:∀t s,Fit s->ak (.ok (.ret (.int (minI ns) t))) s):∀(left:Nat) (s:d_) (cells:Array b_) (c j:Nat),j+left=n->St j s.heap->Fit s->CellsM ns j cells->s.heap.get? S=some { cls:=.type "list", dict:=none,data:=.seq cells c,slots:=#[] } →
   Nw (m_ prog w) A (.builtin "min.loop" ⟨[.ref it,.none,.ref S],[]⟩) ak s:=by
 have apart:S∉wr:=λh=>cP (W.sub _ h)
 have bG:∀{g:L4}{f:Obj->Obj}{b:i_}{o:Obj},b≠S->g.get? b=some o->(g.update S f).get? b=some o:=λne e=>(C_ _ _ (LU ne)).trans e
 have aX:(toString "min"++toString ".loop":String) = "min.loop":=by decide
 intro left
 induction left with
 | zero =>
  intro s cells c j len st cV bH slot;refine Mo F.entry_min_loop ?_;rw[ML NW _];refine a_ (m:=PJ (.ref S)) (MB slot rfl (a_ (m:=tryCatch (Nx (.ref it)) _) (Nb (W.done s _ _ (len▸st) λg tk kk=>?_))));have all:ns.take j=ns:=L6 (by omega);cases j with
  | zero =>
   omega
  | succ m =>
   obtain⟨t,rfl⟩:=bH;rw[all] at slot ⊢;exact a_ (m:=Oi S λ_=>#[]) (Mg (kk S _ apart slot) rfl (a_ (MG (e_ (fin t _ (stay s _ tk cV λx o n1 n2 e=>bG n2 (kk x o n1 e)))))))
 | succ left ih =>
  intro s cells c j len st cV bH slot;refine Mo F.entry_min_loop ?_;rw[ML NW _];refine a_ (m:=PJ (.ref S)) (MB slot rfl (a_ (m:=tryCatch (Nx (.ref it)) _) (Nb (W.item j s _ _ (by omega) st λv g tk g9 bF kk=>?_))));obtain⟨x,t,ex,rfl⟩:=hP j v g9;have aQ:=kk S _ apart slot;have cQ:=stay s g tk cV λx o n1 _ e=>kk x o n1 e
  have ca:ns.take (j+1)=ns.take j++[x]:=by rw[NG,ex];rfl
  have next:∀(f:Obj->Obj) (aK:Array b_) (c':Nat),(g.update S f).get? S=some { cls:=.type "list", dict:=none,data:=.seq aK c',slots:=#[] }->CellsM ns (j+1) aK →
    Nw (m_ prog w) A (.builtin "min.loop" ⟨[.ref it,.none,.ref S],[]⟩) ak { s with heap:=g.update S f,toks:=tk }:=λf aK c' aG is =>
   ih _ aK c' (j+1) (by omega) (W.frame _ _ _ bF λb hb o e=>bG (λz=>cP (z▸hb)) e) (stay { s with heap:=g,toks:=tk } _ tk cQ λx o _ n2 e=>bG n2 e) is aG
  cases j with
  | zero =>
   cases bH;refine a_ (m:=Oi S λ_=>#[.int x t,.int x t]) (Mg aQ rfl ?_);rw[aX];refine e_ ⟨Mb NW _,next _ _ _ (L3 _ aQ rfl) ⟨t,?_⟩⟩;rw[ca];rfl
  | succ m =>
   obtain⟨t2,rfl⟩:=bH
   have ne:ns.take (m+1)≠[]:=λz=>by
    rcases Pc.mp z with z | z
    ·exact absurd z (QG _)
    ·rw[z] at ex;simp at ex
   have step:minI (ns.take (m+2))=mi (minI (ns.take (m+1))) x:=by rw[ca,JY ne]
   refine a_ (m:=tryCatch (OI [.int x t,.int x t] (Rx .Lt (.int x t) (.int (minI (ns.take (m+1))) t2) >>= _)) _) (Nb (LX (a_ (lt_int (a_ (LX (Mx (a_ (MG (e_ ?_))))))))));by_cases hb:x < minI (ns.take (m+1))
   ·rw[if_pos (by simpa using hb)];refine a_ (Mg aQ rfl (a_ (MG ?_)));rw[aX];refine e_ ⟨Mb NW _,next _ _ _ (L3 _ aQ rfl) ⟨t,?_⟩⟩;rw[step,mi,if_pos hb]
   ·rw[if_neg (by simpa using hb)];refine a_ (MG ?_);rw[aX];refine e_ ⟨Mb NW _,ih _ _ c (m+2) (by omega) bF cQ ⟨t2,?_⟩ aQ⟩;rw[step,mi,if_neg hb]
end
section
variable{B:BB}{k:L8}{p:Pos}{g:M (List (Int×D))}{ga gb:M D}
theorem GB(he:PE X e te):PE X e (λU H Q=>te U H λx H1=>∃a xs,x=.ref a/\H1 a=some (.dK xs)/\∀o,Q (.ref a) (upd H1 a (.frz o (.dK xs)))):=by
 intro aa s U H Q I h;refine thn (he aa s U H _ I h) λv s1 ⟨x,H1,I1,r1,a,xs,ex,hp,q⟩=>?_
 subst ex;obtain⟨z,hd,vs,aN,o,es,ep,ho,r2,r3,r4,r5,r6⟩:=Bf I1.hok hp;exact⟨.ref a,_,xF (t':=s1.toks) (ob:=.frz o (.dK xs)) I1 (by rw[hp];exact QT) (L4.SameBut.refl a s1.heap) ⟨o,ho⟩ ⟨ho,z,hd,vs,aN,o,es,ep,ho,r2,r3,r4,r5,r6⟩,r1,q o⟩
noncomputable def frzK(g:M (List (Int×D))):M D:=bnd g λaj=>ret (.dct (aj.map (·.1)))
theorem we(ha:EK X B e g):ED X B e (frzK g):=PE.imp (GB ha) λU H Q q=>by
 obtain⟨G,I,Z,d,ah,r,e1,k⟩:=q;obtain⟨aj,ae,e2,e3⟩:=pS e1;cases e3;refine⟨G,I,Z,aj,_,r,e2,λa xs H1 I1 r1 g1 h1 h2 h3 h4 h5=>⟨a,xs,rfl,h1,λo=>?_⟩⟩
 have r2:Rep X.K B G I1 (upd H1 a (.frz o (.dK xs))) U ah:=r1.extBut h4 h3 h2 h2 (Same.refl _) (λb u e ne=>by rw[qx ne];exact e) (λb u e=>by
  have ne:b≠a:=λz=>by subst z;rw[h2] at e;cases e
  rw[qx ne];exact r1.iH b u e) λb u e=>.inl e
 exact k _ _ _ (r2.freezeO qH h2 h4) (g1.trans (growFreezeO h2 h3)) (Is.dct qH (by rw[h5.1,NH];rfl))
theorem AJ{k:Int}:∀{xs:List (Key×V)}{ns:List Int},xs.map (·.1)=ns.map L_->(valV xs (L_ k)).isSome=decide (k∈ns)
 | [],[],_=>rfl
 | [],n::ns,h=>by cases h
 | x::xs,[],h=>by cases h
 | (kx,v)::xs,n::ns,h=>by
  rw[K_,K_] at h;injection h with h1 h2
  subst h1;unfold valV;by_cases e:n=k
  ·subst e;simp
  ·have ne:(L_ n:Key)≠L_ k:=λz=>e (L_.inj z)
   rw[List.find?_cons_of_neg (by simpa using ne)];have:=AJ (k:=k) h2;unfold valV at this;rw[this];simp[LU e]
noncomputable def inDF(neg:Bool)(d c:D):Option D:=match d,c with
 | .int k,.dct ns=>some (.bl (if neg then !decide (k∈ns) else decide (k∈ns)))
 | _,_=>none
theorem Kb:∀U H Q,tTD X.K B (tst (op2 (inDF neg) ga gb)) U H Q->tTest (λU H Q=>tD X.K B ga U H λy H1=>tD X.K B gb U H1 λx H2=>∃a o,x=.ref a/\DGet H2 a y o/\Q (.bl (if neg then !o.isSome else o.isSome)) H2) U H Q:=t8 λU H Q q=>by
 obtain⟨G,I,Z,b,ah,r,e1,kk⟩:=q;obtain⟨d,ae,e2,e3⟩:=pS e1;obtain⟨c,ao,e4,e5⟩:=pS e3;obtain⟨e6,rfl⟩:=qI e5;refine⟨G,I,Z,d,ae,r,e2,λy H1 I1 r1 g1 hd=>⟨G,I1,ae,c,_,r1,e4,λx H2 I2 r2 g2 hc=>?_⟩⟩;unfold inDF at e6;split at e6
 ·rename_i n ns;cases e6;have:=qD hd;subst this;obtain⟨a,o,xs,rfl,h1,h2⟩:=tN hc;refine⟨a,valV xs (L_ n),rfl,.inl ⟨xs,L_ n,.inr ⟨o,r2.iH _ _ h1⟩,rfl,rfl⟩,?_⟩;rw[AJ h2];exact(kk.after g1).after g2 |>.now r2 (Is.bl _)
 ·cases e6
theorem wW{x:Str}(hu:X.A.units+1 < NQ)(ha:ED X B k ga)(hb:ED X B (.Name x p1) gb):TD X B (.Compare k [.NotIn] [.Name x p1] pos) (tst (op2 (inDF true) ga gb)):=PT.imp (DH (Ee hu ha hb) rfl) (Kb (neg:=true))
theorem Do(he:PE X e te):PI X tg e (λU H R=>te U H λx H1=>∃a o xs,x=.ref a/\H1 a=some (.frz o (.dK xs))/\R (Itd a o) H1):=by
 intro aa s U H R I h;refine thn (he aa s U H _ I h) λv s1 ⟨x,H1,I1,r1,a,o,xs,ex,hp,q⟩=>?_
 subst ex;cases r1;obtain⟨ho,z,hd,vs,aN,o',es,ep,bK,r2,r3,r4,r5,r6⟩:=(show ObjOk X.prog X.w H1 s1.heap a (.frz o (.dK xs)) from I1.hok a _ hp);have eo:o'=o:=by rw[ho] at bK;exact(L0 bK).symm
 subst eo;refine Qc (knd:=mixKind X.prog X.w) hd ⟨o',es,ho,r2,r3,r4,r5,r6⟩ ?_;have ln:es.size=vs.length:=by rw[←r5.length,LS]
 have lt:a < s1.heap.objs.size:=F_ ho;refine⟨s1.heap.objs.size,[s1.heap.objs.size],_,_,_,rfl,I1.kept (t':=s1.toks) λb o e=>c_ _ e,JG a _ o' r3 ln (LW lt),⟨_,s_ _ rfl,rfl,rfl⟩,λb hb=>?_,q⟩;have e:b=s1.heap.objs.size:=by simpa using hb
 subst e;exact I1.fpOk (A_ _) (I1.hok.fresh (A_ _))
noncomputable def dctI(d:D):Option (List D):=match d with
 | .dct ns=>some (ns.map D.int)
 | _=>none
noncomputable def itDc(g:M D):M (List D):=bnd g λd=>lft (dctI d)
theorem yN(ha:ED X B e ga):ITD X B tg e (itDc ga):=PI.imp (Do ha) λU H R q=>by
 obtain⟨G,I,Z,ds,ah,r,e1,k⟩:=q;obtain⟨d,ae,e2,e3⟩:=pS e1;obtain⟨e4,rfl⟩:=qI e3;unfold dctI at e4;split at e4
 ·rename_i ns;cases e4;refine⟨G,I,Z,_,_,r,e2,λv H1 I1 r1 g1 hd=>?_⟩;obtain⟨a,o,xs,rfl,h1,h2⟩:=tN hd;refine⟨a,o,xs,rfl,r1.iH _ _ h1,k _ _ _ r1 g1 λi H2 s2=>?_⟩;have aF:H2 a=some (.frz o (.dK xs)):=s2 a _ h1;have len:xs.length=ns.length:=by have:=congrArg length h2;simpa using this
  refine⟨λd hd=>⟨⟨xs,aF,?_⟩,λx H3 hy=>.inl ⟨hy.1,?_⟩⟩,λhi=>⟨xs,aF,?_⟩⟩
  ·have:=(D_.mp hd).1;rw[x_] at this;omega
  ·obtain⟨kk,y,f1,f2⟩:=hy.2 xs aF;have f3:(xs.map (·.1))[i]?=some kk:=by rw[E_,f1];rfl
   rw[h2] at f3;rw[E_] at f3 hd;cases z:ns[i]? with
   | none=>rw[z] at hd;cases hd
   | some q =>
    rw[z] at f3 hd;cases f3;cases hd;rw[f2];exact Is.int _
  ·rw[x_] at hi;omega
 ·cases e4
end
section
variable{prog:B_}{w:J_}{E:b_->d_->Prop}{s:d_}
theorem y0{xs:List (Key×V)}{vs:List (Key×b_)}(aN:L2.KV xs vs)(h:xs.map (·.1)=ns.map L_){i:Nat}{v:b_}(hv:∃k y,vs[i]?=some (k,y)/\keyIs k v=true):∃x t,ns[i]?=some x/\v=.int x t:=by
 obtain⟨k,y,e1,e2⟩:=hv;have kx:(xs.map (·.1))[i]?=some k:=by rw[aN.keys,E_,e1];rfl
 rw[h,E_] at kx;cases z:ns[i]? with
 | none=>rw[z] at kx;cases kx
 | some n =>
  rw[z] at kx;cases kx
  rcases rW e2 with⟨j,t,e,e'⟩ | ⟨j,t,e,e'⟩
  ·cases e;exact⟨_,t,rfl,e'⟩
  ·cases e
theorem FJ{a:i_}{xs:List (Key×V)}{vs:List (Key×b_)}{Q:b_->d_->Prop}(hh:A.handled=none)(hd:(a == NI)=false)(dd:s.heap.DictOf (mixKind prog w) a vs)(aN:L2.KV xs vs)(h:xs.map (·.1)=ns.map L_)(n0:0 < ns.length)(fin:∀t h' tk,(∀b o,s.heap.get? b=some o->h'.get? b=some o)->Q (.int (minI ns) t) { s with heap:=h',toks:=tk }):z_ (m_ prog w) A (call (.builtin "min") [.ref a]) Q E s:=by
 obtain⟨ep,dd⟩:=dd.dictAt;have low:a < s.heap.objs.size:=dd.lt_size;have ln:vs.length=ns.length:=by rw[←aN.length];have:=congrArg length h;simpa using this
 refine wg F.kind_min F.plain_min F.entry_min (PySem.F.args_min1 _) ?_;refine a_ (MV (a:=[none,none]) rfl (a_ (e_ (a_ (Qc hd dd (a_ (Ma ?_)))))));have aX:(toString "min"++toString ".loop":String) = "min.loop":=by decide
 rw[aX];have W:=dictKeys (prog:=prog) (w:=w) (A:=A.in1) (knd:=mixKind prog w) hh s.heap.objs.size a (LW low) vs ep;have bE:∀o:Obj,(s.heap.push o).objs.size=s.heap.objs.size+1:=λo=>M8 ..
 refine e_ ⟨Mb NW _,Fk (Fit:=λs'=>∃h' tk,s'={ s with heap:=h',toks:=tk }/\∀b o,s.heap.get? b=some o->h'.get? b=some o) (ns:=ns) W ?_ ?_ ?_ ?_ ?_ ?_ vs.length _ #[] 0 0 (N3 _) ⟨⟨_,c_ _ (s_ _ rfl),rfl,rfl⟩,dd.keep λb o e=>c_ _ (c_ _ e)⟩ ⟨_,_,rfl,λb o e=>c_ _ (c_ _ e)⟩ rfl (s_ _ rfl)⟩
 ·rw[bE];intro z;rw[n_,q_] at z
  rcases z with z | z
  ·exact absurd z (OW _)
  ·exact absurd z (Om (N5 low))
 ·exact ln
 ·rw[ln];exact n0
 ·exact λi v hv=>y0 aN h hv
 ·rintro _ h' tk ⟨g,ca,rfl,keep⟩ k;refine⟨h',tk,rfl,λb o e=>k b o (λz=>?_) (λz=>?_) (keep b o e)⟩
  ·rw[q_] at z;exact LW (F_ e) z
  ·rw[bE] at z;have:=F_ e;rw[z] at this;exact absurd this (TR.mpr (RM _))
 ·rintro t _ ⟨g,tk,rfl,keep⟩;exact fin t g tk keep
theorem Jc{a:i_}{xs:List (Key×V)}{vs:List (Key×b_)}{Q:b_->d_->Prop}(hh:A.handled=none)(hd:(a == NI)=false)(dd:s.heap.DictOf (mixKind prog w) a vs)(aN:L2.KV xs vs)(h:xs.map (·.1)=ns.map L_)(n0:0 < ns.length)(fin:∀t h' tk,(∀b o,s.heap.get? b=some o->h'.get? b=some o)->Q (.int (maxI 0 ns) t) { s with heap:=h',toks:=tk }):z_ (m_ prog w) A (call (.builtin "max") [.ref a]) Q E s:=by
 obtain⟨ep,dd⟩:=dd.dictAt;have low:a < s.heap.objs.size:=dd.lt_size;have ln:vs.length=ns.length:=by rw[←aN.length];have:=congrArg length h;simpa using this
 refine wg F.kind_max F.plain_max F.entry_max (PySem.F.args_max1 _) ?_;refine a_ (MV (a:=[none,none]) rfl (a_ (e_ (a_ (Qc hd dd (a_ (Ma ?_)))))));have aX:(toString "max"++toString ".loop":String) = "max.loop":=by decide
 rw[aX];have W:=dictKeys (prog:=prog) (w:=w) (A:=A.in1) (knd:=mixKind prog w) hh s.heap.objs.size a (LW low) vs ep;have bE:∀o:Obj,(s.heap.push o).objs.size=s.heap.objs.size+1:=λo=>M8 ..
 refine e_ ⟨Mb MK _,Cr (Fit:=λs'=>∃h' tk,s'={ s with heap:=h',toks:=tk }/\∀b o,s.heap.get? b=some o->h'.get? b=some o) (ns:=ns) W ?_ ?_ ?_ ?_ ?_ ?_ vs.length _ #[] 0 0 (N3 _) ⟨⟨_,c_ _ (s_ _ rfl),rfl,rfl⟩,dd.keep λb o e=>c_ _ (c_ _ e)⟩ ⟨_,_,rfl,λb o e=>c_ _ (c_ _ e)⟩ rfl (s_ _ rfl)⟩
 ·rw[bE];intro z;rw[n_,q_] at z
  rcases z with z | z
  ·exact absurd z (OW _)
  ·exact absurd z (Om (N5 low))
 ·exact ln
 ·rw[ln];exact n0
 ·exact λi v hv=>y0 aN h hv
 ·rintro _ h' tk ⟨g,ca,rfl,keep⟩ k;refine⟨h',tk,rfl,λb o e=>k b o (λz=>?_) (λz=>?_) (keep b o e)⟩
  ·rw[q_] at z;exact LW (F_ e) z
  ·rw[bE] at z;have:=F_ e;rw[z] at this;exact absurd this (TR.mpr (RM _))
 ·rintro t _ ⟨g,tk,rfl,keep⟩;exact fin t g tk keep
end
section
variable{B:BB}{p:Pos}{t:M (List D)}
theorem GC(hc:X.calm=true):CallR X (.builtin "min") (λxs H Q=>∃(p:i_) (kx:List (Key×V)) (ns:List Int),xs=[.ref p]/\Rd H p (.dK kx)/\kx.map (·.1)=ns.map L_/\0 < ns.length/\Q (.int (minI ns)) H):=by
 rintro aa s U H xs us Q I r ⟨p,kx,ns,rfl,hq,hk,n0,q⟩;obtain⟨u,rfl,e⟩:=r.one;cases e;obtain⟨z,hd,vs,aN,dd⟩:=vt I.hok hq;exact FJ (I.ok.hd hc) hd dd aN hk n0 λt h' tk keep=>⟨.int (minI ns),H,I.kept keep,⟨t,rfl⟩,q⟩
theorem JJ(hc:X.calm=true):CallR X (.builtin "max") (λxs H Q=>∃(p:i_) (kx:List (Key×V)) (ns:List Int),xs=[.ref p]/\Rd H p (.dK kx)/\kx.map (·.1)=ns.map L_/\0 < ns.length/\Q (.int (maxI 0 ns)) H):=by
 rintro aa s U H xs us Q I r ⟨p,kx,ns,rfl,hq,hk,n0,q⟩;obtain⟨u,rfl,e⟩:=r.one;cases e;obtain⟨z,hd,vs,aN,dd⟩:=vt I.hok hq;exact Jc (I.ok.hd hc) hd dd aN hk n0 λt h' tk keep=>⟨.int (maxI 0 ns),H,I.kept keep,⟨t,rfl⟩,q⟩
noncomputable def minKF(ds:List D):Option D:=match ds with
 | [.dct ns]=>if 0 < ns.length then some (.int (minI ns)) else none
 | _=>none
noncomputable def maxKF(ds:List D):Option D:=match ds with
 | [.dct ns]=>if 0 < ns.length then some (.int (maxI 0 ns)) else none
 | _=>none
theorem C'(hc:X.calm=true)(hg:Gl X "min")(hm:X.mg "min"=none)(ha:AD X B [e] t)(he:f_ [e] X.env=(false,Mm e X.env)::f_ [] X.env:=by rfl)(aC:(Mp pos (f_ [] X.env)).any (·.1)=false:=by rfl):
  ED X B (.Call (.Name "min" p) [e] [] pos) (fn1 minKF t):=sv (GC hc) (λds d e B G I H U Z xs Q r h k=>by
 unfold minKF at e;split at e
 ·obtain⟨n0,rfl⟩:=qQ e;obtain⟨x,rfl,hx⟩:=h.one;obtain⟨a,o,kx,rfl,h1,h2⟩:=tN hx;exact⟨a,kx,_,rfl,.inr ⟨o,r.iH _ _ h1⟩,h2,n0,k.now r (Is.int _)⟩
 ·cases e) hg hm boot_min ha (by decide) (by decide) he aC
theorem De(hc:X.calm=true)(hg:Gl X "max")(hm:X.mg "max"=none)(ha:AD X B [e] t)(he:f_ [e] X.env=(false,Mm e X.env)::f_ [] X.env:=by rfl)(aC:(Mp pos (f_ [] X.env)).any (·.1)=false:=by rfl):
  ED X B (.Call (.Name "max" p) [e] [] pos) (fn1 maxKF t):=sv (JJ hc) (λds d e B G I H U Z xs Q r h k=>by
 unfold maxKF at e;split at e
 ·obtain⟨n0,rfl⟩:=qQ e;obtain⟨x,rfl,hx⟩:=h.one;obtain⟨a,o,kx,rfl,h1,h2⟩:=tN hx;exact⟨a,kx,_,rfl,.inr ⟨o,r.iH _ _ h1⟩,h2,n0,k.now r (Is.int _)⟩
 ·cases e) hg hm boot_max ha (by decide) (by decide) he aC
end
end DL
namespace DL
open PySem L2
variable {α β:Type}
def wp(m:M α)(Z:Gm)(Q:α->Gm->Prop):Prop:=∃a ah,m Z=some (a,ah)/\Q a ah
def wpF(g:List R->Option (R×List R))(rs:List R)(Q:R->List R->Prop):Prop:=∃r bf,g rs=some (r,bf)/\Q r bf
def wpB(g:List R->Option (R×List R))(c ds:List D)(Q:R->List D->Prop):Prop:=∃r c',bcF g c ds=some (r,c')/\Q r c'
section
variable{Q:α->Gm->Prop}{QD:D->Gm->Prop}{QL:List D->Gm->Prop}{QB:Bool->Gm->Prop}{QS:Fl->Gm->Prop}{QU:Unit->Gm->Prop}
theorem wp.mono{m:M α}{Q':α->Gm->Prop}(h:wp m Z Q)(f:∀a Z,Q a Z->Q' a Z):wp m Z Q':=by
 obtain⟨a,ah,e,q⟩:=h;exact⟨a,ah,e,f _ _ q⟩
@[simp ↓] theorem sL{a:α}:wp (ret a) Z Q↔Q a Z:=by
 constructor
 ·rintro⟨b,ah,e,q⟩;cases e;exact q
 ·intro q;exact⟨_,_,rfl,q⟩
@[simp ↓] theorem qY{β:Type}{m:M β}{f:β->M α}:wp (bnd m f) Z Q↔wp m Z λb ae=>wp (f b) ae Q:=by
 constructor
 ·rintro⟨a,ah,e,q⟩;obtain⟨b,ae,e1,e2⟩:=pS e;exact⟨b,ae,e1,a,ah,e2,q⟩
 ·rintro⟨b,ae,e1,a,ah,e2,q⟩;exact⟨a,ah,by unfold bnd;rw[e1];exact e2,q⟩
@[simp ↓] theorem JM{a:α}:wp (lft (some a)) Z Q↔Q a Z:=by
 constructor
 ·rintro⟨b,ah,e,q⟩;cases e;exact q
 ·intro q;exact⟨_,_,rfl,q⟩
theorem qL{o:Option α}{a:α}(h:o=some a):wp (lft o) Z Q↔Q a Z:=by rw[h,JM]
@[simp ↓] theorem Ep{i:Nat}:wp (nm i) Z QD↔match Z[i]? with
  | some (some (.val d))=>QD d Z
  | some (some (.own ds))=>QD (.lst ds) (Z.set i (some (.val (.lst ds))))
  | some (some (.fro ds))=>QD (.lst ds) Z
  | _=>False:=by
 unfold wp nm
 rcases e:Z[i]? with _ | _ | r
 ·simp
 ·simp
 ·cases r<;>simp<;>exact⟨λ⟨_,_,⟨h1,h2⟩,q⟩=>by subst h1;subst h2;exact q,λq=>⟨_,_,⟨rfl,rfl⟩,q⟩⟩
@[simp ↓] theorem tF{F:D->D->Option α}{a b:M D}:wp (op2 F a b) Z Q↔wp a Z λx ae=>wp b ae λy ao=>wp (lft (F x y)) ao Q:=by simp[op2]
@[simp ↓] theorem Gb{F:List D->Option α}{t:M (List D)}:wp (fn1 F t) Z Q↔wp t Z λds ae=>wp (lft (F ds)) ae Q:=by simp[fn1]
@[simp ↓] theorem Ak:wp nilA Z QL↔QL [] Z:=by simp[nilA]
@[simp ↓] theorem vI{g:M D}{t:M (List D)}:wp (consA g t) Z QL↔wp g Z λd ae=>wp t ae λds ao=>QL (d::ds) ao:=by simp[consA]
@[simp ↓] theorem Lr{t:M (List D)}:wp (tupA t) Z QD↔wp t Z λds ae=>wp (lft (if ds.length<=lim then some (.tup ds) else none)) ae QD:=by simp[tupA]
@[simp ↓] theorem DU{t:M (List D)}:wp (lstA t) Z QL↔wp t Z λds ae=>wp (lft (if ds.length<=lim then some ds else none)) ae QL:=by simp[lstA]
@[simp ↓] theorem v3{t:M (List D)}:wp (frz t) Z QD↔wp t Z λds ae=>QD (.lst ds) ae:=by simp[frz]
@[simp ↓] theorem K5{g:M D}:wp (tst g) Z QB↔wp g Z λd ae=>wp (lft (asB d)) ae QB:=by simp[tst]
@[simp] theorem KL{b:Bool}:asB (.bl b)=some b:=rfl
@[simp] theorem Kz{b:Int}:asI (.int b)=some b:=rfl
@[simp ↓] theorem Ku{a b:M Bool}:wp (andT a b) Z QB↔wp a Z λk ae=>if k=true then wp b ae QB else QB false ae:=by
 simp only[andT,qY]
 constructor<;>(intro h;refine h.mono λk ae h=>?_)<;>(cases k<;>simpa using h)
@[simp ↓] theorem Ly{a b:M Bool}:wp (orT a b) Z QB↔wp a Z λk ae=>if k=true then QB true ae else wp b ae QB:=by
 simp only[orT,qY]
 constructor<;>(intro h;refine h.mono λk ae h=>?_)<;>(cases k<;>simpa using h)
@[simp ↓] theorem Lw{a:M Bool}:wp (notT a) Z QB↔wp a Z λk ae=>QB (!k) ae:=by simp[notT]
@[simp ↓] theorem La{a b:M D}:wp (andV a b) Z QD↔wp a Z λd ae=>wp (lft (asB d)) ae λk ao=>if k=true then wp b ao QD else QD (.bl false) ao:=by
 simp only[andV,qY]
 constructor<;>(intro h;refine h.mono λd ae h=>h.mono λk ao h=>?_)<;>(cases k<;>simpa using h)
@[simp ↓] theorem Kh{c:M Bool}{a b:M D}:wp (ifV c a b) Z QD↔wp c Z λk ae=>if k=true then wp a ae QD else wp b ae QD:=by
 simp only[ifV,qY]
 constructor<;>(intro h;refine h.mono λk ae h=>?_)<;>(cases k<;>simpa using h)
theorem yo{a b:M Fl}:wp (seqS a b) Z QS↔wp a Z λf ae=>match f with
  | .nx=>wp b ae QS
  | .rt r=>QS (.rt r) ae
  | .bk=>QS .bk ae
  | .ct=>QS .ct ae:=by
 simp only[seqS,qY]
 constructor<;>(intro h;refine h.mono λf ae h=>?_)<;>(cases f<;>simpa using h)
@[simp ↓] theorem Eo{a:M D}:wp (retS a) Z QS↔wp a Z λd ae=>QS (.rt (.val d)) ae:=by simp[retS]
@[simp ↓] theorem Kk{a:M (List D)}:wp (retO a) Z QS↔wp a Z λd ae=>QS (.rt (.own d)) ae:=by simp[retO]
@[simp ↓] theorem GJ{c:M Bool}{a b:M Fl}:wp (ifS c a b) Z QS↔wp c Z λk ae=>if k=true then wp a ae QS else wp b ae QS:=by
 simp only[ifS,qY]
 constructor<;>(intro h;refine h.mono λk ae h=>?_)<;>(cases k<;>simpa using h)
@[simp ↓] theorem K9{i:Nat}{q:R}:wp (putS i q) Z QU↔i < Z.length/\QU () (Z.set i (some q)):=by
 unfold wp putS;constructor
 ·rintro⟨a,ah,e,h⟩;obtain⟨h1,h2⟩:=qQ e;cases h2;exact⟨h1,h⟩
 ·rintro⟨h1,h2⟩;exact⟨(),_,by rw[if_pos h1],h2⟩
@[simp ↓] theorem LN{i:Nat}:wp (tgN i d) Z QU↔i < Z.length/\QU () (Z.set i (some (.val d))):=by simp[tgN]
@[simp ↓] theorem KC:wp (tgNil []) Z QU↔QU () Z:=by simp[tgNil]
@[simp ↓] theorem Lj{f:D->M Unit}{t:List D->M Unit}:wp (tgCons f t (d::ds)) Z QU↔wp (f d) Z λ_ ae=>wp (t ds) ae QU:=by simp[tgCons]
@[simp ↓] theorem Lx{t:List D->M Unit}:wp (tgTup n t (.tup ds)) Z QU↔ds.length=n/\wp (t ds) Z QU:=by
 unfold tgTup;by_cases h:ds.length=n
 ·simp[h]
 ·simp only[h,if_false,false_and,iff_false];rintro⟨_,_,e,_⟩;cases e
@[simp ↓] theorem Ld{g:M D}{f:D->M Unit}:wp (asgS g f) Z QS↔wp g Z λd ae=>wp (f d) ae λ_ ao=>QS .nx ao:=by simp[asgS]
@[simp ↓] theorem tE{i:Nat}{g:M D}:wp (setV i g) Z QS↔wp g Z λd ae=>i < ae.length/\QS .nx (ae.set i (some (.val d))):=by simp[setV]
@[simp ↓] theorem CF{i:Nat}{g:M (List D)}:wp (setO i g) Z QS↔wp g Z λd ae=>i < ae.length/\QS .nx (ae.set i (some (.own d))):=by simp[setO]
@[simp ↓] theorem tq{i:Nat}{m:M α}:wp (mutS i m) Z Q↔isMut Z i=true/\wp m Z Q:=by
 unfold mutS wp;by_cases h:isMut Z i=true
 ·simp[h]
 ·simp[h]
@[simp ↓] theorem K'{i:Nat}:wp (wr i F) Z QU↔match Z[i]? with
  | some (some (.own ds))=>∃es,F ds=some es/\QU () (Z.set i (some (.own es)))
  | some (some (.bor ds))=>∃es,F ds=some es/\QU () (Z.set i (some (.bor es)))
  | _=>False:=by
 unfold wp wr
 rcases e:Z[i]? with _ | _ | r
 ·simp
 ·simp
 ·cases r with
  | val d=>simp
  | fro d=>simp
  | dic d=>simp
  | own ds =>
   rcases he:F ds with _ | es
   ·simp[he]
   ·simp[he];exact⟨λ⟨_,q⟩=>q,λq=>⟨(),q⟩⟩
  | bor ds =>
   rcases he:F ds with _ | es
   ·simp[he]
   ·simp[he];exact⟨λ⟨_,q⟩=>q,λq=>⟨(),q⟩⟩
@[simp ↓] theorem KM{i:Nat}{g:M D}:wp (appS i g) Z QS↔isMut Z i=true/\wp g Z λd ae=>wp (wr i (appF d)) ae λ_ ao=>QS .nx ao:=by simp only[appS,tq,qY,sL]
@[simp ↓] theorem KQ{i:Nat}{g:M D}:wp (extS i g) Z QS↔isMut Z i=true/\wp g Z λd ae=>wp (wr i (extF d)) ae λ_ ao=>QS .nx ao:=by simp only[extS,tq,qY,sL]
@[simp ↓] theorem Ks{i:Nat}{gi:M D}:wp (stS i gi gv) Z QS↔wp gv Z λd ae=>isMut ae i=true/\wp gi ae λn ao=>wp (lft (asI n)) ao λk aO=>wp (wr i (stF k d)) aO λ_ a9=>QS .nx a9:=by simp only[stS,tq,qY,sL]
@[simp ↓] theorem LQ{i:Nat}:wp (look i) Z QD↔match Z[i]? with
  | some (some (.own ds))=>QD (.lst ds) Z
  | some (some (.bor ds))=>QD (.lst ds) Z
  | _=>False:=by
 unfold wp look
 rcases e:Z[i]? with _ | _ | r
 ·simp
 ·simp
 ·cases r<;>simp<;>exact⟨λ⟨_,_,⟨h1,h2⟩,q⟩=>by subst h1;subst h2;exact q,λq=>⟨_,_,⟨rfl,rfl⟩,q⟩⟩
@[simp ↓] theorem K2{i:Nat}{g:M D}:wp (atN i g) Z QD↔isMut Z i=true/\wp g Z λn ae=>wp (look i) ae λl ao=>wp (lft (ixF l n)) ao QD:=by simp only[atN,tq,qY]
@[simp ↓] theorem Ls{i:Nat}:wp (lenN i) Z QD↔wp (look i) Z λl ao=>wp (lft (lenF [l])) ao QD:=by simp only[lenN,qY]
@[simp ↓] theorem KH{i:Nat}{g:M D}:wp (cmpN neg i g) Z QD↔isMut Z i=true/\wp g Z λn ae=>wp (look i) ae λl ao=>wp (lft (eqF neg l n)) ao QD:=by simp only[cmpN,tq,qY]
@[simp ↓] theorem KF{g:M D}{QO:Option Int->Gm->Prop}:wp (prt g) Z QO↔wp g Z λd ae=>wp (lft (asI d)) ae λi ao=>QO (some i) ao:=by simp[prt]
@[simp ↓] theorem Lh{F:D->Option Int->Option Int->Option α}{g:M D}:wp (sl3 F g gl gh) Z Q↔wp g Z λd ae=>wp gl ae λl ao=>wp gh ao λh aO=>wp (lft (F d l h)) aO Q:=by simp[sl3]
@[simp ↓] theorem Ll{g:M D}:wp (itS g) Z QL↔wp g Z λd ae=>wp (lft (seqI d)) ae QL:=by simp[itS]
@[simp ↓] theorem KB:wp (forS it az body) Z QS↔wp it Z λds ae=>wp (forM az body ds) ae QS:=by simp[forS]
@[simp ↓] theorem Kt{i:Nat}{g:List R->Option (R×List R)}{t:M (List D)}{QR:R->Gm->Prop}:wp (callB i g t) Z QR↔isMut Z i=true/\wp t Z λds ae=>match ae[i]? with
  | some (some (.own c))=>wpB g c ds λr c'=>QR r (ae.set i (some (.own c')))
  | some (some (.bor c))=>wpB g c ds λr c'=>QR r (ae.set i (some (.bor c')))
  | _=>False:=by
 simp only[callB,tq,qY];refine and_congr_right λ_=>?_
 have key:∀(ds:List D) (ae:Gm),wp (λZ:Gm=>match Z[i]? with
   | some (some (.own c))=>match bcF g c ds with
    | some (r,c')=>some (r,Z.set i (some (.own c')))
    | none=>none
   | some (some (.bor c))=>match bcF g c ds with
    | some (r,c')=>some (r,Z.set i (some (.bor c')))
    | none=>none
   | _=>none) ae QR↔(match ae[i]? with
  | some (some (.own c))=>wpB g c ds λr c'=>QR r (ae.set i (some (.own c')))
  | some (some (.bor c))=>wpB g c ds λr c'=>QR r (ae.set i (some (.bor c')))
  | _=>False):=by
  intro ds ae;unfold wp wpB;dsimp only
  rcases e:ae[i]? with _ | _ | r
  ·simp
  ·simp
  ·cases r with
   | val d=>simp
   | fro d=>simp
   | dic d=>simp
   | own c =>
    rcases he:bcF g c ds with _ | ⟨r,c'⟩
    ·simp[he]
    ·simp only[he];constructor
     ·rintro⟨a,b,h,q⟩;cases h;exact⟨_,_,rfl,q⟩
     ·rintro⟨a,b,h,q⟩;cases h;exact⟨_,_,rfl,q⟩
   | bor c =>
    rcases he:bcF g c ds with _ | ⟨r,c'⟩
    ·simp[he]
    ·simp only[he];constructor
     ·rintro⟨a,b,h,q⟩;cases h;exact⟨_,_,rfl,q⟩
     ·rintro⟨a,b,h,q⟩;cases h;exact⟨_,_,rfl,q⟩
 constructor
 ·intro h;exact h.mono λds ae h=>(key ds ae).mp h
 ·intro h;exact h.mono λds ae h=>(key ds ae).mpr h
@[simp ↓] theorem Ki{i:Nat}{g:List R->Option (R×List R)}{t:M (List D)}:wp (cbV i g t) Z QD↔wp (callB i g t) Z λr ae=>wp (lft (asV r)) ae QD:=by simp only[cbV,qY]
@[simp] theorem Ln:asV (.val d)=some d:=rfl
@[simp] theorem LI{d:List D}:asO (.own d)=some d:=rfl
theorem rQ(J:Nat->Gm->Prop)(h0:J 0 Z)(hs:∀(i:Nat) (d:D) (Z:Gm),ds[i]?=some d->J i Z->wp (az d) Z λ_ ae=>wp body ae λf ao=>match f with
   | .nx=>J (i+1) ao
   | .ct=>J (i+1) ao
   | .bk=>QS .nx ao
   | .rt r=>QS (.rt r) ao)(hd:∀Z,J ds.length Z->QS .nx Z):wp (forM az body ds) Z QS:=by
 have key:∀(n:Nat) (es:List D) (Z:Gm) (i:Nat),es.length=n->ds.drop i=es->i<=ds.length->J i Z->wp (forM az body es) Z QS:=by
  intro n
  induction n with
  | zero =>
   intro es Z i hl he hi hj;have:es=[]:=M7.mp hl;subst this
   have eR:i=ds.length:=by
    have:=congrArg length he;rw[ME] at this;simp at this;omega
   subst eR;exact⟨_,_,rfl,hd Z hj⟩
  | succ n ih =>
   intro es Z i hl he hi hj;cases es with
   | nil=>simp at hl
   | cons d es =>
    have bI:i < ds.length:=by
     have:=congrArg length he;rw[ME,Md] at this;omega
    have pj:ds.drop i=ds[i]::ds.drop (i+1):=LV bI;rw[pj] at he;injection he with e1 e2
    have bj:ds[i]?=some d:=by rw[h_ bI,e1]
    have step:=hs i d Z bj hj;rw[forM,qY];refine step.mono λ_ ae h1=>?_
    rw[qY];refine h1.mono λf ao h2=>?_
    cases f with
    | nx=>exact ih es ao (i+1) (by simpa using hl) e2 bI h2
    | ct=>exact ih es ao (i+1) (by simpa using hl) e2 bI h2
    | bk=>exact⟨_,_,rfl,h2⟩
    | rt r=>exact⟨_,_,rfl,h2⟩
 exact key ds.length ds Z 0 rfl rfl (Me _) h0
theorem sw{QR:R->List R->Prop}(hl:rs.length=ar)(h:wp body (rs.map some++Mw (n - rs.length) none) λf ah=>∃r,flR f=some r/\∃l,fin rs ah=some l/\QR r l):wpF (fnD n ar body) rs QR:=by
 obtain⟨f,ah,e,r,e1,l,e2,q⟩:=h;refine⟨r,l,?_,q⟩;unfold fnD;rw[if_pos hl];unfold fnD1;rw[e];simp only[e1,e2]
theorem sM{g:List R->Option (R×List R)}(h:wpF g (ds.map .val) λr _=>r=.val d):cvF g ds=some d:=by
 obtain⟨r,bf,e,rfl⟩:=h;unfold cvF;rw[e]
theorem wk{g:List R->Option (R×List R)}{P:List D->Prop}(h:wpF g (ds.map .val) λr _=>∃d,r=.own d/\P d):∃d,coF g ds=some d/\P d:=by
 obtain⟨r,bf,e,d,rfl,hp⟩:=h;exact⟨d,by unfold coF;rw[e],hp⟩
theorem ET{g:List R->Option (R×List R)}{QR:R->List D->Prop}(h:wpF g (.bor c::ds.map .val) λr bf=>∃c' t,bf=.bor c'::t/\QR r c'):wpB g c ds QR:=by
 obtain⟨r,bf,e,c',t,rfl,q⟩:=h;exact⟨r,c',by unfold bcF;rw[e],q⟩
end
end DL
namespace DL
open PySem L2
section
variable{α:Type}{Q:α->Gm->Prop}{QD:D->Gm->Prop}{QL:List D->Gm->Prop}{i j:Int}
@[simp ↓] theorem sB{c:Prop}[Decidable c]{a:α}:wp (lft (if c then some a else none)) Z Q↔c/\Q a Z:=by
 by_cases h:c
 ·simp[h]
 ·simp only[h,if_false,false_and,iff_false];rintro⟨_,_,e,_⟩;cases e
@[simp] theorem LA:subI (.int i) (.int j)=some (.int (i - j)):=rfl
@[simp] theorem LF:addF (.int i) (.int j)=some (.int (i+j)):=rfl
@[simp] theorem f_lt:ltI (.int i) (.int j)=some (.bl (decide (i < j))):=rfl
@[simp] theorem f_le:leI (.int i) (.int j)=some (.bl (decide (i<=j))):=rfl
@[simp] theorem f_gt:gtI (.int i) (.int j)=some (.bl (decide (j < i))):=rfl
@[simp] theorem f_ge:geI (.int i) (.int j)=some (.bl (decide (j<=i))):=rfl
@[simp ↓] theorem LM:wp (lft (modI (.int i) (.int j))) Z QD↔0 < j/\QD (.int (i % j)) Z:=by simp[modI,intF]
@[simp ↓] theorem KZ:wp (lft (divI (.int i) (.int j))) Z QD↔(0 < j/\j < 2 ^ 200)/\QD (.int (i / j)) Z:=by simp only[divI,intF,decide_eq_true_eq,sB]
@[simp ↓] theorem KY:wp (lft (mulI (.int i) (.int j))) Z QD↔((-(2 ^ 64) < i/\i < 2 ^ 64)\/(-(2 ^ 64) < j/\j < 2 ^ 64))/\QD (.int (i*j)) Z:=by simp only[mulI,intF,decide_eq_true_eq,sB]
@[simp ↓] theorem Kv:wp (lft (powI (.int i) (.int j))) Z QD↔(0<=j/\j<=1000000/\i.natAbs < 2 ^ 64)/\QD (.int (i ^ j.toNat)) Z:=by simp only[powI,intF,decide_eq_true_eq,sB]
@[simp] theorem LC:ixF (.lst ds) (.int i)=atI ds i:=rfl
@[simp] theorem Kl:ixF (.tup ds) (.int i)=atI ds i:=rfl
theorem rN{α:Type}{ds:List α}:atI ds (n:Int)=ds[n]?:=by
 unfold atI ixN;rw[if_pos (by omega)];by_cases h:(n:Int) < ds.length
 ·rw[if_pos h];simp
 ·rw[if_neg h];have:ds.length<=n:=by omega
  simp[M3 this]
@[simp] theorem KU{α:Type}{a:α}{ds:List α}:atI (a::ds) 0=some a:=by
 rw[show(0:Int)=((0:Nat):Int) from rfl,rN];rfl
@[simp] theorem Lc{α:Type}{a b:α}{ds:List α}:atI (a::b::ds) 1=some b:=by
 rw[show(1:Int)=((1:Nat):Int) from rfl,rN];rfl
@[simp] theorem Ko{α:Type}{a b c:α}{ds:List α}:atI (a::b::c::ds) 2=some c:=by
 rw[show(2:Int)=((2:Nat):Int) from rfl,rN];rfl
theorem zA{α:Type}{ds:List α}{i:Int}(h0:0<=i)(h1:i < ds.length):∃a,atI ds i=some a/\a∈ds:=by
 obtain⟨n,rfl⟩:=Int.eq_ofNat_of_zero_le h0;have h:n < ds.length:=by omega
 exact⟨ds[n],by rw[rN,h_ h],MF h⟩
@[simp] theorem LH{a b:D}:stF 1 d (a::b::ds)=some (a::d::ds):=by
 unfold stF ixN;rw[if_pos (by omega),if_pos (by simp;omega)];rfl
@[simp] theorem Lz{a b c:D}:stF 2 d (a::b::c::ds)=some (a::b::d::ds):=by
 unfold stF ixN;rw[if_pos (by omega),if_pos (by simp;omega)];rfl
@[simp] theorem Km:lenF [.lst ds]=some (.int ds.length):=rfl
@[simp] theorem Kq:lenF [.tup ds]=some (.int ds.length):=rfl
@[simp] theorem K8:minF [.int i,.int j]=some (.int (min i j)):=by
 unfold minF;dsimp only;congr 2;split<;>omega
@[simp] theorem Li:maxF [.int i,.int j]=some (.int (max i j)):=by
 unfold maxF;dsimp only;congr 2;split<;>omega
@[simp] theorem KP:tupF [.lst ds]=some (.tup ds):=rfl
@[simp] theorem K6:tupF [.tup ds]=some (.tup ds):=rfl
@[simp] theorem LK:lstF [.lst ds]=some ds:=rfl
@[simp] theorem KJ:lstF [.tup ds]=some ds:=rfl
@[simp] theorem KN:seqI (.lst ds)=some ds:=rfl
@[simp] theorem K7:seqI (.tup ds)=some ds:=rfl
@[simp] theorem Ky{b:Bool}:reprF [.bl b]=some (.str (if b then "True" else "False")):=rfl
@[simp] theorem K0{lo:Option Int}:slF (.lst ds) lo hi=some (.lst (cutD ds lo hi)):=rfl
@[simp] theorem K3{xs:List D}:zipI [.lst xs,.lst ys]=some (pairsD xs ys):=rfl
@[simp] theorem KW{xs:List D}:zipI [.tup xs,.tup ys]=some (pairsD xs ys):=rfl
@[simp] theorem LP{xs:List D}:enumI [.lst xs]=some (numD 0 xs):=rfl
@[simp] theorem KR{xs:List D}:enumI [.tup xs]=some (numD 0 xs):=rfl
@[simp ↓] theorem K4:wp (lft (rngI1 [.int j])) Z QL↔(-1000000<=j/\j<=1000000)/\QL (rngD 0 j.toNat) Z:=by simp only[rngI1,sB]
@[simp ↓] theorem LG:wp (lft (rngI2 [.int i,.int j])) Z QL↔((-1000000<=i/\i<=1000000)/\-1000000<=j/\j<=1000000)/\QL (rngD i (j - i).toNat) Z:=by simp only[rngI2,sB]
@[simp ↓] theorem Lu{a b:D}:wp (lft (eqF neg a b)) Z QD↔(dep a<=100/\dep b<=100)/\QD (.bl (if neg then !deq a b else deq a b)) Z:=by simp only[eqF,sB]
@[simp ↓] theorem LD{xs:List D}:wp (lft (catF (.lst xs) (.lst ys))) Z QL↔xs.length+ys.length<=lim/\QL (xs++ys) Z:=by simp only[catF,sB]
@[simp] theorem Lg{Z:Gm}{k:Nat}(h:Z[k]?=some (some (.own ds))):isMut Z k=true:=by unfold isMut;rw[h];rfl
@[simp] theorem Kj{a:Int}:dep (.int a)=0:=by simp[dep]
@[simp] theorem Lf:dep (.lst [])=1:=by simp[dep,depA]
@[simp] theorem Lo{a b:Int}:deq (.int a) (.int b)=(a == b):=by simp[deq]
@[simp] theorem BN:deq (.lst ds) (.lst [])=ds.isEmpty:=by cases ds<;>simp[deq,deqA]
@[simp] theorem LB{a b:Bool}:deq (.str (if a then "True" else "False")) (.str (if b then "True" else "False"))=(a == b):=by cases a<;>cases b<;>decide
@[simp] theorem zf:lim=1000000:=rfl
@[simp] theorem LO{P:List D->Prop}:(∃es,appF d ds=some es/\P es)↔ds.length < 1000000/\P (ds++[d]):=by
 unfold appF;rw[zf];by_cases h:ds.length < 1000000<;>simp[h]
@[simp] theorem Kx{xs:List D}{P:List D->Prop}:(∃es,extF (.lst xs) ds=some es/\P es)↔ds.length+xs.length<=1000000/\P (ds++xs):=by
 unfold extF;rw[zf];by_cases h:ds.length+xs.length<=1000000<;>simp[h]
theorem qz{a b:M Fl}{QS:Fl->Gm->Prop}(h:∀K:Fl->Gm->Prop,(∀ae,wp b ae QS->K .nx ae)->(∀r ae,QS (.rt r) ae->K (.rt r) ae)->wp a Z K):wp (seqS a b) Z QS:=by
 rw[yo];exact h _ (λ_ h=>h) (λ_ _ h=>h)
theorem qX{a b:M Fl}{QS:Fl->Gm->Prop}(P:Gm->Prop)(h:∀K:Fl->Gm->Prop,(∀ae,P ae->K .nx ae)->(∀r ae,QS (.rt r) ae->K (.rt r) ae)->wp a Z K)(h2:∀ae,P ae->wp b ae QS):wp (seqS a b) Z QS:=by
 rw[yo];exact h _ (λ_ p=>h2 _ p) (λ_ _ h=>h)
theorem sN{QR:R->List R->Prop}(hl:rs.length=ar)(h:∀K:Fl->Gm->Prop,(∀r ah,(∃l,fin rs ah=some l/\QR r l)->K (.rt r) ah)->(∀ah,(∃l,fin rs ah=some l/\QR (.val .non) l)->K .nx ah)->wp body (rs.map some++Mw (n - rs.length) none) K):wpF (fnD n ar body) rs QR:=
 sw hl (h _ (λr _ h=>⟨r,rfl,h⟩) (λ_ h=>⟨_,rfl,h⟩))
theorem uz{QR:R->List D->Prop}(hl:ds.length+1=ar)(h:∀K:Fl->Gm->Prop,(∀r c' ah,(∃t,fin (ds.map .val) ah=some t)->QR r c'->K (.rt r) (some (.bor c')::ah))->(∀c' ah,(∃t,fin (ds.map .val) ah=some t)->QR (.val .non) c'->K .nx (some (.bor c')::ah))->wp body ((.bor c::ds.map .val).map some++Mw (n - (ds.length+1)) none) K):wpB (fnD n ar body) c ds QR:=by
 refine ET (sN (by simpa using hl) λK k1 k2=>?_);refine(by simpa using h K (λr c' ah ⟨t,e⟩ q=>k1 r _ ⟨_,by simp[fin,e],c',t,rfl,q⟩) (λc' ah ⟨t,e⟩ q=>k2 _ ⟨_,by simp[fin,e],c',t,rfl,q⟩))
theorem yt{α:Type}(xs:List α)(f:α->D)(p:α->Bool)(v:α->D)(h:wp it Z λds ae=>ds=xs.map f/\xs.length<=1000000/\(∀x∈xs,∀cs:Gm,cs.length=m->wp (az (f x)) (cs++ae) λ_ ao=>wp ts ao λb aO=>b=p x/\(if b=true then wp el aO λy a9=>y=v x/\∃cJ,cJ.length=m/\a9=cJ++ae else ∃cJ,cJ.length=m/\aO=cJ++ae)) ∧
   QL ((xs.filter p).map v) ae):wp (compO m it az ts el) Z QL:=by
 unfold compO;rw[qY];refine h.mono λds ae ⟨fJ,hl,hp,hq⟩=>?_
 subst fJ;rw[if_pos (by simpa using hl)]
 have key:∀(es:List α) (cs:Gm),(∀d∈es,d∈xs)->cs.length=m->∃cJ,cJ.length=m/\compM az ts el (es.map f) (cs++ae)=some ((es.filter p).map v,cJ++ae):=by
  intro es
  induction es with
  | nil=>intro cs _ hc;exact⟨cs,hc,rfl⟩
  | cons d es ih =>
   intro cs hm hc;obtain⟨u,ao,e1,b,aO,e2,hb,h3⟩:=hp d (hm d g_) cs hc;have fU:∀d∈es,d∈xs:=λd hd=>hm d (j_ _ hd)
   cases b with
   | false =>
    rw[if_neg y_] at h3;obtain⟨cJ,bX,rfl⟩:=h3;obtain⟨kH,c9,e3⟩:=ih cJ fU bX;refine⟨kH,c9,?_⟩;rw[K_,compM];unfold bnd;simp only[e1,e2,MX,if_false];rw[e3,Pe,←hb];simp
   | true =>
    rw[if_pos rfl] at h3;obtain⟨x,a9,e4,rfl,cJ,bX,rfl⟩:=h3;obtain⟨kH,c9,e3⟩:=ih cJ fU bX;refine⟨kH,c9,?_⟩;rw[K_,compM];unfold bnd;simp only[e1,e2,if_true,e4];rw[e3,Pe,←hb];rfl
 obtain⟨cJ,bX,e⟩:=key xs (Mw m none) (λ_ h=>h) (by simp);refine⟨_,_,?_,hq⟩;unfold inC;rw[e];simp[bX,QC]
theorem rS{α:Type}(xs:List α)(f:α->D)(p:α->Bool)(v:α->D)(h:wp it Z λds ae=>ds=xs.map f/\xs.length<=1000000/\(∀x∈xs,∀a,wp (az (f x)) (a::ae) λ_ ao=>wp ts ao λb aO=>b=p x/\(if b=true then wp el aO λy a9=>y=v x/\∃a',a9=a'::ae else ∃a',aO=a'::ae)) ∧
   QL ((xs.filter p).map v) ae):wp (compO 1 it az ts el) Z QL:=by
 refine yt xs f p v (h.mono λds ae ⟨h1,h2,h3,h4⟩=>⟨h1,h2,λx hx cs hc=>?_,h4⟩);obtain⟨a,rfl⟩:=List.length_eq_one_iff.mp hc;refine(h3 x hx a).mono λ_ ao h=>h.mono λb aO ⟨h5,h6⟩=>⟨h5,?_⟩
 cases b with
 | true=>simp only[if_true] at h6 ⊢;exact h6.mono λy a9 ⟨h7,a',h8⟩=>⟨h7,[a'],rfl,h8⟩
 | false=>simp only[MX,if_false] at h6 ⊢;obtain⟨a',h8⟩:=h6;exact⟨[a'],rfl,h8⟩
theorem uF{α:Type}(xs:List α)(f:α->D)(p:α->Bool)(v:α->D)(h:wp it Z λds ae=>ds=xs.map f/\xs.length<=1000000/\(∀x∈xs,∀a b,wp (az (f x)) (a::b::ae) λ_ ao=>wp ts ao λb aO=>b=p x/\(if b=true then wp el aO λy a9=>y=v x/\∃a' b',a9=a'::b'::ae else ∃a' b',aO=a'::b'::ae)) ∧
   QL ((xs.filter p).map v) ae):wp (compO 2 it az ts el) Z QL:=by
 refine yt xs f p v (h.mono λds ae ⟨h1,h2,h3,h4⟩=>⟨h1,h2,λx hx cs hc=>?_,h4⟩)
 obtain⟨a,b,rfl⟩:∃a b,cs=[a,b]:=by
  match cs,hc with
  | [a,b],_=>exact⟨a,b,rfl⟩
 refine(h3 x hx a b).mono λ_ ao h=>h.mono λb aO ⟨h5,h6⟩=>⟨h5,?_⟩
 cases b with
 | true=>simp only[if_true] at h6 ⊢;exact h6.mono λy a9 ⟨h7,a',b',h8⟩=>⟨h7,[a',b'],rfl,h8⟩
 | false=>simp only[MX,if_false] at h6 ⊢;obtain⟨a',b',h8⟩:=h6;exact⟨[a',b'],rfl,h8⟩
theorem IS{α:Type}{f:α->Bool}{xs:List α}:blsD (xs.map λx=>.bl (f x))=some (xs.map f):=by
 induction xs with
 | nil=>rfl
 | cons x xs ih=>simp only[K_,blsD,ih]
theorem Ar{α:Type}{f:α->Bool}{xs:List α}:anyF [.lst (xs.map λx=>.bl (f x))]=some (.bl (xs.any f)):=by
 unfold anyF;simp only[IS];simp[Function.comp_def]
end
section
variable{α:Type}{Q:α->Gm->Prop}{QD:D->Gm->Prop}{QL:List D->Gm->Prop}{i j:Int}
theorem Cp{xs:List D}(h:SortOk xs):sortF [.lst xs]=some (sortD xs):=by
 unfold sortF;exact if_pos h
end
end DL
namespace DL
end DL
namespace Own
open PySem PySem.Spec PyProof.Rows L2 DL
noncomputable def v8:M Fl:=
 (seqS (setO 1 (lstA nilA))
  (seqS (forS (itS (nm 0)) (tgN 2)
  (extS 1 (frz (fn1 rngI2 (consA (op2 ixF (nm 2) (ret (.int 0))) (consA (op2 addF (op2 ixF (nm 2) (ret (.int 1))) (ret (.int 1))) nilA))))))
  (retO (fn1 setIF (consA (nm 1) nilA)))))
noncomputable def sj:List R->Option (R×List R):=fnD 3 1 v8
noncomputable def xj:M Fl:=
 (retO (compO 2 (fn1 zipI (consA (nm 0) (consA (sl3 slF (nm 0) (prt (ret (.int 1))) (ret none)) nilA))) (tgTup 2 (tgCons (tgN 0) (tgCons (tgN 1) tgNil))) (tst (op2 ltI (op2 addF (nm 0) (ret (.int 1))) (nm 1))) (tupA (consA (op2 addF (nm 0) (ret (.int 1))) (consA (op2 subI (nm 1) (ret (.int 1))) nilA)))))
noncomputable def sK:List R->Option (R×List R):=fnD 1 1 xj
noncomputable def xQ:M Fl:=
 (retS (fn1 sumF (consA (sl3 slF (nm 1) (prt (op2 ixF (nm 0) (ret (.int 0)))) (prt (op2 addF (op2 ixF (nm 0) (ret (.int 1))) (ret (.int 1))))) nilA)))
noncomputable def rV:List R->Option (R×List R):=fnD 2 2 xQ
noncomputable def xO:M Fl:=
 (seqS (setV 3 (frz (fn1 (coF sj) (consA (nm 0) nilA))))
  (seqS (setV 4 (frz (sortLam 2 (fn1 (cvF rV) (consA (nm 0) (consA (nm 1) nilA))) (frz (fn1 (coF sK) (consA (nm 3) nilA))))))
  (seqS (setV 5 (frz (fn1 sortF (consA (sl3 slF (nm 4) (ret none) (prt (op2 subI (nm 1) (ret (.int 1))))) nilA))))
  (seqS (setV 6 (frz (compO 1 (itS (sl3 slF (nm 4) (prt (op2 subI (nm 1) (ret (.int 1)))) (ret none))) (tgN 0) (ret true) (fn1 (cvF rV) (consA (nm 0) (consA (nm 3) nilA))))))
  (seqS (setV 7 (frz (op2 catF (sl3 slF (nm 3) (ret none) (prt (ret (.int 1)))) (frz (compO 1 (itS (nm 5)) (tgN 0) (ret true) (op2 addF (op2 ixF (nm 0) (ret (.int 1))) (ret (.int 1))))))))
  (seqS (setV 8 (frz (op2 catF (frz (compO 1 (itS (nm 5)) (tgN 0) (ret true) (op2 subI (op2 ixF (nm 0) (ret (.int 0))) (ret (.int 1))))) (sl3 slF (nm 3) (prt (un1 negI (ret (.int 1)))) (ret none)))))
  (retS (tupA (consA (fn1 sumF (consA (nm 6) nilA)) (consA (frz (fn1 zipLF (consA (nm 7) (consA (nm 8) nilA)))) (consA (op2 maxdF (nm 6) (ret (.int 0))) nilA)))))))))))
noncomputable def sZ:List R->Option (R×List R):=fnD 9 3 xO
noncomputable def w8:M Fl:=
 (seqS (setV 2 (un1 negI (ret (.int 1))))
  (seqS (forS (itS (nm 0)) (tgN 3)
  (seqS (ifS (notT (tst (chn3 ltI leI ltI (nm 2) (op2 ixF (nm 3) (ret (.int 0))) (op2 ixF (nm 3) (ret (.int 1))) (nm 1))))
  (retS (ret (.bl false))) (ret .nx))
  (setV 2 (op2 ixF (nm 3) (ret (.int 1))))))
  (retS (ret (.bl true)))))
noncomputable def uW:List R->Option (R×List R):=fnD 4 2 w8
noncomputable def xa:M Fl:=
 (seqS (setV 5 (frz (compO 1 (itS (nm 0)) (tgN 0) (ret true) (fn1 minF (consA (fn1 (cvF rV) (consA (nm 0) (consA (nm 3) nilA))) (consA (nm 5) nilA))))))
  (retS (andV (op2 geI (nm 4) (ret (.int 0))) (op2 (eqF false) (nm 3) (op2 subI (fn1 sumF (consA (nm 5) nilA)) (op2 mulI (op2 subI (nm 1) (ret (.int 1))) (nm 4)))))))
noncomputable def uG:List R->Option (R×List R):=fnD 6 5 xa
noncomputable def yj:M Fl:=
 (seqS (setV 4 (op2 ixF (nm 3) (ret (.int 1))))
  (seqS (ifS (orT (tst (op2 gtI (fn1 lenF (consA (nm 4) nilA)) (nm 1))) (notT (tst (fn1 (cvF uW) (consA (nm 4) (consA (fn1 lenF (consA (nm 2) nilA)) nilA))))))
  (retS (ret (.bl false))) (ret .nx))
  (seqS (setV 5 (frz (fn1 (coF sj) (consA (nm 0) nilA))))
  (seqS (setV 6 (frz (fn1 (coF sj) (consA (nm 4) nilA))))
  (seqS (ifS (tst (fn1 anyF (consA (frz (compO 1 (itS (nm 5)) (tgN 0) (ret true) (op2 (inF true) (nm 0) (nm 7)))) nilA)))
  (retS (ret (.bl false))) (ret .nx))
  (seqS (setV 7 (fn1 sumF (consA (frz (compO 1 (itS (nm 6)) (tgN 0) (tst (op2 (inF true) (nm 0) (nm 6))) (op2 ixF (nm 3) (nm 0)))) nilA)))
  (retS (andV (op2 (eqF false) (op2 ixF (nm 3) (ret (.int 0))) (nm 7)) (fn1 (cvF uG) (consA (frz (fn1 (coF sK) (consA (nm 5) nilA))) (consA (nm 1) (consA (nm 2) (consA (nm 7) (consA (op2 ixF (nm 3) (ret (.int 2))) nilA))))))))))))))
noncomputable def vh:List R->Option (R×List R):=fnD 8 4 yj
noncomputable def wy:M Fl:=
 (seqS (ifS (tst (op2 geI (nm 0) (op2 powI (ret (.int 10)) (ret (.int 18)))))
  (retS (nm 0)) (ret .nx))
  (seqS (setV 2 (op2 modI (op2 addF (op2 addF (op2 mulI (op2 modI (nm 0) (ret (.int 998244353))) (ret (.int 40692))) (op2 mulI (nm 1) (ret (.int 69621)))) (ret (.int 1009))) (ret (.int 2147483399))))
  (seqS (setV 3 (op2 modI (op2 addF (op2 addF (op2 mulI (nm 2) (nm 2)) (op2 mulI (nm 1) (ret (.int 48271)))) (op2 modI (nm 0) (ret (.int 131071)))) (ret (.int 2147483647))))
  (seqS (setV 4 (op2 modI (op2 addF (op2 addF (op2 mulI (nm 3) (nm 3)) (op2 mulI (nm 2) (ret (.int 17)))) (ret (.int 3))) (ret (.int 2147483629))))
  (retS (op2 addF (op2 mulI (op2 addF (op2 mulI (nm 2) (ret (.int 2147483647))) (nm 3)) (ret (.int 2147483629))) (nm 4)))))))
noncomputable def uD:List R->Option (R×List R):=fnD 5 2 wy
noncomputable def ye:M Fl:=
 (seqS (setO 1 (fn1 lstF (consA (sl3 slF (nm 0) (ret none) (prt (ret (.int 12)))) nilA)))
  (seqS (forS (fn1 enumI (consA (sl3 slF (nm 0) (prt (ret (.int 12))) (prt (ret (.int 63)))) nilA)) (tgTup 2 (tgCons (tgN 2) (tgCons (tgN 3) tgNil)))
  (stS 1 (op2 modI (nm 2) (ret (.int 12))) (op2 addF (atN 1 (op2 modI (nm 2) (ret (.int 12)))) (nm 3))))
  (retO (lstA (consA (nm 1) (consA (ret (.int 0)) (consA (ret (.int 0)) nilA)))))))
noncomputable def ug:List R->Option (R×List R):=fnD 4 1 ye
noncomputable def wa:M Fl:=
 (seqS (ifS (tst (op2 ltI (atN 0 (ret (.int 2))) (nm 1)))
  (seqS (setV 2 (atN 0 (ret (.int 1))))
  (seqS (setV 3 (op2 mulI (ret (.int 11)) (nm 2)))
  (seqS (ifS (tst (op2 ltI (nm 2) (fn1 lenF (consA (atN 0 (ret (.int 0))) nilA))))
  (setV 3 (op2 ixF (atN 0 (ret (.int 0))) (nm 2))) (ifS (tst (op2 (eqF true) (atN 0 (ret (.int 0))) (frz (lstA nilA))))
  (setV 3 (op2 modI (op2 ixF (atN 0 (ret (.int 0))) (op2 modI (op2 addF (op2 mulI (nm 2) (ret (.int 7))) (ret (.int 1))) (fn1 lenF (consA (atN 0 (ret (.int 0))) nilA)))) (op2 addF (op2 powI (ret (.int 10)) (ret (.int 17))) (op2 mulI (ret (.int 3)) (nm 2))))) (ret .nx)))
  (seqS (stS 0 (ret (.int 1)) (op2 addF (nm 2) (ret (.int 1))))
  (stS 0 (ret (.int 2)) (fn1 (cvF uD) (consA (nm 3) (consA (nm 2) nilA)))))))) (ret .nx))
  (seqS (setV 4 (op2 modI (atN 0 (ret (.int 2))) (nm 1)))
  (seqS (stS 0 (ret (.int 2)) (op2 divI (atN 0 (ret (.int 2))) (nm 1)))
  (retS (nm 4)))))
noncomputable def qO:List R->Option (R×List R):=fnD 5 2 wa
noncomputable def wB:M Fl:=
 (seqS (setO 2 (lstA nilA))
  (seqS (forS (fn1 rngI1 (consA (op2 addF (ret (.int 1)) (cbV 0 qO (consA (ret (.int 12)) nilA))) nilA)) (tgN 3)
  (seqS (setV 4 (cbV 0 qO (consA (nm 1) nilA)))
  (seqS (ifS (andT (tst (cmpN true 2 (frz (lstA nilA)))) (tst (op2 (eqF false) (cbV 0 qO (consA (ret (.int 5)) nilA)) (ret (.int 0)))))
  (setV 4 (fn1 minF (consA (op2 subI (nm 1) (ret (.int 1))) (consA (op2 addF (op2 addF (op2 ixF (atN 2 (un1 negI (ret (.int 1)))) (ret (.int 1))) (ret (.int 1))) (cbV 0 qO (consA (ret (.int 2)) nilA))) nilA)))) (ret .nx))
  (seqS (setV 5 (fn1 minF (consA (op2 subI (nm 1) (ret (.int 1))) (consA (op2 addF (nm 4) (op2 ixF (frz (lstA (consA (ret (.int 0)) (consA (ret (.int 0)) (consA (ret (.int 1)) (consA (ret (.int 2)) (consA (cbV 0 qO (consA (nm 1) nilA)) nilA))))))) (cbV 0 qO (consA (ret (.int 5)) nilA)))) nilA))))
  (appS 2 (tupA (consA (nm 4) (consA (nm 5) nilA))))))))
  (retS (nm 2))))
noncomputable def vU:List R->Option (R×List R):=fnD 6 2 wB
noncomputable def wv:M Fl:=
 (seqS (setV 1 (op2 ixF (frz (lstA (consA (op2 addF (ret (.int 1)) (cbV 0 qO (consA (ret (.int 12)) nilA))) (consA (ret (.int 30)) (consA (op2 addF (ret (.int 1)) (cbV 0 qO (consA (ret (.int 100)) nilA))) (consA (ret (.int 100)) nilA)))))) (cbV 0 qO (consA (ret (.int 4)) nilA))))
  (seqS (setV 2 (op2 ixF (frz (lstA (consA (ret (.int 1)) (consA (ret (.int 2)) (consA (ret (.int 6)) (consA (op2 powI (ret (.int 10)) (ret (.int 56))) nilA)))))) (cbV 0 qO (consA (ret (.int 4)) nilA))))
  (retO (compO 1 (fn1 rngI1 (consA (nm 1) nilA)) (tgN 0) (ret true) (op2 mulI (cbV 1 qO (consA (ret (.int 10)) nilA)) (cbV 1 qO (consA (nm 3) nilA)))))))
noncomputable def vT:List R->Option (R×List R):=fnD 3 1 wv
noncomputable def xo:M Fl:=
 (seqS (setK 1 dlit0)
  (seqS (forS (itS (nm 0)) (tgTup 2 (tgCons (tgN 2) (tgCons (tgN 3) tgNil)))
  (forS (fn1 rngI2 (consA (nm 2) (consA (op2 addF (nm 3) (ret (.int 1))) nilA))) (tgN 4)
  (putG 1 (nm 4) (ret (.bl true)))))
  (retK 1)))
noncomputable def sy:List R->Option (R×List R):=fnD 5 1 xo
noncomputable def xc:M Fl:=
 (seqS (setV 2 (frzK (fn1 (ckF sy) (consA (nm 0) nilA))))
  (seqS (setO 3 (lstA nilA))
  (seqS (setV 4 (ret .non))
  (seqS (forS (fn1 rngI2 (consA (fn1 minKF (consA (nm 2) nilA)) (consA (op2 addF (fn1 maxKF (consA (nm 2) nilA)) (ret (.int 1))) nilA))) (tgN 5)
  (ifS (tst (op2 (inDF true) (nm 5) (nm 2)))
  (setV 4 (ifV (tst (op2 (isNF false) (nm 4) (ret .non))) (op2 ixF (nm 1) (nm 5)) (op2 addF (nm 4) (op2 ixF (nm 1) (nm 5))))) (ifS (tst (op2 (isNF true) (nm 4) (ret .non)))
  (seqS (appS 3 (nm 4))
  (setV 4 (ret .non))) (ret .nx))))
  (retS (nm 3))))))
noncomputable def vF:List R->Option (R×List R):=fnD 6 2 xc
noncomputable def wG:M Fl:=
 (seqS (asgS (nm 4) (tgTup 3 (tgCons (tgN 5) (tgCons (tgN 6) (tgCons (tgN 7) tgNil)))))
  (seqS (ifS (orT (tst (op2 ltI (nm 7) (ret (.int 0)))) (tst (op2 gtI (fn1 lenF (consA (nm 6) nilA)) (nm 2))))
  (retS (ret (.bl false))) (ret .nx))
  (seqS (ifS (tst (op2 (eqF true) (frz (compO 2 (itS (nm 6)) (tgTup 2 (tgCons (tgN 0) (tgCons (tgN 1) tgNil))) (orT (tst (op2 ltI (nm 0) (ret (.int 0)))) (orT (tst (op2 gtI (nm 0) (nm 1))) (tst (op2 geI (nm 1) (fn1 lenF (consA (nm 5) nilA)))))) (ret (.int 1)))) (frz (lstA nilA))))
  (retS (ret (.bl false))) (ret .nx))
  (seqS (ifS (tst (op2 (eqF true) (frz (compO 2 (fn1 zipI (consA (nm 6) (consA (sl3 slF (nm 6) (prt (ret (.int 1))) (ret none)) nilA))) (tgTup 2 (tgCons (tgN 0) (tgCons (tgN 1) tgNil))) (tst (op2 geI (op2 ixF (nm 0) (ret (.int 1))) (op2 ixF (nm 1) (ret (.int 0))))) (ret (.int 1)))) (frz (lstA nilA))))
  (retS (ret (.bl false))) (ret .nx))
  (seqS (setV 8 (frzK (fn1 (ckF sy) (consA (nm 6) nilA))))
  (seqS (ifS (tst (op2 (eqF true) (frz (compO 1 (itDc (nm 0)) (tgN 0) (tst (op2 (inDF true) (nm 0) (nm 9))) (ret (.int 1)))) (frz (lstA nilA))))
  (retS (ret (.bl false))) (ret .nx))
  (seqS (ifS (tst (op2 (eqF true) (nm 5) (fn1 sumF (consA (frz (compO 1 (itDc (nm 8)) (tgN 0) (tst (op2 (inDF true) (nm 0) (nm 1))) (op2 ixF (nm 4) (nm 0)))) nilA))))
  (retS (ret (.bl false))) (ret .nx))
  (retS (op2 (eqF false) (nm 5) (op2 subI (fn1 sumF (consA (frz (compO 1 (itS (nm 1)) (tgN 0) (ret true) (fn1 minF (consA (nm 0) (consA (nm 8) nilA))))) nilA)) (op2 mulI (op2 subI (nm 2) (ret (.int 1))) (nm 7))))))))))))
noncomputable def uU:List R->Option (R×List R):=fnD 9 5 wG
noncomputable def wQ:M Fl:=
 (seqS (setV 3 (cbV 0 qO (consA (fn1 lenF (consA (nm 1) nilA)) nilA)))
  (seqS (asgS (op2 ixF (nm 1) (nm 3)) (tgTup 2 (tgCons (tgN 4) (tgCons (tgN 5) tgNil))))
  (seqS (setV 6 (op2 ixF (frz (lstA (consA (ret (.int 1)) (consA (un1 negI (ret (.int 1))) (consA (op2 powI (ret (.int 10)) (ret (.int 20))) (consA (un1 negI (ret (.int 3))) (consA (op2 subI (ret (.int 0)) (op2 powI (ret (.int 10)) (ret (.int 20)))) nilA))))))) (cbV 0 qO (consA (ret (.int 5)) nilA))))
  (seqS (setV 7 (cbV 0 qO (consA (ret (.int 8)) nilA)))
  (seqS (setV 8 (op2 ixF (frz (lstA (consA (tupA (consA (op2 addF (nm 4) (nm 6)) (consA (nm 5) nilA))) (consA (tupA (consA (nm 4) (consA (op2 addF (nm 5) (nm 6)) nilA))) (consA (tupA (consA (nm 4) (consA (nm 4) nilA))) (consA (tupA (consA (nm 5) (consA (nm 4) nilA))) nilA)))))) (op2 modI (nm 7) (ret (.int 4)))))
  (seqS (ifS (tst (op2 ltI (nm 7) (ret (.int 4))))
  (retS (frz (op2 catF (frz (op2 catF (sl3 slF (nm 1) (ret none) (prt (nm 3))) (frz (lstA (consA (nm 8) nilA))))) (sl3 slF (nm 1) (prt (op2 addF (nm 3) (ret (.int 1)))) (ret none))))) (ret .nx))
  (seqS (ifS (tst (op2 (eqF false) (nm 7) (ret (.int 4))))
  (retS (frz (op2 catF (sl3 slF (nm 1) (ret none) (prt (nm 3))) (sl3 slF (nm 1) (prt (op2 addF (nm 3) (ret (.int 1)))) (ret none))))) (ret .nx))
  (seqS (ifS (tst (op2 (eqF false) (nm 7) (ret (.int 5))))
  (retS (op2 ixF (frz (lstA (consA (frz (op2 catF (nm 1) (sl3 slF (nm 1) (prt (nm 3)) (prt (op2 addF (nm 3) (ret (.int 1))))))) (consA (frz (op2 rvF (nm 1) (un1 negI (ret (.int 1))))) nilA)))) (cbV 0 qO (consA (ret (.int 2)) nilA)))) (ret .nx))
  (seqS (ifS (tst (op2 (eqF false) (nm 7) (ret (.int 6))))
  (seqS (setV 9 (op2 addF (nm 4) (cbV 0 qO (consA (fn1 maxF (consA (ret (.int 1)) (consA (op2 subI (nm 5) (nm 4)) nilA))) nilA))))
  (retS (frz (op2 catF (frz (op2 catF (sl3 slF (nm 1) (ret none) (prt (nm 3))) (frz (lstA (consA (tupA (consA (nm 4) (consA (nm 9) nilA))) (consA (tupA (consA (op2 addF (nm 9) (ret (.int 1))) (consA (nm 5) nilA))) nilA)))))) (sl3 slF (nm 1) (prt (op2 addF (nm 3) (ret (.int 1)))) (ret none)))))) (ret .nx))
  (retS (frz (op2 catF (frz (op2 catF (sl3 slF (nm 1) (ret none) (prt (nm 3))) (frz (lstA (consA (tupA (consA (nm 4) (consA (op2 ixF (op2 ixF (nm 1) (op2 modI (op2 addF (nm 3) (ret (.int 1))) (fn1 lenF (consA (nm 1) nilA)))) (ret (.int 1))) nilA))) nilA))))) (sl3 slF (nm 1) (prt (op2 addF (nm 3) (ret (.int 2)))) (ret none))))))))))))))
noncomputable def vQ:List R->Option (R×List R):=fnD 10 3 wQ
noncomputable def xt:M Fl:=
 (seqS (asgS (nm 1) (tgTup 3 (tgCons (tgN 3) (tgCons (tgN 4) (tgCons (tgN 5) tgNil)))))
  (seqS (setV 6 (cbV 0 qO (consA (ret (.int 6)) nilA)))
  (seqS (setV 7 (op2 ixF (frz (lstA (consA (ret (.int 1)) (consA (un1 negI (ret (.int 1))) (consA (ret (.int 7)) (consA (op2 powI (ret (.int 10)) (ret (.int 25))) (consA (op2 subI (ret (.int 0)) (nm 5)) nilA))))))) (cbV 0 qO (consA (ret (.int 5)) nilA))))
  (seqS (ifS (tst (op2 (eqF false) (nm 6) (ret (.int 0))))
  (retS (tupA (consA (op2 addF (nm 3) (nm 7)) (consA (nm 4) (consA (nm 5) nilA))))) (ret .nx))
  (seqS (ifS (tst (op2 (eqF false) (nm 6) (ret (.int 1))))
  (retS (tupA (consA (nm 3) (consA (nm 4) (consA (op2 addF (nm 5) (nm 7)) nilA))))) (ret .nx))
  (seqS (ifS (tst (op2 (eqF false) (nm 4) (frz (lstA nilA))))
  (retS (tupA (consA (nm 3) (consA (frz (lstA (consA (tupA (consA (ret (.int 0)) (consA (op2 subI (nm 2) (ret (.int 1))) nilA))) nilA))) (consA (nm 5) nilA))))) (ret .nx))
  (retS (tupA (consA (nm 3) (consA (cbV 0 vQ (consA (nm 4) (consA (nm 2) nilA))) (consA (nm 5) nilA)))))))))))
noncomputable def vR:List R->Option (R×List R):=fnD 8 3 xt
noncomputable def wo:M Fl:=
 (seqS (setO 1 (fn1 (coF ug) (consA (nm 0) nilA)))
  (seqS (forS (fn1 rngI1 (consA (ret (.int 4)) nilA)) (tgN 2)
  (seqS (setV 3 (op2 ixF (frz (lstA (consA (op2 addF (ret (.int 1)) (cbV 1 qO (consA (ret (.int 6)) nilA))) (consA (op2 addF (ret (.int 1)) (cbV 1 qO (consA (ret (.int 14)) nilA))) (consA (ret (.int 99)) nilA))))) (cbV 1 qO (consA (ret (.int 3)) nilA))))
  (seqS (setV 4 (frz (cbO 1 vT nilA)))
  (seqS (setV 5 (cbV 1 vU (consA (fn1 lenF (consA (nm 4) nilA)) nilA)))
  (seqS (setO 6 (lstA (consA (fn1 (cvF sZ) (consA (frz (fn1 lstF (consA (nm 5) nilA))) (consA (nm 3) (consA (frz (fn1 lstF (consA (nm 4) nilA))) nilA)))) (consA (tupA (consA (ret (.int 0)) (consA (frz (lstA (consA (tupA (consA (ret (.int 0)) (consA (op2 subI (fn1 lenF (consA (nm 4) nilA)) (ret (.int 1))) nilA))) nilA))) (consA (ret (.int 0)) nilA)))) (consA (tupA (consA (ret (.int 0)) (consA (frz (lstA nilA)) (consA (ret (.int 0)) nilA)))) nilA)))))
  (seqS (forS (fn1 rngI1 (consA (ret (.int 8)) nilA)) (tgN 7)
  (appS 6 (cbV 1 vR (consA (atN 6 (op2 mulI (cbV 1 qO (consA (lenN 6) nilA)) (cbV 1 qO (consA (ret (.int 2)) nilA)))) (consA (fn1 lenF (consA (nm 4) nilA)) nilA)))))
  (seqS (setO 8 (lstA nilA))
  (seqS (forS (itS (op2 ixF (atN 6 (ret (.int 0))) (ret (.int 1)))) (tgTup 2 (tgCons (tgN 9) (tgCons (tgN 10) tgNil)))
  (extS 8 (frz (compO 1 (fn1 rngI2 (consA (nm 9) (consA (op2 addF (nm 10) (ret (.int 1))) nilA))) (tgN 0) (ret true) (tupA (consA (nm 0) (consA (nm 0) nilA)))))))
  (seqS (appS 6 (tupA (consA (op2 ixF (atN 6 (ret (.int 0))) (ret (.int 0))) (consA (nm 8) (consA (op2 ixF (atN 6 (ret (.int 0))) (ret (.int 2))) nilA)))))
  (seqS (setV 11 (frzK (fn1 (ckF sy) (consA (nm 5) nilA))))
  (seqS (setV 12 (fn1 (cvF vF) (consA (nm 5) (consA (nm 4) nilA))))
  (seqS (setV 13 (tupA (consA (frz (fn1 lstF (consA (nm 5) nilA))) (consA (frz (fn1 lstF (consA (nm 4) nilA))) nilA))))
  (forS (itS (nm 6)) (tgN 14)
  (seqS (setV 15 (fn1 reprG (consA (nm 14) nilA)))
  (forS (itS (frz (lstA (consA (nm 3) (consA (op2 addF (nm 3) (ret (.int 1))) (consA (fn1 maxF (consA (ret (.int 1)) (consA (op2 subI (nm 3) (ret (.int 1))) nilA))) nilA)))))) (tgN 16)
  (seqS (setV 17 (fn1 (cvF uU) (consA (nm 11) (consA (nm 12) (consA (nm 16) (consA (nm 4) (consA (nm 14) nilA)))))))
  (seqS (setV 18 (fn1 (cvF vh) (consA (op2 ixF (nm 13) (ret (.int 0))) (consA (nm 16) (consA (op2 ixF (nm 13) (ret (.int 1))) (consA (nm 14) nilA))))))
  (ifS (orT (tst (op2 (eqF true) (fn1 reprG (consA (nm 18) nilA)) (fn1 reprG (consA (nm 17) nilA)))) (orT (tst (op2 (eqF true) (fn1 reprG (consA (nm 14) nilA)) (nm 15))) (tst (op2 (eqF true) (nm 13) (tupA (consA (nm 5) (consA (nm 4) nilA)))))))
  (retS (ret (.bl false))) (ret .nx)))))))))))))))))))
  (retS (ret (.bl true)))))
noncomputable def sT:List R->Option (R×List R):=fnD 19 1 wo
theorem nk(h:decide N.Nodup=true:=by kernel_rfl):N.Nodup:=of_decide_eq_true h
theorem en(i:Nat){B:BB}{x:Str}(hN:X.N[i]?=some x:=by rfl)(hv:visB X.env.scope x=true:=by rfl)(hd:(x == ("__debug__":Str))=false:=by decide)(aW:(x == ("__classdict__":Str))=false:=by decide):ED X B (.Name x pos) (nm i):=AH (pv i hN hv hd aW)
noncomputable def top(i:Nat):Nc:=PySem.Challenge.pw_roofpost_k64_few_stretches_looked_at.main.body.getD i (.Pass ⟨0,0,0,0⟩)
noncomputable abbrev yc:Nc:=top 1
noncomputable abbrev wm:Nc:=top 2
noncomputable abbrev wj:Nc:=top 3
noncomputable abbrev wD:Nc:=top 4
noncomputable abbrev vX:Nc:=top 5
noncomputable abbrev yk:Nc:=top 6
noncomputable abbrev wJ:Nc:=top 7
noncomputable abbrev xq:Nc:=top 9
noncomputable abbrev yf:Nc:=top 10
noncomputable abbrev xk:Nc:=top 11
noncomputable abbrev wu:Nc:=top 12
noncomputable abbrev wK:Nc:=top 13
noncomputable abbrev wV:Nc:=top 14
noncomputable abbrev xu:Nc:=top 15
noncomputable abbrev wE:Nc:=top 16
noncomputable abbrev wY:Nc:=top 17
noncomputable abbrev xV:Nc:=top 18
noncomputable abbrev xG:Nc:=top 19
structure Cd(P:B_)(w:J_)(K:PySem.W.Frag)(mg:Str->Option b_)(base:L4)(k:Nat)(f:i_)(fd:PP)(ps:List Str)(g:List R->Option (R×List R))(x:Str):Prop where
 G:FnOk P w K mg base CX0 k f fd ps (spD K g)
 b:Binds K fd ps []
 p:QN K (.ref f)=true
 m:mg x=some (.ref f)
abbrev Hs(P w K mg base f fd):=Cd P w K mg base 7 f fd ["stretches", "many", "counts"] sZ "few_of"
abbrev AM(P w K mg base f fd):=Cd P w K mg base 2 f fd ["stretches"] sj "numbers_of"
abbrev y8(P w K mg base f fd):=Cd P w K mg base 2 f fd ["numbers"] sK "gaps_of"
abbrev Av(P w K mg base f fd):=Cd P w K mg base 2 f fd ["gap", "counts"] rV "weight_of"
abbrev HH(P w K mg base f fd):=Cd P w K mg base 4 f fd ["stretches", "many", "counts", "thing"] vh "is_few"
abbrev Es(P w K mg base f fd):=Cd P w K mg base 2 f fd ["some", "bound"] uW "is_row"
abbrev E6(P w K mg base f fd):=Cd P w K mg base 3 f fd ["gaps", "many", "counts", "needless", "mark"] uG "is_mark"
abbrev ID(P w K mg base f fd):=Cd P w K mg base 2 f fd ["cell", "at"] uD "_law_blend"
abbrev JS(P w K mg base f fd):=Cd P w K mg base 2 f fd ["script"] ug "_law_pot"
abbrev uJ(P w K mg base f fd):=Cd P w K mg base 3 f fd ["pot", "upto"] qO "_law_pick"
abbrev DA(P w K mg base f fd):=Cd P w K mg base 4 f fd ["pot", "size"] vU "_law_stretches"
abbrev FT(P w K mg base f fd):=Cd P w K mg base 4 f fd ["pot"] vT "_law_counts"
abbrev xW(P w K mg base f fd):=Cd P w K mg base 2 f fd ["stretches"] sy "_law_had"
abbrev EC(P w K mg base f fd):=Cd P w K mg base 3 f fd ["stretches", "counts"] vF "_law_gaps"
abbrev Hr(P w K mg base f fd):=Cd P w K mg base 3 f fd ["had", "gaps", "many", "counts", "thing"] uU "_law_is_few"
abbrev Cm(P w K mg base f fd):=Cd P w K mg base 4 f fd ["pot", "some", "size"] vQ "_law_bent_list"
abbrev CB(P w K mg base f fd):=Cd P w K mg base 5 f fd ["pot", "thing", "size"] vR "_law_bent"
section
variable{P:B_}{w:J_}{K:PySem.W.Frag}
theorem HV:FnScope ["stretches", "many", "counts", "numbers", "gaps", "out", "weights", "lows", "highs"] ["stretches", "many", "counts"] (defScope yc):=⟨rfl,rfl,rfl,by decide +kernel,rfl,by decide +kernel,by decide +kernel⟩
theorem Ix{c:i_}(F:Fun K "few_of" "few_of" yc f fd)(iW:nsIn K My "few_of"=some (some (.ref f)))(fD:OF K "few_of"=some (c,P')){cO' cf'}(cK:AM P w K mg base cO' cf'){eo' dW'}(dW:y8 P w K mg base eo' dW'){c3' cP'}(cL:Av P w K mg base c3' cP')(bn:mg "sorted"=none)(aT:mg "sum"=none)(aI:mg "list"=none)(bS:mg "zip"=none)(bz:mg "max"=none):FnOk P w K mg base CX0 7 f fd ["stretches", "many", "counts"] (spD K sZ):=
 EW (k:=6) (N:=["stretches", "many", "counts", "numbers", "gaps", "out", "weights", "lows", "highs"]) F HV iW fD xO (λay aW A outer s H E B hr=>rh
  (qy (qE (i:=3) nk (qB (sW cK.G (hr.mono (by decide)) rfl cK.m cK.p cK.b (gV (en 0) pL rfl))))
  (qy (qE (i:=4) nk (qB (Io (kb:=3) (hr.mono (by decide)) rfl bn (E8 (jc:=2) (g:= "gap") (y:= "counts") rfl rfl (λA s H f cv hr=>(rX cL.G (hr.mono (by decide)) rfl cL.m cL.p cL.b (gV (en 0) (gV (en 1) pL rfl) rfl)))) fD aW rfl rfl rfl (qB (sW dW.G (hr.mono (by decide)) rfl dW.m dW.p dW.b (gV (en 3) pL rfl))))))
  (qy (qE (i:=5) nk (qB (IG hr rfl bn (gV (rg (en 4) rA (qZ (rp (en 1) i'))) pL rfl))))
  (qy (qA (yC (i:=6) (N':=["gap", "-stretches", "-many", "counts", "-numbers", "-gaps", "-out", "-weights", "-lows", "-highs"]) (m:=1) (CompScope.of (by kernel_rfl)) rfl nk (rF (rg (en 4) (qZ (rp (en 1) i')) rA)) (λ_ _ _ _=>(gd_n (i:=0) (m:=1) nk)) (λ_ _ _ _=>sh) (λ_ _ _ _=>(rX cL.G (hr.mono (by decide)) rfl cL.m cL.p cL.b (gV (en 0) (gV (en 3) pL rfl) rfl)))))
  (qy (qE (i:=7) nk (qB (rY (rg (en 3) rA (qZ i')) (qB (rP (N':=["gap", "-stretches", "-many", "-counts", "-numbers", "-gaps", "-out", "-weights", "-lows", "-highs"]) (m:=1) (CompScope.of (by kernel_rfl)) rfl (rF (en 5)) (λ_ _ _ _=>(gd_n (i:=0) (m:=1) nk)) (λ_ _ _ _=>sh) (λ_ _ _ _=>(qF (qG (en 0) i') i')))))))
  (qy (qE (i:=8) nk (qB (rY (qB (rP (N':=["gap", "-stretches", "-many", "-counts", "-numbers", "-gaps", "-out", "-weights", "-lows", "-highs"]) (m:=1) (CompScope.of (by kernel_rfl)) rfl (rF (en 5)) (λ_ _ _ _=>(gd_n (i:=0) (m:=1) nk)) (λ_ _ _ _=>sh) (λ_ _ _ _=>(rp (qG (en 0) i') i')))) (rg (en 3) (qZ (sd i')) rA))))
  (qC (qA (qM (qS (gV (tQ rfl rfl aT (gV (en 6) pL rfl)) (gV (qB (CW rfl rfl aI rfl bS (gV (en 7) (gV (en 8) pL rfl) rfl))) (gV (Hg rfl rfl bz (en 6) i') pL rfl) rfl) rfl))))))))))))
theorem CS:FnScope ["stretches", "numbers", "stretch"] ["stretches"] (defScope wm):=⟨rfl,rfl,rfl,by decide +kernel,rfl,by decide +kernel,by decide +kernel⟩
theorem Dg(F:Fun K "numbers_of" "numbers_of" wm f fd)(aI:mg "list"=none)(ax:mg "range"=none)(bn:mg "sorted"=none)(fu:mg "set"=none):FnOk P w K mg base CX0 2 f fd ["stretches"] (spD K sj):=
 rj (k:=1) (N:=["stretches", "numbers", "stretch"]) F CS v8 (λay A outer s H E B hr=>rh
  (qy (qA (sJ (i:=1) nk (qN pL)))
  (qy (rM RG rfl (rF (en 0)) (gd_n (i:=2) (m:=100) nk)
  (qC (qA (BA (pv 1) (qB (Hx rfl rfl aI rfl ax (gV (qG (en 2) i') (gV (qF (qG (en 2) i') i') pL rfl) rfl)))))))
  (qC (qA (vo (E7 hr rfl bn rfl fu (gV (en 1) pL rfl))))))))
theorem Dd:FnScope ["numbers"] ["numbers"] (defScope wj):=⟨rfl,rfl,rfl,by decide +kernel,rfl,by decide +kernel,by decide +kernel⟩
theorem GZ(F:Fun K "gaps_of" "gaps_of" wj f fd)(bS:mg "zip"=none):FnOk P w K mg base CX0 2 f fd ["numbers"] (spD K sK):=
 rj (k:=1) (N:=["numbers"]) F Dd xj (λay A outer s H E B hr=>rh
  (qC (qA (vo (rP (N':=["one", "other", "-numbers"]) (m:=2) (CompScope.of (by kernel_rfl)) rfl (yT rfl bS (gV (en 0) (gV (rg (en 0) (qZ i') rA) pL rfl) rfl)) (λ_ _ _ _=>(r9 (m:=2) rfl (rb (gd_n (i:=0) (m:=2) nk) (rb (gd_n (i:=1) (m:=2) nk) sf)))) (λ_ _ _ _=>(tw (tu (qF (en 0) i') (en 1)))) (λ_ _ _ _=>(qS (gV (qF (en 0) i') (gV (rp (en 1) i') pL rfl) rfl))))))))
theorem IR:FnScope ["gap", "counts"] ["gap", "counts"] (defScope wD):=⟨rfl,rfl,rfl,by decide +kernel,rfl,by decide +kernel,by decide +kernel⟩
theorem Dh(F:Fun K "weight_of" "weight_of" wD f fd)(aT:mg "sum"=none):FnOk P w K mg base CX0 2 f fd ["gap", "counts"] (spD K rV):=
 rj (k:=1) (N:=["gap", "counts"]) F IR xQ (λay A outer s H E B hr=>rh
  (qC (qA (qM (tQ rfl rfl aT (gV (rg (en 1) (qZ (qG (en 0) i')) (qZ (qF (qG (en 0) i') i'))) pL rfl))))))
theorem Gj:FnScope ["stretches", "many", "counts", "thing", "some", "asked", "had", "needless"] ["stretches", "many", "counts", "thing"] (defScope vX):=⟨rfl,rfl,rfl,by decide +kernel,rfl,by decide +kernel,by decide +kernel⟩
theorem CM(F:Fun K "is_few" "is_few" vX f fd){nF' mt'}(iZ:Es P w K mg base nF' mt'){cO' cf'}(cK:AM P w K mg base cO' cf'){mu' ky'}(i5:E6 P w K mg base mu' ky'){eo' dW'}(dW:y8 P w K mg base eo' dW')(aD:mg "len"=none)(fv:mg "any"=none)(aT:mg "sum"=none):FnOk P w K mg base CX0 4 f fd ["stretches", "many", "counts", "thing"] (spD K vh):=
 rj (k:=3) (N:=["stretches", "many", "counts", "thing", "some", "asked", "had", "needless"]) F Gj yj (λay A outer s H E B hr=>rh
  (qy (qE (i:=4) nk (qG (en 3) i'))
  (qy (qT (TW.td (t7 (v9 (rT rfl aD (gV (en 4) pL rfl)) (en 1)) (vv (zV (zU (rX iZ.G (hr.mono (by decide)) rfl iZ.m iZ.p iZ.b (gV (en 4) (gV (rT rfl aD (gV (en 2) pL rfl)) pL rfl) rfl)))))))
  (qC (qA (qM rE))) ra)
  (qy (qE (i:=5) nk (qB (sW cK.G (hr.mono (by decide)) rfl cK.m cK.p cK.b (gV (en 0) pL rfl))))
  (qy (qE (i:=6) nk (qB (sW cK.G (hr.mono (by decide)) rfl cK.m cK.p cK.b (gV (en 4) pL rfl))))
  (qy (qT (zU (J4 rfl rfl fv (gV (qB (rP (N':=["number", "-stretches", "-many", "-counts", "-thing", "-some", "-asked", "had", "-needless"]) (m:=1) (CompScope.of (by kernel_rfl)) rfl (rF (en 5)) (λ_ _ _ _=>(gd_n (i:=0) (m:=1) nk)) (λ_ _ _ _=>sh) (λ_ _ _ _=>(Ja hr (en 0) (en 7))))) pL rfl)))
  (qC (qA (qM rE))) ra)
  (qy (qE (i:=7) nk (tQ rfl rfl aT (gV (qB (rP (N':=["number", "-stretches", "-many", "counts", "-thing", "-some", "asked", "-had", "-needless"]) (m:=1) (CompScope.of (by kernel_rfl)) rfl (rF (en 6)) (λ_ _ _ _=>(gd_n (i:=0) (m:=1) nk)) (λ_ _ _ _=>(tw (DQ hr (en 0) (en 6)))) (λ_ _ _ _=>(qG (en 3) (en 0))))) pL rfl)))
  (qC (qA (qM (AV (xH hr (qG (en 3) i') (en 7)) (AS (rX i5.G (hr.mono (by decide)) rfl i5.m i5.p i5.b (so (qB (sW dW.G (hr.mono (by decide)) rfl dW.m dW.p dW.b (gV (en 5) pL rfl))) (en 1) (en 2) (en 7) (gV (qG (en 3) i') pL rfl) rfl rfl rfl rfl))))))))))))))
theorem Hi:FnScope ["some", "bound", "ahead", "stretch"] ["some", "bound"] (defScope yk):=⟨rfl,rfl,rfl,by decide +kernel,rfl,by decide +kernel,by decide +kernel⟩
theorem Gs(F:Fun K "is_row" "is_row" yk f fd) :FnOk P w K mg base CX0 2 f fd ["some", "bound"] (spD K uW):=
 rj (k:=1) (N:=["some", "bound", "ahead", "stretch"]) F Hi w8 (λay A outer s H E B hr=>rh
  (qy (qE (i:=2) nk (sd i'))
  (qy (rM RG rfl (rF (en 0)) (gd_n (i:=3) (m:=100) nk)
  (qy (qT (zV (Hy (en 2) (qG (en 3) i') (qG (en 3) i') (en 1)))
  (qC (qA (qM rE))) ra)
  (qC (qE (i:=2) nk (qG (en 3) i')))))
  (qC (qA (qM rE))))))
theorem HB:FnScope ["gaps", "many", "counts", "needless", "mark", "lesser"] ["gaps", "many", "counts", "needless", "mark"] (defScope wJ):=⟨rfl,rfl,rfl,by decide +kernel,rfl,by decide +kernel,by decide +kernel⟩
theorem E4(F:Fun K "is_mark" "is_mark" wJ f fd){c3' cP'}(cL:Av P w K mg base c3' cP')(bp:mg "min"=none)(aT:mg "sum"=none):FnOk P w K mg base CX0 3 f fd ["gaps", "many", "counts", "needless", "mark"] (spD K uG):=
 rj (k:=2) (N:=["gaps", "many", "counts", "needless", "mark", "lesser"]) F HB xa (λay A outer s H E B hr=>rh
  (qy (qA (yC (i:=5) (N':=["gap", "-gaps", "-many", "counts", "-needless", "mark", "-lesser"]) (m:=1) (CompScope.of (by kernel_rfl)) rfl nk (rF (en 0)) (λ_ _ _ _=>(gd_n (i:=0) (m:=1) nk)) (λ_ _ _ _=>sh) (λ_ _ _ _=>(vN rfl rfl bp (gV (rX cL.G (hr.mono (by decide)) rfl cL.m cL.p cL.b (gV (en 0) (gV (en 3) pL rfl) rfl)) (gV (en 5) pL rfl) rfl)))))
  (qC (qA (qM (AV (HW (en 4) i') (AS (xH hr (en 3) (rp (tQ rfl rfl aT (gV (en 5) pL rfl)) (rz (rp (en 1) i') (en 4)))))))))))
theorem Dy:FnScope ["cell", "at", "one", "two", "three"] ["cell", "at"] (defScope xq):=⟨rfl,rfl,rfl,by decide +kernel,rfl,by decide +kernel,by decide +kernel⟩
theorem EY(F:Fun K "_law_blend" "_law_blend" xq f fd) :FnOk P w K mg base CX0 2 f fd ["cell", "at"] (spD K uD):=
 rj (k:=1) (N:=["cell", "at", "one", "two", "three"]) F Dy wy (λay A outer s H E B hr=>rh
  (qy (qT (wF (en 0) (sD i' i'))
  (qC (qA (qM (en 0)))) ra)
  (qy (qE (i:=2) nk (rO (qF (qF (rz (rO (en 0) i') i') (rz (en 1) i')) i') i'))
  (qy (qE (i:=3) nk (rO (qF (qF (rz (en 2) (en 2)) (rz (en 1) i')) (rO (en 0) i')) i'))
  (qy (qE (i:=4) nk (rO (qF (qF (rz (en 3) (en 3)) (rz (en 2) i')) i') i'))
  (qC (qA (qM (qF (rz (qF (rz (en 2) i') (en 3)) i') (en 4))))))))))
theorem HK:FnScope ["script", "cells", "k", "cell"] ["script"] (defScope yf):=⟨rfl,rfl,rfl,by decide +kernel,rfl,by decide +kernel,by decide +kernel⟩
theorem Hb(F:Fun K "_law_pot" "_law_pot" yf f fd)(aI:mg "list"=none)(bT:mg "enumerate"=none):FnOk P w K mg base CX0 2 f fd ["script"] (spD K ug):=
 rj (k:=1) (N:=["script", "cells", "k", "cell"]) F HK ye (λay A outer s H E B hr=>rh
  (qy (qA (sJ (i:=1) nk (ua rfl aI (gV (rg (en 0) rA (qZ i')) pL rfl))))
  (qy (rM RG rfl (E9 rfl bT (gV (rg (en 0) (qZ i') (qZ i')) pL rfl)) (r9 (m:=100) rfl (rb (gd_n (i:=2) (m:=100) nk) (rb (gd_n (i:=3) (m:=100) nk) sf)))
  (qC (qA (vS (pv 1) (rO (en 2) i') (qF (rq (pv 1) (rO (en 2) i')) (en 3))))))
  (qC (qA (vo (qN (gV (en 1) (gV i' (gV i' pL rfl) rfl) rfl))))))))
theorem EU:FnScope ["pot", "upto", "at", "cell", "found"] ["pot", "upto"] (defScope xk):=⟨rfl,rfl,rfl,by decide +kernel,rfl,by decide +kernel,by decide +kernel⟩
theorem JB(F:Fun K "_law_pick" "_law_pick" xk f fd){iK' ij'}(i6:ID P w K mg base iK' ij')(aD:mg "len"=none):FnOk P w K mg base CX0 3 f fd ["pot", "upto"] (spD K qO):=
 rj (k:=2) (N:=["pot", "upto", "at", "cell", "found"]) F EU wa (λay A outer s H E B hr=>rh
  (qy (qT (tu (rq (pv 0) i') (en 1))
  (qy (qE (i:=2) nk (rq (pv 0) i'))
  (qy (qE (i:=3) nk (rz i' (en 2)))
  (qy (qT (tu (en 2) (rT rfl aD (gV (rq (pv 0) i') pL rfl)))
  (qC (qE (i:=3) nk (qG (rq (pv 0) i') (en 2)))) (qC (qT (su hr (rq (pv 0) i') (qB (qN pL)))
  (qC (qE (i:=3) nk (rO (qG (rq (pv 0) i') (rO (qF (rz (en 2) i') i') (rT rfl aD (gV (rq (pv 0) i') pL rfl)))) (qF (sD i' i') (rz i' (en 2)))))) ra)))
  (qy (qA (vS (pv 0) i' (qF (en 2) i')))
  (qC (qA (vS (pv 0) i' (rX i6.G (hr.mono (by decide)) rfl i6.m i6.p i6.b (gV (en 3) (gV (en 2) pL rfl) rfl))))))))) ra)
  (qy (qE (i:=4) nk (rO (rq (pv 0) i') (en 1)))
  (qy (qA (vS (pv 0) i' (Ij (rq (pv 0) i') (en 1))))
  (qC (qA (qM (en 4))))))))
theorem JI:FnScope ["pot", "size", "found", "k", "low", "high"] ["pot", "size"] (defScope wu):=⟨rfl,rfl,rfl,by decide +kernel,rfl,by decide +kernel,by decide +kernel⟩
theorem Ew(F:Fun K "_law_stretches" "_law_stretches" wu f fd){a0' aV'}(aq:uJ P w K mg base a0' aV')(ax:mg "range"=none)(bp:mg "min"=none):FnOk P w K mg base CX0 4 f fd ["pot", "size"] (spD K vU):=
 rj (k:=3) (N:=["pot", "size", "found", "k", "low", "high"]) F JI wB (λay A outer s H E B hr=>rh
  (qy (qA (sJ (i:=2) nk (qN pL)))
  (qy (rM RG rfl (vy rfl ax (gV (qF i' (qP aq.G (hr.mono (by decide)) rfl aq.m aq.p aq.b (pv 0) (gV i' pL rfl))) pL rfl)) (gd_n (i:=3) (m:=100) nk)
  (qy (qE (i:=4) nk (qP aq.G (hr.mono (by decide)) rfl aq.m aq.p aq.b (pv 0) (gV (en 1) pL rfl)))
  (qy (qT (TW.td (CL (Cf hr (pv 2) (qB (qN pL))) (IW (sP hr (qP aq.G (hr.mono (by decide)) rfl aq.m aq.p aq.b (pv 0) (gV i' pL rfl)) i'))))
  (qC (qE (i:=4) nk (vN rfl rfl bp (gV (rp (en 1) i') (gV (qF (qF (qG (rq (pv 2) (sd i')) i') i') (qP aq.G (hr.mono (by decide)) rfl aq.m aq.p aq.b (pv 0) (gV i' pL rfl))) pL rfl) rfl)))) ra)
  (qy (qE (i:=5) nk (vN rfl rfl bp (gV (rp (en 1) i') (gV (qF (en 4) (qG (qB (qN (so i' i' i' i' (gV (qP aq.G (hr.mono (by decide)) rfl aq.m aq.p aq.b (pv 0) (gV (en 1) pL rfl)) pL rfl) rfl rfl rfl rfl))) (qP aq.G (hr.mono (by decide)) rfl aq.m aq.p aq.b (pv 0) (gV i' pL rfl)))) pL rfl) rfl)))
  (qC (qA (vO (pv 2) (qS (gV (en 4) (gV (en 5) pL rfl) rfl)))))))))
  (qC (qA (qM (en 2)))))))
theorem D':FnScope ["pot", "size", "top"] ["pot"] (defScope wK):=⟨rfl,rfl,rfl,by decide +kernel,rfl,by decide +kernel,by decide +kernel⟩
theorem Fd(F:Fun K "_law_counts" "_law_counts" wK f fd){a0' aV'}(aq:uJ P w K mg base a0' aV')(ax:mg "range"=none):FnOk P w K mg base CX0 4 f fd ["pot"] (spD K vT):=
 rj (k:=3) (N:=["pot", "size", "top"]) F D' wv (λay A outer s H E B hr=>rh
  (qy (qE (i:=1) nk (qG (qB (qN (so (qF i' (qP aq.G (hr.mono (by decide)) rfl aq.m aq.p aq.b (pv 0) (gV i' pL rfl))) i' (qF i' (qP aq.G (hr.mono (by decide)) rfl aq.m aq.p aq.b (pv 0) (gV i' pL rfl))) i' pL rfl rfl rfl rfl))) (qP aq.G (hr.mono (by decide)) rfl aq.m aq.p aq.b (pv 0) (gV i' pL rfl))))
  (qy (qE (i:=2) nk (qG (by with_reducible exact(qB (qN (KX.ad (.int (.int (.int (.pow .nil)))))))) (qP aq.G (hr.mono (by decide)) rfl aq.m aq.p aq.b (pv 0) (gV i' pL rfl))))
  (qC (qA (vo (rP (N':=["k", "pot", "-size", "top"]) (m:=1) (CompScope.of (by kernel_rfl)) rfl (vy rfl ax (gV (en 1) pL rfl)) (λ_ _ _ _=>(gd_n (i:=0) (m:=1) nk)) (λ_ _ _ _=>sh) (λ_ _ _ _=>(rz (qP aq.G (hr.mono (by decide)) rfl aq.m aq.p aq.b (pv 1) (gV i' pL rfl)) (qP aq.G (hr.mono (by decide)) rfl aq.m aq.p aq.b (pv 1) (gV (en 3) pL rfl)))))))))))
theorem Jf:FnScope ["stretches", "found", "low", "high", "number"] ["stretches"] (defScope wV):=⟨rfl,rfl,rfl,by decide +kernel,rfl,by decide +kernel,by decide +kernel⟩
theorem IQ(F:Fun K "_law_had" "_law_had" wV f fd)(ax:mg "range"=none):FnOk P w K mg base CX0 2 f fd ["stretches"] (spD K sy):=
 rj (k:=1) (N:=["stretches", "found", "low", "high", "number"]) F Jf xo (λay A outer s H E B hr=>rh
  (qy (qA (Ip (i:=1) nk IB))
  (qy (rM RG rfl (rF (en 0)) (r9 (m:=100) rfl (rb (gd_n (i:=2) (m:=100) nk) (rb (gd_n (i:=3) (m:=100) nk) sf)))
  (qC (rM RG rfl (xA rfl ax (gV (en 2) (gV (qF (en 3) i') pL rfl) rfl)) (gd_n (i:=4) (m:=100) nk)
  (qC (qA (Ci hr (pv 1) (en 4) rE))))))
  (qC (qA (Ex (pv 1)))))))
theorem DC:FnScope ["stretches", "counts", "had", "found", "weight", "number"] ["stretches", "counts"] (defScope xu):=⟨rfl,rfl,rfl,by decide +kernel,rfl,by decide +kernel,by decide +kernel⟩
theorem HZ(F:Fun K "_law_gaps" "_law_gaps" xu f fd){ce' bP'}(cB:xW P w K mg base ce' bP')(bp:mg "min"=none)(bz:mg "max"=none)(ax:mg "range"=none):FnOk P w K mg base CX0 3 f fd ["stretches", "counts"] (spD K vF):=
 rj (k:=2) (N:=["stretches", "counts", "had", "found", "weight", "number"]) F DC xc (λay A outer s H E B hr=>rh
  (qy (qE (i:=2) nk (we (yd cB.G (hr.mono (by decide)) rfl cB.m cB.p cB.b (gV (en 0) pL rfl))))
  (qy (qA (sJ (i:=3) nk (qN pL)))
  (qy (qE (i:=4) nk tR)
  (qy (rM RG rfl (xA rfl ax (gV (C' rfl rfl bp (gV (en 2) pL rfl)) (gV (qF (De rfl rfl bz (gV (en 2) pL rfl)) i') pL rfl) rfl)) (gd_n (i:=5) (m:=100) nk)
  (qC (qT (wW (vE hr) (en 5) (en 2))
  (qC (qE (i:=4) nk (Eu (Gp (en 4) tR) (qG (en 1) (en 5)) (qF (en 4) (qG (en 1) (en 5)))))) (qC (qT (Cn (en 4) tR)
  (qy (qA (vO (pv 3) (en 4)))
  (qC (qE (i:=4) nk tR))) ra)))))
  (qC (qA (qM (en 3)))))))))
theorem F7:FnScope ["had", "gaps", "many", "counts", "thing", "needless", "some", "mark", "there"] ["had", "gaps", "many", "counts", "thing"] (defScope wE):=⟨rfl,rfl,rfl,by decide +kernel,rfl,by decide +kernel,by decide +kernel⟩
theorem Hz(F:Fun K "_law_is_few" "_law_is_few" wE f fd){ce' bP'}(cB:xW P w K mg base ce' bP')(aD:mg "len"=none)(bS:mg "zip"=none)(aT:mg "sum"=none)(bp:mg "min"=none):FnOk P w K mg base CX0 3 f fd ["had", "gaps", "many", "counts", "thing"] (spD K uU):=
 rj (k:=2) (N:=["had", "gaps", "many", "counts", "thing", "needless", "some", "mark", "there"]) F F7 wG (λay A outer s H E B hr=>rh
  (qy (qA (xZ (en 4) (r9 (m:=100) rfl (rb (gd_n (i:=5) (m:=100) nk) (rb (gd_n (i:=6) (m:=100) nk) (rb (gd_n (i:=7) (m:=100) nk) sf))))))
  (qy (qT (TW.td (t7 (tu (en 7) i') (vv (v9 (rT rfl aD (gV (en 6) pL rfl)) (en 2)))))
  (qC (qA (qM rE))) ra)
  (qy (qT (su hr (qB (rP (N':=["low", "high", "-had", "-gaps", "-many", "counts", "-thing", "-needless", "-some", "-mark", "-there"]) (m:=2) (CompScope.of (by kernel_rfl)) rfl (rF (en 6)) (λ_ _ _ _=>(r9 (m:=2) rfl (rb (gd_n (i:=0) (m:=2) nk) (rb (gd_n (i:=1) (m:=2) nk) sf)))) (λ_ _ _ _=>(tw (TW.td (t7 (tu (en 0) i') (t7 (v9 (en 0) (en 1)) (vv (wF (en 1) (rT rfl aD (gV (en 5) pL rfl))))))))) (λ_ _ _ _=>i'))) (qB (qN pL)))
  (qC (qA (qM rE))) ra)
  (qy (qT (su hr (qB (rP (N':=["one", "other", "-had", "-gaps", "-many", "-counts", "-thing", "-needless", "-some", "-mark", "-there"]) (m:=2) (CompScope.of (by kernel_rfl)) rfl (yT rfl bS (gV (en 6) (gV (rg (en 6) (qZ i') rA) pL rfl) rfl)) (λ_ _ _ _=>(r9 (m:=2) rfl (rb (gd_n (i:=0) (m:=2) nk) (rb (gd_n (i:=1) (m:=2) nk) sf)))) (λ_ _ _ _=>(tw (wF (qG (en 0) i') (qG (en 1) i')))) (λ_ _ _ _=>i'))) (qB (qN pL)))
  (qC (qA (qM rE))) ra)
  (qy (qE (i:=8) nk (we (yd cB.G (hr.mono (by decide)) rfl cB.m cB.p cB.b (gV (en 6) pL rfl))))
  (qy (qT (su hr (qB (rP (N':=["number", "-had", "-gaps", "-many", "-counts", "-thing", "-needless", "-some", "-mark", "there"]) (m:=1) (CompScope.of (by kernel_rfl)) rfl (yN (en 0)) (λ_ _ _ _=>(gd_n (i:=0) (m:=1) nk)) (λ_ _ _ _=>(tw (wW (vE hr) (en 0) (en 9)))) (λ_ _ _ _=>i'))) (qB (qN pL)))
  (qC (qA (qM rE))) ra)
  (qy (qT (su hr (en 5) (tQ rfl rfl aT (gV (qB (rP (N':=["number", "had", "-gaps", "-many", "counts", "-thing", "-needless", "-some", "-mark", "-there"]) (m:=1) (CompScope.of (by kernel_rfl)) rfl (yN (en 8)) (λ_ _ _ _=>(gd_n (i:=0) (m:=1) nk)) (λ_ _ _ _=>(tw (wW (vE hr) (en 0) (en 1)))) (λ_ _ _ _=>(qG (en 4) (en 0))))) pL rfl)))
  (qC (qA (qM rE))) ra)
  (qC (qA (qM (xH hr (en 5) (rp (tQ rfl rfl aT (gV (qB (rP (N':=["weight", "-had", "-gaps", "-many", "-counts", "-thing", "-needless", "-some", "mark", "-there"]) (m:=1) (CompScope.of (by kernel_rfl)) rfl (rF (en 1)) (λ_ _ _ _=>(gd_n (i:=0) (m:=1) nk)) (λ_ _ _ _=>sh) (λ_ _ _ _=>(vN rfl rfl bp (gV (en 0) (gV (en 8) pL rfl) rfl))))) pL rfl)) (rz (rp (en 2) i') (en 7)))))))))))))))
theorem Ju:FnScope ["pot", "some", "size", "at", "low", "high", "by", "way", "one", "middle"] ["pot", "some", "size"] (defScope wY):=⟨rfl,rfl,rfl,by decide +kernel,rfl,by decide +kernel,by decide +kernel⟩
theorem Fw(F:Fun K "_law_bent_list" "_law_bent_list" wY f fd){a0' aV'}(aq:uJ P w K mg base a0' aV')(aD:mg "len"=none)(bz:mg "max"=none):FnOk P w K mg base CX0 4 f fd ["pot", "some", "size"] (spD K vQ):=
 rj (k:=3) (N:=["pot", "some", "size", "at", "low", "high", "by", "way", "one", "middle"]) F Ju wQ (λay A outer s H E B hr=>rh
  (qy (qE (i:=3) nk (qP aq.G (hr.mono (by decide)) rfl aq.m aq.p aq.b (pv 0) (gV (rT rfl aD (gV (en 1) pL rfl)) pL rfl)))
  (qy (qA (xZ (qG (en 1) (en 3)) (r9 (m:=100) rfl (rb (gd_n (i:=4) (m:=100) nk) (rb (gd_n (i:=5) (m:=100) nk) sf)))))
  (qy (qE (i:=6) nk (qG (qB (qN (so i' (sd i') (sD i' i') (sd i') (gV (rp i' (sD i' i')) pL rfl) rfl rfl rfl rfl))) (qP aq.G (hr.mono (by decide)) rfl aq.m aq.p aq.b (pv 0) (gV i' pL rfl))))
  (qy (qE (i:=7) nk (qP aq.G (hr.mono (by decide)) rfl aq.m aq.p aq.b (pv 0) (gV i' pL rfl)))
  (qy (qE (i:=8) nk (qG (qB (qN (so (qS (gV (qF (en 4) (en 6)) (gV (en 5) pL rfl) rfl)) (qS (gV (en 4) (gV (qF (en 5) (en 6)) pL rfl) rfl)) (qS (gV (en 4) (gV (en 4) pL rfl) rfl)) (qS (gV (en 5) (gV (en 4) pL rfl) rfl)) pL rfl rfl rfl rfl))) (rO (en 7) i')))
  (qy (qT (tu (en 7) i')
  (qC (qA (qM (qB (rY (qB (rY (rg (en 1) rA (qZ (en 3))) (qB (qN (gV (en 8) pL rfl))))) (rg (en 1) (qZ (qF (en 3) i')) rA)))))) ra)
  (qy (qT (sP hr (en 7) i')
  (qC (qA (qM (qB (rY (rg (en 1) rA (qZ (en 3))) (rg (en 1) (qZ (qF (en 3) i')) rA)))))) ra)
  (qy (qT (sP hr (en 7) i')
  (qC (qA (qM (qG (qB (qN (gV (qB (rY (en 1) (rg (en 1) (qZ (en 3)) (qZ (qF (en 3) i'))))) (gV (qB (HA (en 1) (sd i'))) pL rfl) rfl))) (qP aq.G (hr.mono (by decide)) rfl aq.m aq.p aq.b (pv 0) (gV i' pL rfl)))))) ra)
  (qy (qT (sP hr (en 7) i')
  (qy (qE (i:=9) nk (qF (en 4) (qP aq.G (hr.mono (by decide)) rfl aq.m aq.p aq.b (pv 0) (gV (zv rfl rfl bz (gV i' (gV (rp (en 5) (en 4)) pL rfl) rfl)) pL rfl))))
  (qC (qA (qM (qB (rY (qB (rY (rg (en 1) rA (qZ (en 3))) (qB (qN (gV (qS (gV (en 4) (gV (en 9) pL rfl) rfl)) (gV (qS (gV (qF (en 9) i') (gV (en 5) pL rfl) rfl)) pL rfl) rfl))))) (rg (en 1) (qZ (qF (en 3) i')) rA))))))) ra)
  (qC (qA (qM (qB (rY (qB (rY (rg (en 1) rA (qZ (en 3))) (qB (qN (gV (qS (gV (en 4) (gV (qG (qG (en 1) (rO (qF (en 3) i') (rT rfl aD (gV (en 1) pL rfl)))) i') pL rfl) rfl)) pL rfl))))) (rg (en 1) (qZ (qF (en 3) i')) rA))))))))))))))))
theorem Hc:FnScope ["pot", "thing", "size", "needless", "some", "mark", "way", "by"] ["pot", "thing", "size"] (defScope xV):=⟨rfl,rfl,rfl,by decide +kernel,rfl,by decide +kernel,by decide +kernel⟩
theorem GV(F:Fun K "_law_bent" "_law_bent" xV f fd){a0' aV'}(aq:uJ P w K mg base a0' aV'){fT' fm'}(i7:Cm P w K mg base fT' fm'):FnOk P w K mg base CX0 5 f fd ["pot", "thing", "size"] (spD K vR):=
 rj (k:=4) (N:=["pot", "thing", "size", "needless", "some", "mark", "way", "by"]) F Hc xt (λay A outer s H E B hr=>rh
  (qy (qA (xZ (en 1) (r9 (m:=100) rfl (rb (gd_n (i:=3) (m:=100) nk) (rb (gd_n (i:=4) (m:=100) nk) (rb (gd_n (i:=5) (m:=100) nk) sf))))))
  (qy (qE (i:=6) nk (qP aq.G (hr.mono (by decide)) rfl aq.m aq.p aq.b (pv 0) (gV i' pL rfl)))
  (qy (qE (i:=7) nk (qG (qB (qN (so i' (sd i') i' (sD i' i') (gV (rp i' (en 5)) pL rfl) rfl rfl rfl rfl))) (qP aq.G (hr.mono (by decide)) rfl aq.m aq.p aq.b (pv 0) (gV i' pL rfl))))
  (qy (qT (sP hr (en 6) i')
  (qC (qA (qM (qS (gV (qF (en 3) (en 7)) (gV (en 4) (gV (en 5) pL rfl) rfl) rfl))))) ra)
  (qy (qT (sP hr (en 6) i')
  (qC (qA (qM (qS (gV (en 3) (gV (en 4) (gV (qF (en 5) (en 7)) pL rfl) rfl) rfl))))) ra)
  (qy (qT (sP hr (en 4) (qB (qN pL)))
  (qC (qA (qM (qS (gV (en 3) (gV (qB (qN (gV (qS (gV i' (gV (rp (en 2) i') pL rfl) rfl)) pL rfl))) (gV (en 5) pL rfl) rfl) rfl))))) ra)
  (qC (qA (qM (qS (gV (en 3) (gV (qP i7.G (hr.mono (by decide)) rfl i7.m i7.p i7.b (pv 0) (gV (en 4) (gV (en 2) pL rfl) rfl)) (gV (en 5) pL rfl) rfl) rfl))))))))))))
theorem Ca:FnScope ["script", "pot", "turn", "let", "counts", "some", "things", "k", "single", "low", "high", "had", "gaps", "handed", "thing", "shown", "upto", "due", "found"] ["script"] (defScope xG):=⟨rfl,rfl,rfl,by decide +kernel,rfl,by decide +kernel,by decide +kernel⟩
theorem Jm(F:Fun K "law" "law" xG f fd){mv' kz'}(i8:JS P w K mg base mv' kz'){a0' aV'}(aq:uJ P w K mg base a0' aV'){ik' gY'}(i9:FT P w K mg base ik' gY'){fU' fn'}(ja:DA P w K mg base fU' fn'){nG' mw'}(jb:Hs P w K mg base nG' mw'){kA' iL'}(jd:CB P w K mg base kA' iL'){ce' bP'}(cB:xW P w K mg base ce' bP'){kB' iM'}(je:EC P w K mg base kB' iM'){il' gZ'}(jf:Hr P w K mg base il' gZ'){nH' my'}(jg:HH P w K mg base nH' my')(ax:mg "range"=none)(aD:mg "len"=none)(aI:mg "list"=none)(bZ:mg "repr"=none)(bz:mg "max"=none):FnOk P w K mg base CX0 8 f fd ["script"] (spD K sT):=
 rj (k:=7) (N:=["script", "pot", "turn", "let", "counts", "some", "things", "k", "single", "low", "high", "had", "gaps", "handed", "thing", "shown", "upto", "due", "found"]) F Ca wo (λay A outer s H E B hr=>rh
  (qy (qA (sJ (i:=1) nk (sW i8.G (hr.mono (by decide)) rfl i8.m i8.p i8.b (gV (en 0) pL rfl))))
  (qy (rM RG rfl (vy rfl ax (gV i' pL rfl)) (gd_n (i:=2) (m:=100) nk)
  (qy (qE (i:=3) nk (qG (qB (qN (gV (qF i' (qP aq.G (hr.mono (by decide)) rfl aq.m aq.p aq.b (pv 1) (gV i' pL rfl))) (gV (qF i' (qP aq.G (hr.mono (by decide)) rfl aq.m aq.p aq.b (pv 1) (gV i' pL rfl))) (gV i' pL rfl) rfl) rfl))) (qP aq.G (hr.mono (by decide)) rfl aq.m aq.p aq.b (pv 1) (gV i' pL rfl))))
  (qy (qE (i:=4) nk (qB (CP i9.G (hr.mono (by decide)) rfl i9.m i9.p i9.b (pv 1) pL)))
  (qy (qE (i:=5) nk (qP ja.G (hr.mono (by decide)) rfl ja.m ja.p ja.b (pv 1) (gV (rT rfl aD (gV (en 4) pL rfl)) pL rfl)))
  (qy (qA (sJ (i:=6) nk (qN (gV (rX jb.G (hr.mono (by decide)) rfl jb.m jb.p jb.b (gV (qB (ua rfl aI (gV (en 5) pL rfl))) (gV (en 3) (gV (qB (ua rfl aI (gV (en 4) pL rfl))) pL rfl) rfl) rfl)) (gV (qS (gV i' (gV (qB (qN (gV (qS (gV i' (gV (rp (rT rfl aD (gV (en 4) pL rfl)) i') pL rfl) rfl)) pL rfl))) (gV i' pL rfl) rfl) rfl)) (gV (qS (ad_k (by kernel_rfl))) pL rfl) rfl) rfl))))
  (qy (rM RG rfl (vy rfl ax (gV i' pL rfl)) (gd_n (i:=7) (m:=100) nk)
  (qC (qA (vO (pv 6) (qP jd.G (hr.mono (by decide)) rfl jd.m jd.p jd.b (pv 1) (gV (rq (pv 6) (rz (qP aq.G (hr.mono (by decide)) rfl aq.m aq.p aq.b (pv 1) (gV (J1 rfl aD (pv 6)) pL rfl)) (qP aq.G (hr.mono (by decide)) rfl aq.m aq.p aq.b (pv 1) (gV i' pL rfl)))) (gV (rT rfl aD (gV (en 4) pL rfl)) pL rfl) rfl))))))
  (qy (qA (sJ (i:=8) nk (qN pL)))
  (qy (rM RG rfl (rF (qG (rq (pv 6) i') i')) (r9 (m:=100) rfl (rb (gd_n (i:=9) (m:=100) nk) (rb (gd_n (i:=10) (m:=100) nk) sf)))
  (qC (qA (BA (pv 8) (qB (rP (N':=["number", "-script", "-pot", "-turn", "-let", "-counts", "-some", "-things", "-k", "-single", "-low", "-high", "-had", "-gaps", "-handed", "-thing", "-shown", "-upto", "-due", "-found"]) (m:=1) (CompScope.of (by kernel_rfl)) rfl (xA rfl ax (gV (en 9) (gV (qF (en 10) i') pL rfl) rfl)) (λ_ _ _ _=>(gd_n (i:=0) (m:=1) nk)) (λ_ _ _ _=>sh) (λ_ _ _ _=>(qS (gV (en 0) (gV (en 0) pL rfl) rfl)))))))))
  (qy (qA (vO (pv 6) (qS (gV (qG (rq (pv 6) i') i') (gV (en 8) (gV (qG (rq (pv 6) i') i') pL rfl) rfl) rfl))))
  (qy (qE (i:=11) nk (we (yd cB.G (hr.mono (by decide)) rfl cB.m cB.p cB.b (gV (en 5) pL rfl))))
  (qy (qE (i:=12) nk (rX je.G (hr.mono (by decide)) rfl je.m je.p je.b (gV (en 5) (gV (en 4) pL rfl) rfl)))
  (qy (qE (i:=13) nk (qS (gV (qB (ua rfl aI (gV (en 5) pL rfl))) (gV (qB (ua rfl aI (gV (en 4) pL rfl))) pL rfl) rfl)))
  (qC (rM RG rfl (rF (en 6)) (gd_n (i:=14) (m:=100) nk)
  (qy (qE (i:=15) nk (vd hr rfl bZ (gV (en 14) pL rfl)))
  (qC (rM RG rfl (rF (qB (qN (gV (en 3) (gV (qF (en 3) i') (gV (zv rfl rfl bz (gV i' (gV (rp (en 3) i') pL rfl) rfl)) pL rfl) rfl) rfl)))) (gd_n (i:=16) (m:=100) nk)
  (qy (qE (i:=17) nk (rX jf.G (hr.mono (by decide)) rfl jf.m jf.p jf.b (so (en 11) (en 12) (en 16) (en 4) (gV (en 14) pL rfl) rfl rfl rfl rfl)))
  (qy (qE (i:=18) nk (rX jg.G (hr.mono (by decide)) rfl jg.m jg.p jg.b (so (qG (en 13) i') (en 16) (qG (en 13) i') (en 14) pL rfl rfl rfl rfl)))
  (qC (qT (TW.td (t7 (su hr (vd hr rfl bZ (gV (en 18) pL rfl)) (vd hr rfl bZ (gV (en 17) pL rfl))) (t7 (su hr (vd hr rfl bZ (gV (en 14) pL rfl)) (en 15)) (vv (su hr (en 13) (qS (gV (en 5) (gV (en 4) pL rfl) rfl)))))))
  (qC (qA (qM rE))) ra)))))))))))))))))))))
  (qC (qA (qM rE))))))
end
structure Dn(K:PySem.W.Frag)(mg:Str->Option b_)(x:Str)(st:Nc)(f:i_)(fd:PP):Prop where
 F:Fun K x x st f fd
 m:mg x=some (.ref f)
 a:nsIn K My x=some (some (.ref f))
theorem dn{K:PySem.W.Frag}{x:Str}{st:Nc}{sl:Array (Option b_)}{kV dc:b_}(X:K.In h)(G:h.Ns My mg)(a:nsIn K My x=some (some (.ref f)))(l:K.lookup f=some ⟨oc,od,.func (Rp x x (defArgs st) (defBody st) (defScope st) .none kV dc pm an cd ct),sl⟩)(c:codeIn K cd x=true)(k:QN K (.ref f)=true):Dn K mg x st f (Rp x x (defArgs st) (defBody st) (defScope st) .none kV dc pm an cd ct):=⟨EX l c k,PySem.W.mg_of X G a,a⟩
section
variable{P:B_}{w:J_}{K:PySem.W.Frag}{x:Str}{st:Nc}{k:Nat}{g:List R->Option (R×List R)}
theorem lenOf1{α:Type}{us:List α}(h:us.length=1):∃a,us=[a]:=by
 obtain⟨a,us,rfl⟩:=Mu h;exact⟨a,by rw[M7.mp (Oe h)]⟩
theorem lenOf2{α:Type}{us:List α}(h:us.length=2):∃a b,us=[a,b]:=by
 obtain⟨a,us,rfl⟩:=Mu h;obtain⟨b,rfl⟩:=lenOf1 (Oe h);exact⟨a,b,rfl⟩
theorem lenOf3{α:Type}{us:List α}(h:us.length=3):∃a b c,us=[a,b,c]:=by
 obtain⟨a,us,rfl⟩:=Mu h;obtain⟨b,c,rfl⟩:=lenOf2 (Oe h);exact⟨a,b,c,rfl⟩
theorem lenOf4{α:Type}{us:List α}(h:us.length=4):∃a b c d,us=[a,b,c,d]:=by
 obtain⟨a,us,rfl⟩:=Mu h;obtain⟨b,c,d,rfl⟩:=lenOf3 (Oe h);exact⟨a,b,c,d,rfl⟩
theorem lenOf5{α:Type}{us:List α}(h:us.length=5):∃a b c d e,us=[a,b,c,d,e]:=by
 obtain⟨a,us,rfl⟩:=Mu h;obtain⟨b,c,d,e,rfl⟩:=lenOf4 (Oe h);exact⟨a,b,c,d,e,rfl⟩
theorem Dn.b1{p:Str}(D:Dn K mg x st f fd)(h:∀(kV dc pm:b_) (an:Option i_) (cd ct a:b_),NB (Rp x x (defArgs st) (defBody st) (defScope st) .none kV dc pm an cd ct) ⟨[a],[]⟩=pure [(p,a)]:=by intros;rfl):Binds K fd [p] []:=D.F.binds λ_ _ _ _ _ _ us hl=>by obtain⟨a,rfl⟩:=lenOf1 hl;exact h _ _ _ _ _ _ a
theorem Dn.c1{p:Str}(D:Dn K mg x st f fd)(G:FnOk P w K mg base CX0 k f fd [p] (spD K g))(h:∀(kV dc pm:b_) (an:Option i_) (cd ct a:b_),NB (Rp x x (defArgs st) (defBody st) (defScope st) .none kV dc pm an cd ct) ⟨[a],[]⟩=pure [(p,a)]:=by intros;rfl):Cd P w K mg base k f fd [p] g x:=⟨G,D.b1 h,D.F.kp,D.m⟩
theorem Dn.b2{p:Str}(D:Dn K mg x st f fd)(h:∀(kV dc pm:b_) (an:Option i_) (cd ct a b:b_),NB (Rp x x (defArgs st) (defBody st) (defScope st) .none kV dc pm an cd ct) ⟨[a,b],[]⟩=pure [(p,a),(q,b)]:=by intros;rfl):Binds K fd [p,q] []:=D.F.binds λ_ _ _ _ _ _ us hl=>by obtain⟨a,b,rfl⟩:=lenOf2 hl;exact h _ _ _ _ _ _ a b
theorem Dn.c2{p:Str}(D:Dn K mg x st f fd)(G:FnOk P w K mg base CX0 k f fd [p,q] (spD K g))(h:∀(kV dc pm:b_) (an:Option i_) (cd ct a b:b_),NB (Rp x x (defArgs st) (defBody st) (defScope st) .none kV dc pm an cd ct) ⟨[a,b],[]⟩=pure [(p,a),(q,b)]:=by intros;rfl):Cd P w K mg base k f fd [p,q] g x:=⟨G,D.b2 h,D.F.kp,D.m⟩
theorem Dn.b3{p r:Str}(D:Dn K mg x st f fd)(h:∀(kV dc pm:b_) (an:Option i_) (cd ct a b c:b_),NB (Rp x x (defArgs st) (defBody st) (defScope st) .none kV dc pm an cd ct) ⟨[a,b,c],[]⟩=pure [(p,a),(q,b),(r,c)]:=by intros;rfl):Binds K fd [p,q,r] []:=D.F.binds λ_ _ _ _ _ _ us hl=>by obtain⟨a,b,c,rfl⟩:=lenOf3 hl;exact h _ _ _ _ _ _ a b c
theorem Dn.c3{p r:Str}(D:Dn K mg x st f fd)(G:FnOk P w K mg base CX0 k f fd [p,q,r] (spD K g))(h:∀(kV dc pm:b_) (an:Option i_) (cd ct a b c:b_),NB (Rp x x (defArgs st) (defBody st) (defScope st) .none kV dc pm an cd ct) ⟨[a,b,c],[]⟩=pure [(p,a),(q,b),(r,c)]:=by intros;rfl):Cd P w K mg base k f fd [p,q,r] g x:=⟨G,D.b3 h,D.F.kp,D.m⟩
theorem Dn.b4{p r s:Str}(D:Dn K mg x st f fd)(h:∀(kV dc pm:b_) (an:Option i_) (cd ct a b c d:b_),NB (Rp x x (defArgs st) (defBody st) (defScope st) .none kV dc pm an cd ct) ⟨[a,b,c,d],[]⟩=pure [(p,a),(q,b),(r,c),(s,d)]:=by intros;rfl):Binds K fd [p,q,r,s] []:=D.F.binds λ_ _ _ _ _ _ us hl=>by obtain⟨a,b,c,d,rfl⟩:=lenOf4 hl;exact h _ _ _ _ _ _ a b c d
theorem Dn.c4{p r s:Str}(D:Dn K mg x st f fd)(G:FnOk P w K mg base CX0 k f fd [p,q,r,s] (spD K g))(h:∀(kV dc pm:b_) (an:Option i_) (cd ct a b c d:b_),NB (Rp x x (defArgs st) (defBody st) (defScope st) .none kV dc pm an cd ct) ⟨[a,b,c,d],[]⟩=pure [(p,a),(q,b),(r,c),(s,d)]:=by intros;rfl):Cd P w K mg base k f fd [p,q,r,s] g x:=⟨G,D.b4 h,D.F.kp,D.m⟩
theorem Dn.b5{p r s t:Str}(D:Dn K mg x st f fd)(h:∀(kV dc pm:b_) (an:Option i_) (cd ct a b c d e:b_),NB (Rp x x (defArgs st) (defBody st) (defScope st) .none kV dc pm an cd ct) ⟨[a,b,c,d,e],[]⟩=pure [(p,a),(q,b),(r,c),(s,d),(t,e)]:=by intros;rfl):Binds K fd [p,q,r,s,t] []:=D.F.binds λ_ _ _ _ _ _ us hl=>by obtain⟨a,b,c,d,e,rfl⟩:=lenOf5 hl;exact h _ _ _ _ _ _ a b c d e
theorem Dn.c5{p r s t:Str}(D:Dn K mg x st f fd)(G:FnOk P w K mg base CX0 k f fd [p,q,r,s,t] (spD K g))(h:∀(kV dc pm:b_) (an:Option i_) (cd ct a b c d e:b_),NB (Rp x x (defArgs st) (defBody st) (defScope st) .none kV dc pm an cd ct) ⟨[a,b,c,d,e],[]⟩=pure [(p,a),(q,b),(r,c),(s,d),(t,e)]:=by intros;rfl):Cd P w K mg base k f fd [p,q,r,s,t] g x:=⟨G,D.b5 h,D.F.kp,D.m⟩
end
theorem all_mk{P:B_}{w:J_}{K:PySem.W.Frag}(pp:mg "law"=some (.ref fa)){f0 d0}(D0:Dn K mg "few_of" yc f0 d0){f1 d1}(D1:Dn K mg "numbers_of" wm f1 d1){f2 d2}(D2:Dn K mg "gaps_of" wj f2 d2){f3 d3}(D3:Dn K mg "weight_of" wD f3 d3){f4 d4}(D4:Dn K mg "is_few" vX f4 d4){f5 d5}(D5:Dn K mg "is_row" yk f5 d5){f6 d6}(D6:Dn K mg "is_mark" wJ f6 d6){f7 d7}(D7:Dn K mg "_law_blend" xq f7 d7){f8 d8}(D8:Dn K mg "_law_pot" yf f8 d8){f9 d9}(D9:Dn K mg "_law_pick" xk f9 d9){f10 d10}(np:Dn K mg "_law_stretches" wu f10 d10){f11 d11}(nq:Dn K mg "_law_counts" wK f11 d11){f12 d12}(nr:Dn K mg "_law_had" wV f12 d12){f13 d13}(nu:Dn K mg "_law_gaps" xu f13 d13){f14 d14}(nv:Dn K mg "_law_is_few" wE f14 d14){f15 d15}(nw:Dn K mg "_law_bent_list" wY f15 d15){f16 d16}(ny:Dn K mg "_law_bent" xV f16 d16){f17 d17}(kI:Dn K mg "law" xG f17 d17)(fv:mg "any"=none)(bT:mg "enumerate"=none)(aD:mg "len"=none)(aI:mg "list"=none)(bz:mg "max"=none)(bp:mg "min"=none)(ax:mg "range"=none)(bZ:mg "repr"=none)(fu:mg "set"=none)(bn:mg "sorted"=none)(aT:mg "sum"=none)(bS:mg "zip"=none)(T0:(OF K "few_of").isSome=true):
  ∃fd:PP,(∀(s:d_) (v:b_),So s fd ⟨[v],[]⟩ [("script", v)])/\∀base:L4,K.In base->base.Ns My mg->FnOk P w K mg base CX0 8 fa fd ["script"] (spD K sT):=by
 cases pp.symm.trans kI.m;obtain⟨⟨cT,PT⟩,T0⟩:=Oo.mp T0;refine⟨d17,λs v=>?_,λbase _ _=>?_⟩
 ·obtain⟨_,_,_,_,_,_,_,_,_,rfl,_,_⟩:=kI.F.ex;exact .of_eq rfl
 have C8:=D8.c1 (Hb (P:=P) (w:=w) (base:=base) D8.F aI bT);have C7:=D7.c2 (EY (P:=P) (w:=w) (base:=base) D7.F );have C9:=D9.c2 (JB D9.F C7 aD);have pq:=nq.c1 (Fd nq.F C9 ax);have pt:=np.c2 (Ew np.F C9 ax bp);have C1:=D1.c1 (Dg (P:=P) (w:=w) (base:=base) D1.F aI ax bn fu);have C2:=D2.c1 (GZ (P:=P) (w:=w) (base:=base) D2.F bS);have C3:=D3.c2 (Dh (P:=P) (w:=w) (base:=base) D3.F aT);have C0:=D0.c3 (Ix D0.F D0.a T0 C1 C2 C3 bn aT aI bS bz);have px:=nw.c3 (Fw nw.F C9 aD bz);have pz:=ny.c3 (GV ny.F C9 px);have kJ:=nr.c1 (IQ (P:=P) (w:=w) (base:=base) nr.F ax);have pA:=nu.c2 (HZ nu.F kJ bp bz ax);have pB:=nv.c5 (Hz nv.F kJ aD bS aT bp);have C5:=D5.c2 (Gs (P:=P) (w:=w) (base:=base) D5.F );have C6:=D6.c5 (E4 D6.F C3 bp aT);have C4:=D4.c4 (CM D4.F C5 C1 C6 C2 aD fv aT);exact Jm kI.F C8 C9 pq pt C0 pz kJ pA pB C4 ax aD aI bZ bz
theorem walk{l:PySem.W.OpenLaw}{q:B_}{XP:(Str->Option b_)->L4->Prop}{YP:J_->L4->Prop}{d:DefRec}{K:Params->PySem.W.Frag}(nA:∀ns:List Int,ns.length<=63->∃rs,sT [.val (.lst (ns.map D.int))]=some (.val (.bl true),rs))(hn:l.most=some 63)(gy:d.params.defaults=[])(cx:∃d',(recsOf q).find? (λe=>e.name == ("few_of":Str))=some d')(gM:∀p,noTabs (K p)=true)(hY:∀(w:J_) (h:L4),YP w h->(K w.params).In h)(F:∀(w:J_) (mg:Str->Option b_) (fa:i_) (h:L4),(K w.params).In h->h.Ns My mg->mg d.name=some (.ref fa) →
   ∃fd:PP,(∀(s:d_) (u:b_),So s fd ⟨[u],[]⟩ [("script", u)])/\∀base:L4,(K w.params).In base->base.Ns My mg->FnOk l.prog w (K w.params) mg base CX0 8 fa fd ["script"] (spD (K w.params) sT)):
  PySem.W.WalkO q cC XP YP l.row.toRowW d [] (λf vs=>PySem.call f vs):=
 Iq (n:=63) (k:=8) (x:= "script") (CX:=λ_=>CX0) (sp:=λw=>spD (K w.params) sT) hn (by decide) gy ⟨rfl,by decide,by decide,rfl⟩ cx gM hY F (λ_ H a ns hl hS=>Go hS (nA ns hl)) λ_ _ _ _ _ z=>z
end Own
namespace Own
open DL L2
@[simp] theorem Bk:∀xs:List Int,depA (xs.map D.int)=0
 | []=>rfl
 | x::xs=>by rw[K_,depA,Bk xs];rfl
@[simp] theorem LL(xs:List Int):dep (.lst (xs.map D.int))=1:=by rw[dep,Bk]
def PotOk(c:List D):Prop:=∃(ns:List Int) (at_ am:Int),c=[.lst (ns.map .int),.int at_,.int am]/\0<=at_
theorem B6(a b:Int):∃z,cvF uD [.int a,.int b]=some (.int z):=by
 have:wpF uD [.val (.int a),.val (.int b)] λr _=>∃z,r=.val (.int z):=by
  refine sN rfl λKE hE _=>?_
  rw[wy];refine qz ?_;rintro K hK hR;simp;split
  ·exact hR _ _ (hE _ _ ⟨_,rfl,_,rfl⟩)
  ·refine hK _ ?_;refine qz ?_;rintro K hK -;simp;refine hK _ ?_;have l1:=O7 (a % 998244353*40692+b*69621+1009) (show(2147483399:Int)≠0 by decide);have u1:=N_ (a % 998244353*40692+b*69621+1009) (show(0:Int) < 2147483399 by decide);generalize (a % 998244353*40692+b*69621+1009) % 2147483399=x at *;refine qz ?_;rintro K hK -;simp;refine⟨by omega,hK _ ?_⟩;have l2:=O7 (x*x+b*48271+a % 131071) (show(2147483647:Int)≠0 by decide);have u2:=N_ (x*x+b*48271+a % 131071) (show(0:Int) < 2147483647 by decide);generalize (x*x+b*48271+a % 131071) % 2147483647=y at *;refine qz ?_;rintro K hK -;simp;refine⟨by omega,hK _ ?_⟩;generalize (y*y+x*17+3) % 2147483629=z at *;simp;exact hE _ _ ⟨_,rfl,_,rfl⟩
 obtain⟨r,bf,e,z,rfl⟩:=this;exact⟨z,by unfold cvF;simp only[map];rw[e]⟩
theorem qR{u:Int}{Q:R->List D->Prop}(hc:PotOk c)(h1:1<=u)(h2:u < 2 ^ 200)(k:∀n c',0<=n->n < u->PotOk c'->Q (.val (.int n)) c'):wpB qO c [.int u] Q:=by
 obtain⟨ns,at_,am,rfl,h0⟩:=hc;refine uz rfl λKE hE _=>?_
 rw[wa];refine qX (λae=>∃fV jy x y z,0<=fV/\ae=[some (.bor [.lst (ns.map .int),.int fV,.int jy]),some (.val (.int u)),x,y,z]) (λK hK _=>?_) ?_
 ·simp[isMut,R.mut];split
  ·refine qz λK1 cM _=>?_
   simp[isMut,R.mut];refine cM _ ?_;refine qz λK1 cM _=>?_
   simp[isMut,R.mut];refine cM _ ?_;refine qX (λae=>∃m,ae=[some (.bor [.lst (ns.map .int),.int at_,.int am]),some (.val (.int u)),some (.val (.int at_)),some (.val (.int m)),none]) (λK1 cM _=>?_) ?_
   ·simp[isMut,R.mut];split
    ·rename_i h;obtain⟨a,e,m⟩:=zA (ds:=ns.map D.int) h0 (by simpa using h);obtain⟨b,_,rfl⟩:=Nf.mp m;rw[qL e];simp;exact cM _ ⟨_,rfl⟩
    ·rename_i h;split
     ·exact cM _ ⟨_,rfl⟩
     ·rename_i h';have hl:0 < ns.length:=by cases ns with | nil=>simp at h' | cons=>simp
      refine⟨by omega,?_⟩;obtain⟨a,e,m⟩:=zA (ds:=ns.map D.int) (i:=(at_*7+1) % (ns.length:Int)) (O7 _ (by omega)) (by simpa using N_ _ (by omega));obtain⟨b,_,rfl⟩:=Nf.mp m;rw[qL e];simp;exact⟨by omega,cM _ ⟨_,rfl⟩⟩
   ·rintro ae ⟨m,rfl⟩;refine qz λK1 cM _=>?_
    simp[isMut,R.mut];refine cM _ ?_;obtain⟨z,e⟩:=B6 m at_;simp[isMut,R.mut,e];exact hK _ ⟨_,_,_,_,_,by omega,rfl⟩
  ·exact hK _ ⟨_,_,_,_,_,h0,rfl⟩
 ·rintro ae ⟨fV,jy,x,y,z,h3,rfl⟩;refine qz ?_;rintro K hK -;simp[isMut,R.mut];refine⟨by omega,hK _ ?_⟩;refine qz ?_;rintro K hK -;simp[isMut,R.mut];refine⟨⟨by omega,by simpa using h2⟩,hK _ ?_⟩;simp;exact hE _ _ _ ⟨_,rfl⟩ (k _ _ (O7 _ (by omega)) (N_ _ (by omega)) ⟨_,_,_,rfl,h3⟩)
theorem vM{xs:List D}{i:Nat}(h:(numD m xs)[i]?=some d):∃x,xs[i]?=some x/\d=.tup [.int ((m+i:Nat):Int),x]:=by
 induction xs generalizing m i with
 | nil=>simp[numD] at h
 | cons a xs ih =>
  cases i with
  | zero=>simp[numD] at h;exact⟨a,rfl,h.symm⟩
  | succ i =>
   simp only[numD,NS] at h;obtain⟨x,e1,e2⟩:=ih h;exact⟨x,by simpa using e1,by rw[e2,show m+1+i=m+(i+1) from by omega]⟩
theorem zQ{α:Type}{f:α->D}{xs:List α}{lo:Option Int}:∃ys:List α,cutD (xs.map f) lo hi=ys.map f/\(∀y∈ys,y∈xs)/\ys.length=min (HT.sIx xs.length xs.length hi - HT.sIx xs.length 0 lo) (xs.length - HT.sIx xs.length 0 lo):=by
 refine⟨(xs.drop (HT.sIx xs.length 0 lo)).take (HT.sIx xs.length xs.length hi - HT.sIx xs.length 0 lo),?_,?_,?_⟩
 ·unfold cutD;simp[Pf,QH]
 ·intro y h;exact MD (Mh h)
 ·simp
theorem Gz(ns:List Int):∃d,coF ug [.lst (ns.map .int)]=some d/\PotOk d:=by
 refine wk ?_;unfold ug;refine sw rfl ?_;rw[ye];refine qz λK hK _=>?_
 simp;refine hK _ ?_;obtain⟨cs,e,-,hl⟩:=zQ (f:=D.int) (xs:=ns) (lo:=none) (hi:=some 12);rw[e]
 have dY:cs.length=min 12 ns.length:=by
  rw[hl];simp[HT.sIx]
 refine qX (λae=>∃cs,∃x y z,ae=[x,some (.own (map D.int cs)),y,z]) (λK hK _=>?_) ?_
 ·simp;obtain⟨ms,e,-,hm⟩:=zQ (f:=D.int) (xs:=ns) (lo:=some 12) (hi:=some 63);rw[e];refine rQ (J:=λi Z=>∃cs:List Int,∃y z,cs.length=min 12 ns.length/\Z=[some (.val (.lst (ns.map .int))),some (.own (cs.map .int)),y,z]) ⟨cs,_,_,dY,rfl⟩ ?_ ?_
  ·rintro i d Z hd ⟨cs,y,z,hc,rfl⟩;obtain⟨x,e1,rfl⟩:=vM hd;rw[E_,Nz] at e1;obtain⟨n,e1,rfl⟩:=e1;have hi:i < ms.length:=(D_.mp e1).1
   have qp:12 < ns.length:=by
    simp[HT.sIx] at hm;omega
   simp[isMut,R.mut];have jD:cs.length=12:=by omega
   have pC:((i:Int) % 12)=((i % 12:Nat):Int):=by omega
   rw[pC];have bI:i % 12 < cs.length:=by omega
   rw[qL (a:=D.int cs[i % 12]) (by rw[rN];simp[bI])];simp;refine⟨(cs.set (i % 12) (cs[i % 12]+n)).map .int,?_,?_⟩
   ·unfold stF L2.ixN;rw[if_pos (by omega),if_pos (by simp;omega),show((i:Int) % 12).toNat=i % 12 from by omega];simp
   ·exact⟨cs.set (i % 12) (cs[i % 12]+n),by simpa using hc,by simp⟩
  ·rintro Z ⟨cs,y,z,hc,rfl⟩;exact hK _ ⟨cs,_,_,_,rfl⟩
 ·rintro ae ⟨cs,x,y,z,rfl⟩;simp[flR,fin];exact⟨cs,0,0,rfl,by omega⟩
theorem G1{α:Type}(d:α){xs:List α}(hl:kz.length=xs.length):(srtK d kz xs).Perm xs:=by
 have p:=Ms.mp (sS {} kz.reverse).1;unfold srtK;refine(SN _).trans ((p.map _).trans ?_)
 have e:(Nq xs.reverse.length).map (λi=>xs.reverse.getD i d)=xs.reverse:=by
  refine P_ (by simp) λi h1 h2=>?_
  simp at h1;simp[h1]
 rw[MC,hl,←MC];show List.Perm ((Nq xs.reverse.length).map _) xs;rw[e];exact SN xs
theorem J3{α:Type}(d:α)(f:α->Int)(xs:List α):((srtK d (xs.map f) xs).map f).Pairwise λa b=>b<=a:=by
 obtain⟨pm,up⟩:=sS {} (xs.map f).reverse;have p:=Ms.mp pm;unfold srtK;rw[Qd,List.pairwise_reverse,NH,Q5];refine NF.mpr λi j hi hj lt=>?_
 have hn:(permK (xs.map f).reverse).size=xs.length:=by rw[pm.size];simp
 have lj:j < (xs.map f).reverse.length:=by rw[LS,hn] at hj;simpa using hj
 have li:i < (xs.map f).reverse.length:=by omega
 have u:=up i j lt lj
 have aF:∀k (hk:k < (permK (xs.map f).reverse).toList.length),gt (permK (xs.map f).reverse) k=(permK (xs.map f).reverse).toList[k]/\(permK (xs.map f).reverse).toList[k] < xs.length:=λk hk=>by
  have m:=(p.mem_iff).mp (MF hk);refine⟨?_,by simpa using m⟩;unfold gt;rw[M4,←Mi,h_ hk];rfl
 obtain⟨a1,a2⟩:=aF i hi;obtain⟨b1,b2⟩:=aF j hj;rw[a1,b1] at u;unfold ltR at u
 have key:∀k,k < xs.length->(xs.map f).reverse.getD k 0=f (xs.reverse.getD k d):=λk hk=>by
  rw[←Qd,p_,p_,E_,h_ (by simpa using hk)];rfl
 rw[key _ a2,key _ b2] at u;simp only[decide_eq_false_iff_not,Int.not_lt] at u;exact u
abbrev Falls(l:List Int):Prop:=l.Pairwise λa b=>b<=a
theorem wx:∀{l:List Int},(∀x∈l,0<=x)->0<=l.sum
 | [],_=>by simp
 | a::l,h=>by
  have:=wx λx hx=>h x (j_ a hx)
  have:=h a g_;rw[Pg];omega
noncomputable def mn(a b:Int):Int:=if b < a then b else a
theorem yR:∀(xs:List Int) (x:Int),(∀y∈xs,y<=x)->xs.foldl mx x=x
 | [],x,_=>rfl
 | y::xs,x,h=>by
  have:mx x y=x:=by
   unfold mx;rw[if_neg (by have:=h y g_;omega)]
  rw[Nu,this];exact yR xs x λz hz=>h z (j_ y hz)
theorem Jd{x:Int}{xs:List Int}(f:Falls (x::xs)):maxI 0 (x::xs)=x:=yR xs x (I_.mp f).1
theorem Al:∀{l:List Int}{m:Int},(∀x∈l,x<=m)->(l.map (mn · m)).sum=l.sum
 | [],m,_=>rfl
 | a::l,m,h=>by
  rw[K_,Pg,Pg,Al λx hx=>h x (j_ a hx)]
  have:mn a m=a:=by
   unfold mn;rw[if_neg (by have:=h a g_;omega)]
  rw[this]
theorem xw:∀{l:List Int}{m:Int},(∀x∈l,m<=x)->(l.map (mn · m)).sum=l.length*m
 | [],m,_=>by simp
 | a::l,m,h=>by
  rw[K_,Pg,xw λx hx=>h x (j_ a hx)]
  have:mn a m=m:=by
   unfold mn;have:=h a g_;split<;>omega
  rw[this,Md,Int.natCast_succ,Int.add_mul,Int.one_mul];omega
theorem Cb(f:Falls l)(nn:∀x∈l,0<=x)(k:Nat):0<=maxI 0 (l.drop k)/\(l.map (mn · (maxI 0 (l.drop k)))).sum - k*maxI 0 (l.drop k)=(l.drop k).sum:=by
 cases e:l.drop k with
 | nil =>
  have z:(l.map (mn · 0)).sum=l.length*0:=xw nn;show 0<=(0:Int)/\(l.map (mn · 0)).sum - k*0=0;rw[z];simp
 | cons x xs =>
  have fd:Falls (x::xs):=by
   have:=f.sublist (SJ k l);rw[e] at this;exact this
  rw[Jd fd]
  have lk:k<=l.length:=by
   rcases N4 l.length k with h | h
   ·rw[ND (OH h)] at e;cases e
   ·exact h
  have cut:=MM k l;have x0:x∈l:=MD (by rw[e];exact g_);refine⟨nn x x0,?_⟩;have all:=f;rw[←cut] at all;obtain⟨_,_,hV⟩:=Pp.mp all;have s1:((l.take k).map (mn · x)).sum=(l.take k).length*x:=xw λy hy=>hV y hy x (by rw[e];exact g_)
  have s2:((l.drop k).map (mn · x)).sum=(l.drop k).sum:=Al λy hy=>by
   rw[e] at hy
   rcases n_.mp hy with z | z
   ·omega
   ·exact(I_.mp fd).1 y z
  have s3:(l.map (mn · x)).sum=k*x+(x::xs).sum:=by
   have h1:=congrArg (λz=>(z.map (mn · x)).sum) cut;rw[Oa,List.sum_append,s1,s2,e,L5,MN lk] at h1;exact h1.symm
  rw[s3];omega
noncomputable def span(p:Int×Int):List Int:=(Nq (p.2+1 - p.1).toNat).map λ(k:Nat)=>p.1+(k:Int)
noncomputable def nums(ss:List (Int×Int)):List Int:=setI (ss.flatMap span)
def SOk(p:Int×Int):Prop:=0<=p.1/\p.1<=1000/\-1<=p.2/\p.2<=1000
theorem ud(p:Int×Int):rngD p.1 (p.2+1 - p.1).toNat=(span p).map D.int:=by
 unfold rngD span;rw[NH];rfl
theorem vV{p:Int×Int}(h:SOk p):(span p).length<=1001:=by
 obtain⟨h1,h2,h3,h4⟩:=h;unfold span;simp;omega
theorem ul:∀{ss:List (Int×Int)},(∀p∈ss,SOk p)->(ss.flatMap span).length<=1001*ss.length
 | [],_=>by simp
 | p::ss,h=>by
  have h1:=vV (h p g_);have h2:=ul λq hq=>h q (j_ p hq)
  rw[Q9,LY,Md];omega
theorem Ez(h:(setI ns).length<=299):setIF [.lst (ns.map D.int)]=some ((setI ns).map .int):=by
 unfold setIF;simp only[u9];exact if_pos h
theorem xM(hb:∀p∈ss,SOk p)(hl:ss.length<=100)(few:(nums ss).length<=299):coF sj [.lst (ss.map prD)]=some ((nums ss).map .int):=by
 have:∃d,coF sj [.lst (ss.map prD)]=some d/\d=(nums ss).map .int:=by
  refine wk ?_;unfold sj;refine sw rfl ?_;rw[v8];refine qz λK hK _=>?_
  simp;refine hK _ ?_;refine qX (λae=>∃x y,ae=[x,some (.own ((ss.flatMap span).map .int)),y]) (λK hK _=>?_) ?_
  ·simp;refine rQ (J:=λi Z=>∃x,Z=[some (.val (.lst (ss.map prD))),some (.own (((ss.take i).flatMap span).map .int)),x]) ⟨none,by simp⟩ ?_ ?_
   ·rintro i d Z hd ⟨x,rfl⟩;rw[E_,Nz] at hd;obtain⟨p,e1,rfl⟩:=hd;have hp:=hb p (Mf e1);have ok:=hp;obtain⟨h1,h2,h3,h4⟩:=hp;have tk:ss.take (i+1)=ss.take i++[p]:=by rw[NG,e1];rfl
    have fl:=ul (ss:=ss.take i) λq hq=>hb q (Mh hq)
    have tl:(ss.take i).length<=100:=by rw[L5];omega
    have sl:=vV ok;simp[isMut,R.mut,prD];refine⟨⟨⟨by omega,by omega⟩,by omega,by omega⟩,?_,?_⟩
    ·rw[←QH,←List.length_flatMap,ud,x_];omega
    ·rw[tk,Pr,Oa,ud];simp
   ·rintro Z ⟨x,rfl⟩;refine hK _ ⟨some (.val (.lst (ss.map prD))),x,?_⟩;rw[x_,OE]
  ·rintro ae ⟨x,y,rfl⟩;simp[flR];rw[qL (Ez few)];simp[fin,nums]
 obtain⟨d,e,rfl⟩:=this;exact e
noncomputable def gapsL(l:List Int):List (Int×Int):=((l.zip (l.drop 1)).filter λp=>decide (p.1+1 < p.2)).map λp=>(p.1+1,p.2 - 1)
theorem cut1(l:List Int):cutD (l.map D.int) (some 1) none=(l.drop 1).map D.int:=by
 unfold cutD;rw[x_,Pf];cases l with
 | nil=>simp[HT.sIx]
 | cons a l =>
  simp[HT.sIx];exact L6 (by simp)
theorem AT(l m:List Int):pairsD (l.map D.int) (m.map D.int)=(l.zip m).map λp=>D.tup [.int p.1,.int p.2]:=by
 unfold pairsD;rw[List.zip_map,NH];rfl
theorem A7(hl:l.length<=1000):coF sK [.lst (l.map D.int)]=some ((gapsL l).map prD):=by
 have:∃d,coF sK [.lst (l.map D.int)]=some d/\d=(gapsL l).map prD:=by
  refine wk ?_;unfold sK;refine sw rfl ?_;rw[xj];simp[flR];refine uF (l.zip (l.drop 1)) (λp=>D.tup [.int p.1,.int p.2]) (λp=>decide (p.1+1 < p.2)) (λp=>.tup [.int (p.1+1),.int (p.2 - 1)]) ?_;simp;rw[cut1];refine⟨?_,by omega,⟨_,rfl⟩,?_⟩
  ·rw[AT,RH]
  ·unfold gapsL;rw[RH,NH];rfl
 obtain⟨d,e,rfl⟩:=this;exact e
noncomputable def cutL(l:List Int)(lo hi:Option Int):List Int:=(l.drop (HT.sIx l.length 0 lo)).take (HT.sIx l.length l.length hi - HT.sIx l.length 0 lo)
theorem EZ(l:List Int)(lo hi:Option Int):cutD (l.map D.int) lo hi=(cutL l lo hi).map D.int:=by
 unfold cutD cutL;simp[Pf,QH]
noncomputable def wt(cs:List Int)(p:Int×Int):Int:=(cutL cs (some p.1) (some (p.2+1))).sum
theorem xg(cs:List Int)(p:Int×Int):cvF rV [prD p,.lst (cs.map D.int)]=some (.int (wt cs p)):=by
 refine sM ?_;unfold rV;refine sw rfl ?_;rw[xQ];simp[flR,prD,EZ];rw[qL (tZ _)];simp[fin,wt]
theorem IL{p:Int×Int}(h1:0<=p.1)(h2:p.1<=p.2+1)(h3:p.2 < cs.length):wt cs p=((cs.drop p.1.toNat).take (p.2+1 - p.1).toNat).sum:=by
 have e1:HT.sIx cs.length 0 (some p.1)=p.1.toNat:=by
  unfold HT.sIx;simp only[];rw[if_neg (by omega)];omega
 have e2:HT.sIx cs.length cs.length (some (p.2+1))=(p.2+1).toNat:=by
  unfold HT.sIx;simp only[];rw[if_neg (by omega)];omega
 unfold wt cutL;rw[e1,e2,show(p.2+1).toNat - p.1.toNat=(p.2+1 - p.1).toNat by omega]
theorem Bb(cs:List Int):∀gs:List (Int×Int),keysL (fn1 (cvF rV) (consA (nm 0) (consA (nm 1) nilA))) (.lst (cs.map D.int)) (gs.map prD)=some (gs.map (wt cs))
 | []=>rfl
 | p::gs=>by
  have e:(fn1 (cvF rV) (consA (nm 0) (consA (nm 1) nilA))) [some (.val (prD p)),some (.val (.lst (cs.map D.int)))]=some (.int (wt cs p),[some (.val (prD p)),some (.val (.lst (cs.map D.int)))]):=by
   have:wp (fn1 (cvF rV) (consA (nm 0) (consA (nm 1) nilA))) [some (.val (prD p)),some (.val (.lst (cs.map D.int)))] λd Z=>d=.int (wt cs p)/\Z=[some (.val (prD p)),some (.val (.lst (cs.map D.int)))]:=by
    simp;rw[xg];simp
   obtain⟨d,Z,e,rfl,rfl⟩:=this;exact e
  rw[K_,keysL,e];dsimp only;rw[Bb cs gs];rfl
theorem G5{α β:Type}(f:α->β)(d:α)(d':β){xs:List α}(hl:kz.length=xs.length):srtK d' kz (xs.map f)=(srtK d kz xs).map f:=by
 have p:=Ms.mp (sS {} kz.reverse).1;unfold srtK;rw[Qd,NH];refine congrArg _ (Ps λi hi=>?_);have m:=p.mem_iff.mp hi;have b9:i < xs.reverse.length:=by simp at m;simp;omega
 rw[←Qd,p_,E_,h_ b9];show f xs.reverse[i]=f (xs.reverse.getD i d);rw[p_,h_ b9];rfl
noncomputable def rowB(n:Int):Int->List (Int×Int)->Bool
 | _,[]=>true
 | a,p::ss=>if a < p.1/\p.1<=p.2/\p.2 < n then rowB n p.2 ss else false
theorem JP(n:Int)(ss:List (Int×Int))(hl:ss.length<=1000):cvF uW [.lst (ss.map prD),.int n]=some (.bl (rowB n (-1) ss)):=by
 refine sM ?_;refine sN rfl λKE hE _=>?_
 rw[w8];refine qz λK hK _=>?_
 simp[un1,negI];refine hK _ ?_;refine qz λK hK hR=>?_
 simp;refine rQ (J:=λi Z=>∃a x,rowB n (-1) ss=rowB n a (ss.drop i)/\Z=[some (.val (.lst (ss.map prD))),some (.val (.int n)),some (.val (.int a)),x]) ⟨-1,none,rfl,rfl⟩ ?_ ?_
 ·rintro i d Z hd ⟨a,x,e,rfl⟩;rw[E_,Nz] at hd;obtain⟨p,e1,rfl⟩:=hd;obtain⟨hi,e2⟩:=D_.mp e1;rw[LV hi,e2,rowB] at e;refine⟨(),_,rfl,?_⟩;show wp _ [some (.val (.lst (ss.map prD))),some (.val (.int n)),some (.val (.int a)),some (.val (prD p))] _;refine qz λK1 cM kK=>?_
  by_cases h1:a < p.1
  ·by_cases h2:p.1<=p.2
   ·by_cases h3:p.2 < n
    ·rw[if_pos ⟨h1,h2,h3⟩] at e;simp[prD,chn3,h1,h2,h3];refine cM _ ?_;simp;exact e
    ·rw[if_neg (λh=>h3 h.2.2)] at e;simp[prD,chn3,h1,h2,h3];exact kK _ _ (hR _ _ (hE _ _ ⟨_,rfl,by rw[e]⟩))
   ·rw[if_neg (λh=>h2 h.2.1)] at e;simp[prD,chn3,h1,h2];exact kK _ _ (hR _ _ (hE _ _ ⟨_,rfl,by rw[e]⟩))
  ·rw[if_neg (λh=>h1 h.1)] at e;simp[prD,chn3,h1];exact kK _ _ (hR _ _ (hE _ _ ⟨_,rfl,by rw[e]⟩))
 ·rintro Z ⟨a,x,e,rfl⟩;rw[x_,OC,rowB] at e;refine hK _ ?_;simp;exact hE _ _ ⟨_,rfl,by rw[e]⟩
noncomputable def markB(cs:List Int)(gs:List (Int×Int))(m w k:Int):Bool:=decide (0<=k)&&decide (w=(gs.map λp=>mn (wt cs p) k).sum - (m - 1)*k)
theorem He(cs:List Int)(gs:List (Int×Int))(m w k:Int)(hl:gs.length<=1000)(m0:0<=m)(m1:m<=1000):cvF uG [.lst (gs.map prD),.int m,.lst (cs.map D.int),.int w,.int k]=some (.bl (markB cs gs m w k)):=by
 refine sM ?_;unfold uG;refine sw rfl ?_;rw[xa];refine qz λK hK _=>?_
 simp;refine rS gs prD (λ_=>true) (λp=>.int (mn (wt cs p) k)) ?_;simp[xg];refine⟨by omega,λa b _=>?_,hK _ ?_⟩
 ·unfold mn;rw[Int.min_def];split<;>split<;>omega
 ·have e:(filter (λ_=>true) gs).map (λp=>D.int (mn (wt cs p) k))=(gs.map λp=>mn (wt cs p) k).map D.int:=by
   rw[NX.mpr (by simp),NH];rfl
  obtain⟨ms,em⟩:∃ms,ms=gs.map λp=>mn (wt cs p) k:=⟨_,rfl⟩
  unfold markB;rw[e,←em];by_cases h:0<=k
  ·simp[flR,h];rw[qL (tZ _)];simp[fin,h];refine⟨.inl ⟨by omega,by omega⟩,?_⟩;rw[Bool.eq_iff_iff];simp
  ·simp[flR,h,fin]
abbrev Up(l:List Int):Prop:=l.Pairwise λa b=>a < b
theorem rL{p:Int×Int}{x:Int}:x∈span p↔p.1<=x/\x<=p.2:=by
 unfold span;rw[Nf];constructor
 ·rintro⟨k,hk,rfl⟩;rw[Ob] at hk;omega
 ·rintro⟨h1,h2⟩;exact⟨(x - p.1).toNat,by rw[Ob];omega,by omega⟩
theorem ue(p:Int×Int):Up (span p):=by
 unfold span Up;rw[Q5];exact Nn.imp (λh=>by omega) Q6
theorem yP{m:List Int}(h1:Up l)(h2:Up m)(h:∀a∈l,∀b∈m,a < b):Up (l++m):=Pp.mpr ⟨h1,h2,h⟩
theorem uh{a b c:Int}(h1:a<=b+1)(h2:b<=c):span (a,c)=span (a,b)++span (b+1,c):=by
 refine uu (ue _) (yP (ue _) (ue _) λx hx y hy=>?_) λx=>?_
 ·rw[rL] at hx hy;dsimp only at hx hy;omega
 ·rw[Mc,rL,rL,rL];dsimp only;omega
theorem um(a:Int):span (a,a)=[a]:=by
 refine uu (ue _) (OD _ _) λx=>?_
 rw[rL,q_];dsimp only;omega
theorem se(a b:Int)(l:List Int):gapsL (a::b::l)=if a+1 < b then(a+1,b - 1)::gapsL (b::l) else gapsL (b::l):=by
 show(filter _ ((a,b)::((b::l).zip l))).map _=_;rw[Pe];by_cases h:a+1 < b
 ·rw[if_pos (by simpa using h),if_pos h,K_];rfl
 ·rw[if_neg (show ¬decide (a+1 < b)=true by simpa using h),if_neg h];rfl
inductive Jn:Int->Int->List Int->List (Int×Int)->List (Int×Int)->List (Int×Int)->Prop
 | nil {lo a:Int}:Jn lo a [] [(lo,a)] [] []
 | adj {lo a b:Int}{l:List Int}{row t u:List (Int×Int)}:b=a+1->Jn lo b l row t u->Jn lo a (b::l) row t u
 | cut {lo a b:Int}{l:List Int}{row t u:List (Int×Int)}:a+1 < b->Jn b b l row t u->Jn lo a (b::l) ((lo,a)::row) ((a+1,b - 1)::t) u
 | over {lo a b:Int}{l:List Int}{row t u:List (Int×Int)}:a+1 < b->Jn lo b l row t u->Jn lo a (b::l) row t ((a+1,b - 1)::u)
theorem Jn.len{lo a:Int}{row t u:List (Int×Int)}(h:Jn lo a l row t u):row.length=t.length+1:=by
 induction h with
 | nil=>rfl
 | adj e _ ih=>exact ih
 | cut e _ ih=>rw[Md,Md,ih]
 | over e _ ih=>exact ih
def RowUp(n:Int):Int->List (Int×Int)->Prop
 | _,[]=>True
 | a,p::ss=>a < p.1/\p.1<=p.2/\p.2 < n/\RowUp n p.2 ss
theorem RowUp.low{n c:Int}:∀{ss:List (Int×Int)}{a:Int},RowUp n a ss->c<=a->RowUp n c ss
 | [],_,_,_=>trivial
 | p::ss,a,h,hc=>⟨by have:=h.1;omega,h.2.1,h.2.2.1,h.2.2.2⟩
theorem Jn.row{n lo a:Int}{l:List Int}{row t u:List (Int×Int)}(h:Jn lo a l row t u):lo<=a->(∀x∈a::l,x < n)->RowUp n (lo - 1) row:=by
 induction h with
 | nil=>exact λh1 h2=>⟨by dsimp only;omega,h1,h2 _ g_,trivial⟩
 | adj e _ ih=>exact λh1 h2=>ih (by omega) λx hx=>h2 x (j_ _ hx)
 | cut e _ ih=>exact λh1 h2=>⟨by dsimp only;omega,h1,h2 _ g_,(ih (L9 _) λx hx=>h2 x (j_ _ hx)).low (by dsimp only;omega)⟩
 | over e _ ih=>exact λh1 h2=>ih (by omega) λx hx=>h2 x (j_ _ hx)
theorem RowUp.up{n:Int}:∀{ss:List (Int×Int)}{a:Int},RowUp n a ss->Up (ss.flatMap span)/\∀x∈ss.flatMap span,a < x/\x < n
 | [],a,_=>⟨Nn.nil,λx hx=>by simp at hx⟩
 | p::ss,a,h=>by
  obtain⟨h1,h2,h3,h4⟩:=h;obtain⟨g1,g2⟩:=RowUp.up h4;rw[Q9];refine⟨yP (ue p) g1 λx hx y hy=>?_,λx hx=>?_⟩
  ·have:=(rL.mp hx).2;have:=(g2 y hy).1;omega
  ·rcases Mc.mp hx with z | z
   ·have:=rL.mp z;omega
   ·have:=g2 x z;omega
noncomputable def sumN(P:Int->Bool)(f:Int->Int)(l:List Int):Int:=((l.filter λx=>!P x).map f).sum
theorem u7(P:Int->Bool)(f:Int->Int)(l m:List Int):sumN P f (l++m)=sumN P f l+sumN P f m:=by
 unfold sumN;rw[List.filter_append,Oa,List.sum_append]
theorem wM{P:Int->Bool}{f:Int->Int}{a:Int}(h:P a=true):sumN P f [a]=0:=by
 unfold sumN;rw[Pe,h];rfl
theorem DR{P:Int->Bool}{f:Int->Int}(h:∀x∈l,P x=false):sumN P f l=(l.map f).sum:=by
 unfold sumN;rw[NX.mpr λx hx=>by rw[h x hx];rfl]
theorem Jn.sum{P:Int->Bool}{f:Int->Int}{lo a:Int}{row t u:List (Int×Int)}(h:Jn lo a l row t u):lo<=a->(∀x∈a::l,P x=true)->(∀g∈gapsL (a::l),∀x∈span g,P x=false) →
  sumN P f (row.flatMap span)=sumN P f (span (lo,a))+(u.map λg=>((span g).map f).sum).sum:=by
 induction h with
 | nil =>
  intro _ _ _;rw[Q9,List.flatMap_nil,M5];simp
 | @adj lo a b l row t u e _ ih =>
  intro h1 h2 h3;rw[se,if_neg (by omega)] at h3;rw[ih (by omega) (λx hx=>h2 x (j_ _ hx)) h3,uh (show lo<=a+1 by omega) (show a<=b by omega),u7];have:span (a+1,b)=[b]:=by rw[e];exact um _
  rw[this,wM (h2 b (by simp))];omega
 | @cut lo a b l row t u e _ ih =>
  intro h1 h2 h3;rw[se,if_pos e] at h3;rw[Q9,u7,ih (L9 _) (λx hx=>h2 x (j_ _ hx)) (λg hg=>h3 g (j_ _ hg)),um,wM (h2 b (by simp))];omega
 | @over lo a b l row t u e _ ih =>
  intro h1 h2 h3;rw[se,if_pos e] at h3
  have c1:span (lo,b)=span (lo,a)++(span (a+1,b - 1)++[b]):=by
   rw[uh (show lo<=a+1 by omega) (show a<=b by omega),uh (show a+1<=(b - 1)+1 by omega) (show b - 1<=b by omega),Sk,um]
  rw[ih (by omega) (λx hx=>h2 x (j_ _ hx)) (λg hg=>h3 g (j_ _ hg)),c1,u7,u7,wM (h2 b (by simp)),DR (h3 _ g_),K_,Pg];omega
theorem wU:∀{l:List Int}{a:Int},Up (a::l)->∀g∈gapsL (a::l),a < g.1/\g.1<=g.2/\∀x∈span g,x∉a::l
 | [],a,_,g,hg=>by simp[gapsL] at hg
 | b::l,a,u,g,hg=>by
  obtain⟨u1,u2⟩:=I_.mp u;have ab:=u1 b g_;rw[se] at hg
  have old:g∈gapsL (b::l)->a < g.1/\g.1<=g.2/\∀x∈span g,x∉a::b::l:=λhg=>by
   obtain⟨g1,g2,g3⟩:=wU u2 g hg;refine⟨by omega,g2,λx hx z=>?_⟩
   rcases n_.mp z with z | z
   ·have:=(rL.mp hx).1;omega
   ·exact g3 x hx z
  split at hg
  ·rcases n_.mp hg with z | z
   ·subst z;refine⟨by dsimp only;omega,by dsimp only;omega,λx hx z=>?_⟩;have hx:=rL.mp hx;dsimp only at hx
    rcases n_.mp z with z | z
    ·omega
    ·rcases n_.mp z with z | z
     ·omega
     ·have:=(I_.mp u2).1 x z;omega
   ·exact old z
  ·exact old hg
theorem xf{n:Int}:∀{l:List Int},(∀x∈l,x < n)->∀g∈gapsL l,g.2 < n
 | [],_,g,hg=>by simp[gapsL] at hg
 | [a],_,g,hg=>by simp[gapsL] at hg
 | a::b::l,h,g,hg=>by
  rw[se] at hg;have h':∀x∈b::l,x < n:=λx hx=>h x (j_ _ hx)
  split at hg
  ·rcases n_.mp hg with z | z
   ·subst z;have:=h b (by simp);dsimp only;omega
   ·exact xf h' g z
  ·exact xf h' g hg
theorem AR{n:Int}:∀{l:List Int}{a:Int},Up (a::l)->(∀x∈a::l,x < n)->a+2*(gapsL (a::l)).length < n
 | [],a,_,h=>by have:=h a g_;simpa[gapsL] using this
 | b::l,a,u,h=>by
  obtain⟨u1,u2⟩:=I_.mp u;have ab:=u1 b g_;have:=AR (n:=n) u2 λx hx=>h x (j_ _ hx)
  rw[se];split
  ·rw[Md];omega
  ·omega
theorem yb{n:Int}:∀{l:List Int}{a:Int},Up l->(∀x∈l,a<=x/\x < n)->(l.length:Int)<=(n - a).toNat
 | [],_,_,_=>by rw[List.length_nil];omega
 | b::l,a,u,h=>by
  obtain⟨u1,u2⟩:=I_.mp u;have:=yb (n:=n) (a:=b+1) u2 λx hx=>⟨by have:=u1 x hx;omega,(h x (j_ _ hx)).2⟩
  have:=h b g_;rw[Md];omega
theorem vb(c:Int×Int->Bool):∀{l:List Int}{a:Int} (lo:Int),Up (a::l)->Jn lo a l ((lo::((gapsL (a::l)).filter c).map λg=>g.2+1).zip ((((gapsL (a::l)).filter c).map λg=>g.1 - 1)++[(a::l).getLast (by simp)])) ((gapsL (a::l)).filter c) ((gapsL (a::l)).filter λg=>!c g)
 | [],a,lo,_=>Jn.nil
 | b::l,a,lo,u=>by
  obtain⟨u1,u2⟩:=I_.mp u;have ab:=u1 b g_;rw[se,Qe (by simp)];by_cases h:a+1 < b
  ·rw[if_pos h,Pe,Pe];cases e:c (a+1,b - 1) with
   | true =>
    rw[if_pos rfl,if_neg (by simp),K_,K_,QE,O0];have e1:(a+1 - 1:Int)=a:=by omega
    have e2:(b - 1+1:Int)=b:=by omega
    dsimp only;rw[e1,e2];exact Jn.cut h (vb c b u2)
   | false =>
    rw[if_neg (by simp),if_pos (by simp)];exact Jn.over h (vb c lo u2)
  ·rw[if_neg h];exact Jn.adj (by omega) (vb c lo u2)
theorem xn:∀{l:List Int},Up l->(gapsL l).Pairwise λg h=>g.1 < h.1
 | [],_=>by simp[gapsL]
 | [a],_=>by simp[gapsL]
 | a::b::l,u=>by
  obtain⟨u1,u2⟩:=I_.mp u;have ih:=xn u2;rw[se];split
  ·refine I_.mpr ⟨λg hg=>?_,ih⟩;have:=(wU u2 g hg).1;dsimp only;omega
  ·exact ih
theorem BO:∀{l m:List (Int×Int)},(l.Pairwise λg h=>g.1 < h.1)->(m.Pairwise λg h=>g.1 < h.1)->(∀x,x∈l↔x∈m)->l=m
 | [],[],_,_,_=>rfl
 | [],b::m,_,_,h=>absurd ((h b).mpr g_) (by simp)
 | a::l,[],_,_,h=>absurd ((h a).mp g_) (by simp)
 | a::l,b::m,u,v,h=>by
  obtain⟨u1,u2⟩:=I_.mp u;obtain⟨v1,v2⟩:=I_.mp v
  have e:a=b:=by
   rcases n_.mp ((h a).mp g_) with z | z
   ·exact z
   ·rcases n_.mp ((h b).mpr g_) with y | y
    ·exact y.symm
    ·have:=v1 a z;have:=u1 b y;omega
  subst e;rw[BO u2 v2 λx=>?_];constructor
  ·intro hx
   rcases n_.mp ((h x).mp (j_ a hx)) with z | z
   ·have:=u1 x hx;rw[z] at this;omega
   ·exact z
  ·intro hx
   rcases n_.mp ((h x).mpr (j_ a hx)) with z | z
   ·have:=v1 x hx;rw[z] at this;omega
   ·exact z
theorem zx:∀{l:List (Int×Int)}{a b:Int×Int},(l.Pairwise λg h=>g.1 < h.1)->a∈l->b∈l->a.1=b.1->a=b
 | c::l,a,b,u,ha,hb,e=>by
  obtain⟨u1,u2⟩:=I_.mp u
  rcases n_.mp ha with z | z<;>rcases n_.mp hb with y | y
  ·rw[z,y]
  ·have:=u1 b y;rw[z] at e;omega
  ·have:=u1 a z;rw[y] at e;omega
  ·exact zx u2 z y e
theorem Ir{l:List (Int×Int)}(u:l.Pairwise λg h=>g.1 < h.1):l.Nodup:=u.imp λh e=>by rw[e] at h;omega
theorem Fa{a b:Int×Int}(h:leD (prD a) (prD b)=true):a.1<=b.1:=by
 unfold leD prD at h;rw[tx] at h;unfold dlA at h;rw[cOA,cO] at h;unfold cI at h;by_cases c:b.1 < a.1
 ·rw[if_pos c] at h;simp at h
 ·omega
theorem FE{N:List Int}{T:List (Int×Int)}(u:Up N)(hs:∀x∈T,x∈gapsL N)(nd:T.Nodup):sortD (T.map prD)=((gapsL N).filter λg=>decide (g∈T)).map prD:=by
 have e0:sortD (T.map prD)=(T.mergeSort λa b=>leD (prD a) (prD b)).map prD:=by
  unfold sortD;exact(List.map_mergeSort (r:=λa b=>leD (prD a) (prD b)) (s:=leD) (f:=prD) (l:=T) λ_ _ _ _=>rfl).symm
 have pm:(T.mergeSort λa b=>leD (prD a) (prD b)).Perm T:=RR _ _;have up:(T.mergeSort λa b=>leD (prD a) (prD b)).Pairwise λa b=>leD (prD a) (prD b)=true:=Qv (le:=λa b=>leD (prD a) (prD b)) (λa b c=>BQ (prD a) (prD b) (prD c)) (λa b=>yy (prD a) (prD b)) T
 have gu:=xn u;rw[e0];refine congrArg _ (BO ?_ (gu.sublist List.filter_sublist) λx=>?_)
 ·have dF:=Nn.and up (pm.nodup_iff.mpr nd);refine Tu (λ{a b} ha hb h=>?_) dF;have h1:=Fa h.1;have:a.1≠b.1:=λe=>h.2 (zx gu (hs a (pm.mem_iff.mp ha)) (hs b (pm.mem_iff.mp hb)) e)
  omega
 ·rw[pm.mem_iff,S9,decide_eq_true_iff];exact⟨λh=>⟨hs x h,h⟩,λh=>h.2⟩
theorem xL(ds:List D){i:Int}(h:0<=i):cutD ds none (some i)=ds.take i.toNat:=by
 unfold cutD HT.sIx;simp only[];rw[if_neg (by omega),Qq,Nat.sub_zero]
 rcases TB i.toNat ds.length with c | c
 ·rw[MN c]
 ·rw[Pz c,OE,L6 c]
theorem BZ(ds:List D){i:Int}(h:0<=i):cutD ds (some i) none=ds.drop i.toNat:=by
 unfold cutD HT.sIx;simp only[];rw[if_neg (by omega)]
 rcases TB i.toNat ds.length with c | c
 ·rw[MN c];refine L6 ?_;simp
 ·rw[Pz c,OC,ND c,take_nil]
theorem Ig(ds:List D):cutD ds (some (-1)) none=ds.drop (ds.length - 1):=by
 unfold cutD HT.sIx;simp only[];rw[if_pos (by omega),show(-1+(ds.length:Int)).toNat=ds.length - 1 by omega];refine L6 ?_;simp
noncomputable def falL(cs N:List Int):List (Int×Int):=srtK (0,0) ((gapsL N).map (wt cs)) (gapsL N)
theorem xP(cs N:List Int):(falL cs N).Perm (gapsL N):=G1 _ (by simp)
noncomputable def fewW(cs N:List Int):List Int:=(falL cs N).map (wt cs)
noncomputable def cutG(cs N:List Int)(k:Nat):List (Int×Int):=(gapsL N).filter λg=>decide (g∈(falL cs N).take k)
noncomputable def rowF(cs N:List Int)(k:Nat):List (Int×Int):=(N.take 1++(cutG cs N k).map λ(g:Int×Int)=>g.2+1).zip (((cutG cs N k).map λ(g:Int×Int)=>g.1 - 1)++N.drop (N.length - 1))
noncomputable def fewD(cs N:List Int)(k:Nat):D:=.tup [.int ((fewW cs N).drop k).sum,.lst ((rowF cs N k).map prD),.int (maxI 0 ((fewW cs N).drop k))]
theorem GR(h:∀d∈ds,dep d<=n):depA ds<=n:=by
 induction ds with
 | nil=>simp[depA]
 | cons d ds ih =>
  rw[depA];have h1:=h d g_;have h2:=ih λd hd=>h d (j_ _ hd)
  omega
theorem Fm{N:List Int}{k:Nat}(u:Up N)(h:(gapsL N).length < 64):sortF [.lst (((falL cs N).take k).map prD)]=some ((cutG cs N k).map prD):=by
 have pm:=xP cs N;have hm:∀x∈(falL cs N).take k,x∈gapsL N:=λx hx=>pm.mem_iff.mp (Mh hx)
 have nd:((falL cs N).take k).Nodup:=(pm.nodup_iff.mpr (Ir (xn u))).sublist (P6 _ _)
 have ln:((falL cs N).take k).length < 64:=by
  have:=pm.length_eq;rw[L5];omega
 unfold cutG;generalize (falL cs N).take k=T at *;rw[←FE u hm nd];refine Cp ⟨by simpa using ln,?_,?_,.inr (.inl ?_)⟩
 ·unfold cmAll;rw[Na];intro a ha;rw[Na];intro b hb;obtain⟨x,_,rfl⟩:=Nf.mp ha;obtain⟨y,_,rfl⟩:=Nf.mp hb;simp[prD,cmB,cmA]
 ·have:depA (T.map prD)<=2:=GR λd hd=>by
   obtain⟨x,_,rfl⟩:=Nf.mp hd;simp[prD,dep,depA]
  omega
 ·rw[Na];intro a ha;obtain⟨x,_,rfl⟩:=Nf.mp ha;rfl
theorem wN{K:Fl->Gm->Prop}{i:Nat}{g:List R->Option (R×List R)}{os:List D}(hj:Z[j]?=some (some (.val d)))(h:coF g [d]=some os)(hi:i < Z.length)(k:K .nx (Z.set i (some (.val (.lst os))))):wp (setV i (frz (fn1 (coF g) (consA (nm j) nilA)))) Z K:=by
 rw[tE,v3,Gb,vI,Ep,hj];show wp nilA Z _;rw[Ak,qL h];exact⟨hi,k⟩
theorem JQ{N:List Int}(h:(gapsL N).length < 64):sortLF (fn1 (cvF rV) (consA (nm 0) (consA (nm 1) nilA))) (.lst ((gapsL N).map prD)) (.lst (cs.map D.int))=some ((falL cs N).map prD):=by
 unfold sortLF;dsimp only;rw[Bb];dsimp only;rw[if_pos (by simpa using h),G5 prD (0,0) .non (by simp)];rfl
theorem Ec{m:List Int}(h:l.length=m.length)(h2:l.length<=1000):zipLF [.lst (l.map D.int),.lst (m.map D.int)]=some ((l.zip m).map prD):=by
 unfold zipLF;dsimp only;rw[if_pos ⟨by simpa using h,by simpa using h2⟩,AT];rfl
theorem IY{k:Nat}(hb:∀p∈ss,SOk p)(hl:ss.length<=100)(few:(nums ss).length<=299)(ne:nums ss≠[])(bY:(gapsL (nums ss)).length < 64):
  cvF sZ [.lst (ss.map prD),.int ((k:Int)+1),.lst (cs.map D.int)]=some (fewD cs (nums ss) k):=by
 have up:Up (nums ss):=uq _;have n1:=xM hb hl few;obtain⟨N,hN⟩:∃N,nums ss=N:=⟨_,rfl⟩;rw[hN] at few ne bY up n1 ⊢;have gl:=A7 (l:=N) (by omega);have fl:=(xP cs N).length_eq;have cl:(cutG cs N k).length<=(gapsL N).length:=List.length_filter_le _ _;refine sM ?_;unfold sZ;refine sw rfl ?_;rw[xO];refine qz λK hK _=>wN rfl n1 (show 3 < 9 by decide) (hK _ ?_)
 dsimp only[map,length,Mw,List.append,HAppend.hAppend,Append.append,List.set];refine qz λK hK _=>?_
 simp[sortLam];rw[qL gl];refine⟨.lst (cs.map D.int),_,rfl,?_⟩;dsimp only;rw[qL (JQ bY)];refine⟨by simp,hK _ ?_⟩;refine qz λK hK _=>?_
 simp;rw[xL _ (by omega),←QH,Oq,qL (Fm up bY)];refine⟨by simp,hK _ ?_⟩;refine qz λK hK _=>?_
 simp;refine rS ((falL cs N).drop k) prD (λ_=>true) (λp=>.int (wt cs p)) ?_;simp[xg];rw[BZ _ (by omega),Oq,←Pf];refine⟨rfl,by omega,hK _ ?_⟩
 have e6:((List.drop k (falL cs N)).filter λ_=>true).map (λp=>D.int (wt cs p))=((fewW cs N).drop k).map D.int:=by
  unfold fewW;rw[NX.mpr (by simp),←Pf,NH];rfl
 rw[e6];unfold fewD rowF;generalize (fewW cs N).drop k=ws;generalize cutG cs N k=O at *;clear e6 fl gl n1 hb;refine qz λK hK _=>?_
 simp;refine rS O prD (λ_=>true) (λg=>.int (g.2+1)) ?_;simp[prD];have fo:O.filter (λ_=>true)=O:=NX.mpr (by simp);rw[xL _ (by omega),fo];refine⟨by omega,by rw[L5];simp;omega,hK _ ?_⟩
 have e7:(N.map D.int).take (Int.toNat 1)++O.map (λg=>D.int (g.2+1))=(N.take 1++O.map λ(g:Int×Int)=>g.2+1).map D.int:=by
  rw[Oa,QH,NH];rfl
 rw[e7];have nl:0 < N.length:=Pt.mpr ne
 have l7:(N.take 1++O.map λ(g:Int×Int)=>g.2+1).length=O.length+1:=by
  rw[LY,L5,x_];omega
 clear e7;generalize (N.take 1++O.map λ(g:Int×Int)=>g.2+1)=L at *;refine qz λK hK _=>?_
 simp[un1,negI];refine rS O prD (λ_=>true) (λg=>.int (g.1 - 1)) ?_;simp[prD];rw[Ig,fo];refine⟨by omega,by rw[ME];simp;omega,hK _ ?_⟩
 have e8:O.map (λg=>D.int (g.1 - 1))++(N.map D.int).drop ((N.map D.int).length - 1)=((O.map λ(g:Int×Int)=>g.1 - 1)++N.drop (N.length - 1)).map D.int:=by
  rw[Oa,Pf,NH,x_];rfl
 rw[e8]
 have l8:((O.map λ(g:Int×Int)=>g.1 - 1)++N.drop (N.length - 1)).length=O.length+1:=by
  rw[LY,ME,x_];omega
 clear e8;generalize ((O.map λ(g:Int×Int)=>g.1 - 1)++N.drop (N.length - 1))=M at *;simp[flR];rw[qL (tZ ws)];simp;rw[qL (Ec (by omega) (by omega))];simp;rw[qL (Ej 0 ws)];simp[fin]
section
variable{QS:Fl->Gm->Prop}{QB:Bool->Gm->Prop}{QL:List D->Gm->Prop}{QK:List (Int×D)->Gm->Prop}
@[simp ↓] theorem Lq{i:Nat}{g:M (List (Int×D))}:wp (setK i g) Z QS↔wp g Z λd ae=>i < ae.length/\QS .nx (ae.set i (some (.dic d))):=by simp[setK]
@[simp ↓] theorem LJ{i:Nat}:wp (lookK i) Z QK↔match Z[i]? with
  | some (some (.dic aj))=>QK aj Z
  | _=>False:=by
 unfold wp lookK
 rcases e:Z[i]? with _ | _ | r
 ·simp
 ·simp
 ·cases r<;>simp<;>exact⟨λ⟨_,_,⟨h1,h2⟩,q⟩=>by subst h1;subst h2;exact q,λq=>⟨_,_,⟨rfl,rfl⟩,q⟩⟩
@[simp ↓] theorem Kw{i:Nat}:wp (tookK i) Z QK↔match Z[i]? with
  | some (some (.dic aj))=>QK aj (Z.set i none)
  | _=>False:=by
 unfold wp tookK
 rcases e:Z[i]? with _ | _ | r
 ·simp
 ·simp
 ·cases r<;>simp<;>exact⟨λ⟨_,_,⟨h1,h2⟩,q⟩=>by subst h1;subst h2;exact q,λq=>⟨_,_,⟨rfl,rfl⟩,q⟩⟩
@[simp ↓] theorem LR{i:Nat}{F:List (Int×D)->Option (List (Int×D))}:wp (wrK i F) Z QS↔match Z[i]? with
  | some (some (.dic aj))=>∃es,F aj=some es/\QS .nx (Z.set i (some (.dic es)))
  | _=>False:=by
 unfold wp wrK
 rcases e:Z[i]? with _ | _ | r
 ·simp
 ·simp
 ·cases r with
  | dic aj =>
   rcases he:F aj with _ | es
   ·simp[he]
   ·simp[he];exact⟨λ⟨_,_,⟨h1,h2⟩,q⟩=>by subst h1;subst h2;exact q,λq=>⟨_,_,⟨rfl,rfl⟩,q⟩⟩
  | _=>simp
@[simp ↓] theorem KI{i:Nat}:wp (retK i) Z QS↔wp (tookK i) Z λd ae=>QS (.rt (.dic d)) ae:=by simp only[retK,qY,sL]
@[simp ↓] theorem Lk{i:Nat}:wp (putG i gk gv) Z QS↔wp gv Z λd ae=>wp (lookK i) ae λ_ ao=>wp gk ao λn aO=>wp (wrK i (putGF n d)) aO QS:=by simp only[putG,qY]
@[simp ↓] theorem Kn:wp dlit0 Z QK↔QK [] Z:=by simp only[dlit0,sL]
end
theorem DJ{g:List R->Option (R×List R)}{d:List (Int×D)}(h:wpF g (ds.map .val) λr _=>r=.dic d):ckF g ds=some d:=by
 obtain⟨r,bf,e,rfl⟩:=h;unfold ckF;rw[e]
noncomputable def addN(am:List Int)(x:Int):List Int:=if x∈am then am else am++[x]
noncomputable def hadL(l:List Int):List Int:=l.foldl addN []
theorem zC(l:List Int)(x:Int):hadL (l++[x])=addN (hadL l) x:=by
 unfold hadL;rw[PB];rfl
theorem FB{P:List Int->Prop}(h0:P [])(hs:∀l x,P l->P (l++[x]))(l:List Int):P l:=by
 have key:∀m:List Int,P m.reverse:=by
  intro m
  induction m with
  | nil=>exact h0
  | cons x m ih=>rw[Pu];exact hs _ _ ih
 have:=key l.reverse
 rwa [List.reverse_reverse] at this
theorem vj(l:List Int):(hadL l).Nodup/\(hadL l).length<=l.length/\(∀x,x∈hadL l↔x∈l)/\(l.Nodup->hadL l=l):=by
 induction l using FB with
 | h0=>exact⟨List.nodup_nil,A_ _,λx=>Iff.rfl,λ_=>rfl⟩
 | hs l x ih =>
  obtain⟨h1,h2,h3,h4⟩:=ih;rw[zC];unfold addN;by_cases c:x∈hadL l
  ·rw[if_pos c];refine⟨h1,by simp;omega,λy=>?_,λnd=>?_⟩
   ·rw[h3,Mc,q_];exact⟨.inl,λz=>z.elim id λe=>by subst e;exact(h3 _).mp c⟩
   ·have:=(Qg.mp nd).2.2 x ((h3 x).mp c) x (by simp);exact absurd rfl this
  ·rw[if_neg c];refine⟨Qg.mpr ⟨h1,by simp,λa ha b hb e=>?_⟩,by simp;omega,λy=>?_,λnd=>?_⟩
   ·rw[q_] at hb;subst e;subst hb;exact c ha
   ·rw[Mc,Mc,h3]
   ·rw[h4 (Qg.mp nd).1]
noncomputable def tabL(l:List Int):List (Int×D):=l.map λx=>(x,.bl true)
theorem Aq(k:Int):∀l:List Int,(valD (tabL l) k).isSome=decide (k∈l)
 | []=>rfl
 | x::l=>by
  show(valD ((x,D.bl true)::tabL l) k).isSome=_;rw[valD];by_cases e:x=k
  ·rw[if_pos e];simp[e]
  ·rw[if_neg e,Aq k l];have:¬k=x:=λz=>e z.symm
   simp[this]
theorem Cy(k:Int)(h:l.length < 1000000):putGF (.int k) (.bl true) (tabL l)=some (tabL (addN l k)):=by
 unfold putGF;dsimp only;rw[if_pos (by unfold tabL lim;simpa using h),Aq];unfold addN;by_cases c:k∈l
 ·rw[if_pos c,if_pos (by simpa using c)];unfold tabL;rw[NH];refine congrArg _ (Ps λx _=>?_);show(if x=k then(x,D.bl true) else(x,D.bl true))=_;split<;>rfl
 ·rw[if_neg c,if_neg (by simpa using c)];unfold tabL;rw[Oa];rfl
theorem xp(l:List Int):(tabL l).map (·.1)=l:=by
 unfold tabL;rw[NH];exact List.map_id _
noncomputable def cAt(cs:List Int)(x:Int):Int:=cs.getD x.toNat 0
theorem Ic{g:Int×Int}(h1:0<=g.1)(h2:g.1<=g.2)(h3:g.2 < cs.length):((span g).map (cAt cs)).sum=wt cs g:=by
 rw[IL h1 (by omega) h3];refine congrArg List.sum (P_ ?_ λi hi hj=>?_)
 ·unfold span;simp;omega
 ·unfold span at hi;simp at hi;simp only[span,O6,Qi,Qb,Q7];unfold cAt;have e:(g.1+(i:Int)).toNat=g.1.toNat+i:=by omega
  rw[e,p_,h_ (by omega)];rfl
def Gd(n:Int)(N:List Int):Prop:=Up N/\∀x∈N,0<=x/\x < n
noncomputable def inN(N:List Int)(x:Int):Bool:=decide (x∈N)
theorem GI(l:List Int)(h:l≠[]):l.drop (l.length - 1)=[l.getLast h]:=by
 have:0 < l.length:=Pt.mpr h;rw[LV (by omega),List.getLast_eq_getElem,ND (by omega)]
theorem zd{a:Int}(u:Up (a::l))(k:Nat):Jn a a l (rowF cs (a::l) k) (cutG cs (a::l) k) ((gapsL (a::l)).filter λg=>!decide (g∈(falL cs (a::l)).take k)):=by
 have j:=vb (λg=>decide (g∈(falL cs (a::l)).take k)) a u;have e:(a::l).drop ((a::l).length - 1)=[(a::l).getLast (by simp)]:=GI _ _;unfold rowF;rw[e];exact j
theorem Au{n a:Int}{row t u:List (Int×Int)}(h:Gd n (a::l))(j:Jn a a l row t u):RowUp n (-1) row:=
 (j.row (n:=n) (L9 a) λx hx=>(h.2 x hx).2).low (by have:=(h.2 a g_).1;omega)
theorem Bt{n:Int}(hn:n<=1000):∀{ss:List (Int×Int)}{a:Int},-1<=a->RowUp n a ss->∀p∈ss,SOk p
 | q::ss,a,ha,h,p,hp=>by
  obtain⟨h1,h2,h3,h4⟩:=h
  rcases n_.mp hp with z | z
  ·subst z;exact⟨by omega,by omega,by omega,by omega⟩
  ·exact Bt hn (a:=q.2) (by omega) h4 p z
theorem HE{n a:Int}(h:RowUp n a ss):nums ss=ss.flatMap span:=uu (uq _) h.up.1 λx=>sC
theorem wI{n:Int}{N:List Int}(h:Gd n N)(hn:n<=100):N.length<=100:=by
 have:=yb (n:=n) (a:=0) h.1 h.2;omega
theorem uS{n:Int}{N:List Int}(h:Gd n N)(hn:n<=100):(gapsL N).length < 64:=by
 cases N with
 | nil=>simp[gapsL]
 | cons a l =>
  have:=AR (n:=n) h.1 λx hx=>(h.2 x hx).2
  have:=(h.2 a g_).1;omega
theorem Dp(cs N:List Int):Falls (fewW cs N):=J3 _ _ _
theorem Eh(h:∀x∈cs,0<=x)(p:Int×Int):0<=wt cs p:=wx λx hx=>h x (MD (Mh hx))
theorem BI(h:∀x∈cs,0<=x)(N:List Int):∀x∈fewW cs N,0<=x:=λx hx=>by
 obtain⟨g,_,rfl⟩:=Nf.mp hx;exact Eh h g
theorem CO(x:Int)(l:List Int):(l.map D.int).any (λd=>deq d (.int x))=decide (x∈l):=by
 induction l with
 | nil=>rfl
 | cons y l ih =>
  rw[K_,O3,ih];by_cases e:x=y
  ·simp[e,deq]
  ·have:¬y=x:=λz=>e z.symm
   simp[e,this,deq]
theorem xR(neg:Bool)(x:Int)(l:List Int):inF neg (.int x) (.lst (l.map D.int))=some (.bl (if neg then !inN l x else inN l x)):=by
 unfold inF seqI;dsimp only;rw[if_pos (by simp[dep]),CO];rfl
theorem at_c{x:Int}(h0:0<=x)(h1:x < cs.length):atI (cs.map D.int) x=some (.int (cAt cs x)):=by
 obtain⟨j,rfl⟩:∃j:Nat,x=j:=⟨x.toNat,by omega⟩;rw[rN,E_];unfold cAt;rw[Oq,p_,h_ (by omega)];rfl
theorem wC(hb:∀p∈ss,SOk p)(hl:ss.length<=100):ckF sy [.lst (ss.map prD)]=some (tabL (hadL (ss.flatMap span))):=by
 refine DJ ?_;unfold sy;refine sw rfl ?_;rw[xo];refine qz λK hK _=>?_
 simp;refine hK _ ?_;refine qX (λae=>∃x y z,ae=[some (.val (.lst (ss.map prD))),some (.dic (tabL (hadL (ss.flatMap span)))),x,y,z]) (λK hK _=>?_) ?_
 ·simp;refine rQ (J:=λi Z=>∃x y z,Z=[some (.val (.lst (ss.map prD))),some (.dic (tabL (hadL ((ss.take i).flatMap span)))),x,y,z]) ⟨none,none,none,rfl⟩ ?_ ?_
  ·rintro i d Z hd ⟨x,y,z,rfl⟩;rw[E_,Nz] at hd;obtain⟨p,e1,rfl⟩:=hd;have ok:=hb p (Mf e1);obtain⟨h1,h2,h3,h4⟩:=id ok
   have tk:(ss.take (i+1)).flatMap span=(ss.take i).flatMap span++span p:=by
    rw[NG,e1,Pr];simp
   have fl:=ul (ss:=ss.take i) λq hq=>hb q (Mh hq)
   have tl:(ss.take i).length<=100:=by rw[L5];omega
   have sl:=vV ok;rw[tk];generalize (ss.take i).flatMap span=A at *;simp[prD];rw[ud];refine⟨⟨⟨by omega,by omega⟩,by omega,by omega⟩,?_⟩;refine rQ (J:=λj Z=>∃z,Z=[some (.val (.lst (ss.map prD))),some (.dic (tabL (hadL (A++(span p).take j)))),some (.val (.int p.1)),some (.val (.int p.2)),z]) ⟨z,by simp⟩ ?_ ?_
   ·rintro j d Z hd ⟨z,rfl⟩;rw[E_,Nz] at hd;obtain⟨n,e2,rfl⟩:=hd
    have t2:A++(span p).take (j+1)=A++(span p).take j++[n]:=by
     rw[NG,e2];simp
    have ln:=(vj (A++(span p).take j)).2.1;rw[LY,L5] at ln;simp;rw[Cy n (by omega),t2,zC]
   ·rintro Z ⟨z,rfl⟩;rw[x_,OE];exact⟨_,_,_,rfl⟩
  ·rintro Z ⟨x,y,z,rfl⟩;refine hK _ ⟨x,y,z,?_⟩;rw[x_,OE]
 ·rintro ae ⟨x,y,z,rfl⟩;simp[flR,fin]
theorem BN(xs:List D)(x:D):deq (.lst (xs++[x])) (.lst [])=false:=by
 cases xs<;>simp[deq,deqA]
@[simp] theorem vH{α:Type}{a b c d:α}{ds:List α}:atI (a::b::c::d::ds) 3=some d:=by
 rw[show(3:Int)=((3:Nat):Int) from rfl,DL.rN];rfl
@[simp] theorem AY{α:Type}{a b c d e:α}{ds:List α}:atI (a::b::c::d::e::ds) 4=some e:=by
 rw[show(4:Int)=((4:Nat):Int) from rfl,DL.rN];rfl
theorem Kg{QL:List D->Gm->Prop}(J:Nat->List D->Gm->Prop)(h:wp it Z λds ae=>ds.length<=lim/\J 0 [] ae/\(∀(i:Nat) d am a ao,ds[i]?=some d->J i am ao->wp (az d) (a::ao) λ_ aO=>wp ts aO λb a9=>b=true/\wp el a9 λx fM=>∃a' fN,fM=a'::fN/\J (i+1) (am++[x]) fN)/\∀am ao,J ds.length am ao->QL am ao):wp (compO 1 it az ts el) Z QL:=by
 unfold compO;rw[qY];refine h.mono λds ae ⟨hl,h0,hs,hq⟩=>?_
 rw[if_pos hl]
 have key:∀(es:List D) (i:Nat) (am:List D) (a:Option R) (ao:Gm),ds.drop i=es->i<=ds.length->J i am ao->∃r a' cU,compM az ts el es (a::ao)=some (r,a'::cU)/\J ds.length (am++r) cU:=by
  intro es
  induction es with
  | nil =>
   intro i am a ao hd hi hj
   have:i=ds.length:=by
    have:=Ry.mp hd;omega
   subst this;exact⟨[],a,ao,rfl,by simpa using hj⟩
  | cons d es ih =>
   intro i am a ao hd hi hj
   have bI:i < ds.length:=by
    rcases N4 i ds.length with z | z
    ·exact z
    ·rw[M0 z] at hd;cases hd
   have e1:ds[i]?=some d:=by
    have:=LV bI;rw[hd] at this;cases this;exact h_ bI
   have e2:ds.drop (i+1)=es:=by
    have:=LV bI;rw[hd] at this;injection this with _ q
    exact q.symm
   obtain⟨_,aO,g1,b,a9,g2,rfl,x,fM,g3,a',fN,rfl,jU⟩:=hs i d am a ao e1 hj;obtain⟨r,pD,cU,g4,nB⟩:=ih (i+1) (am++[x]) a' fN e2 bI jU;refine⟨x::r,pD,cU,?_,by simpa using nB⟩;rw[compM];unfold bnd;rw[g1];dsimp only;rw[g2];dsimp only;rw[if_pos rfl];rw[g3];dsimp only;rw[g4];rfl
 obtain⟨r,a',cU,e,hj⟩:=key ds 0 [] none ae rfl (Me _) h0;refine⟨r,cU,?_,hq r cU (by simpa using hj)⟩;have e':compM az ts el ds (Mw 1 none++ae)=some (r,a'::cU):=e;unfold inC;rw[e'];rfl
theorem uk:∀ss:List (Int×Int),depA (ss.map prD)<=1
 | []=>by simp[depA]
 | p::ss=>by
  have:=uk ss;rw[K_,depA];have e:dep (prD p)=1:=by simp[prD,dep,depA]
  omega
theorem CZ{Q:R->List D->Prop}(hc:PotOk c)(k:∀(cs:List Int) c',1<=cs.length->cs.length<=100->(∀x∈cs,0<=x)->(∀x∈cs,x<=10 ^ 57)->PotOk c'->Q (.own (cs.map D.int)) c'):wpB vT c [] Q:=by
 refine uz rfl λKE hE _=>?_
 rw[wv];refine qX (λae=>∃c n,PotOk c/\1<=n/\n<=100/\ae=[some (.bor c),some (.val (.int n)),none]) (λK hK _=>?_) ?_
 ·simp[isMut,R.mut];refine qR hc (by omega) (by omega) λa c a1 a2 hc=>?_
  simp[isMut,R.mut];refine qR hc (by omega) (by omega) λb c b1 b2 hc=>?_
  simp[isMut,R.mut];refine qR hc (by omega) (by omega) λi c i1 i2 hc=>?_
  have:i=0\/i=1\/i=2\/i=3:=by omega
  rcases this with rfl | rfl | rfl | rfl<;>simp[vH]<;>exact hK _ ⟨c,_,hc,by omega,by omega,rfl⟩
 rintro ae ⟨c,n,hc,n1,n2,rfl⟩;refine qX (λae=>∃c t,PotOk c/\1<=t/\t<=10 ^ 56/\ae=[some (.bor c),some (.val (.int n)),some (.val (.int t))]) (λK hK _=>?_) ?_
 ·simp[isMut,R.mut];refine qR hc (by omega) (by omega) λi c i1 i2 hc=>?_
  have:i=0\/i=1\/i=2\/i=3:=by omega
  rcases this with rfl | rfl | rfl | rfl<;>simp[vH]<;>exact hK _ ⟨c,_,hc,by omega,by omega,rfl⟩
 rintro ae ⟨c,t,hc,t1,t2,rfl⟩;simp
 have it:wp (fn1 rngI1 (consA (nm 1) nilA)) [some (.bor c),some (.val (.int n)),some (.val (.int t))] λds ae=>ds=rngD 0 n.toNat/\ae=[some (.bor c),some (.val (.int n)),some (.val (.int t))]:=by
  simp;omega
 have ln:(rngD 0 n.toNat).length=n.toNat:=by unfold rngD;simp
 refine Kg (λi am Z=>∃(c:List D) (xs:List Int),PotOk c/\xs.length=i/\(∀x∈xs,0<=x/\x<=10 ^ 57)/\am=xs.map D.int/\Z=[some (.bor c),some (.val (.int n)),some (.val (.int t))]) (it.mono ?_);rintro ds ae ⟨rfl,rfl⟩;refine⟨by rw[ln];unfold lim;omega,⟨c,[],hc,rfl,by simp,rfl,rfl⟩,?_,?_⟩
 ·rintro i d am a ao hd ⟨c,xs,hc,hi,h0,rfl,rfl⟩;refine⟨(),_,rfl,?_⟩;show wp _ [some (.val d),some (.bor c),some (.val (.int n)),some (.val (.int t))] _;simp[isMut,R.mut];refine qR hc (by omega) (by omega) λa c a1 a2 hc=>?_
  simp[isMut,R.mut];refine qR hc (by omega) (by omega) λb c b1 b2 hc=>?_
  simp;refine⟨by omega,_,_,⟨rfl,rfl⟩,c,hc,xs++[a*b],by simp[hi],λx hx=>?_,by simp,rfl⟩
  rcases Mc.mp hx with z | z
  ·exact h0 x z
  ·rw[q_.mp z];refine⟨Int.mul_nonneg a1 b1,?_⟩;have:=Int.mul_le_mul (show a<=9 by omega) (show b<=10 ^ 56 by omega) b1 (by decide);omega
 ·rintro am ao ⟨c,xs,hc,hi,h0,rfl,rfl⟩;rw[ln] at hi;exact hE _ _ _ ⟨_,rfl⟩ (k xs c (by omega) (by omega) (λx hx=>(h0 x hx).1) (λx hx=>(h0 x hx).2) hc)
def StOk(n:Int)(p:Int×Int):Prop:=0<=p.1/\p.1<=p.2/\p.2 < n
theorem Du{n:Int}{Q:R->List D->Prop}(hc:PotOk c)(n1:1<=n)(n2:n<=100)(k:∀(ss:List (Int×Int)) c',1<=ss.length->ss.length<=12->(∀p∈ss,StOk n p)->PotOk c'->Q (.val (.lst (ss.map prD))) c'):wpB vU c [.int n] Q:=by
 refine uz rfl λKE hE _=>?_
 rw[wB];refine qz λK hK _=>?_
 simp;refine hK _ ?_;refine qz λK hK _=>?_
 simp[isMut,R.mut];refine qR hc (by omega) (by omega) λm c m1 m2 hc=>?_
 simp;refine⟨by omega,?_⟩;refine rQ (J:=λi Z=>∃(c:List D) (ss:List (Int×Int)) (x y z:Option R),PotOk c/\ss.length=i/\(∀p∈ss,StOk n p)/\Z=[some (.bor c),some (.val (.int n)),some (.own (ss.map prD)),x,y,z]) ⟨c,[],none,none,none,hc,rfl,by simp,rfl⟩ ?_ ?_
 ·rintro i d Z hd ⟨c,ss,x,y,z,hc,hi,hs,rfl⟩
  have il:i < 12:=by
   have:=D_.mp hd;obtain⟨h,_⟩:=this;unfold rngD at h;simp at h;omega
  refine⟨(),_,rfl,?_⟩;show wp _ [some (.bor c),some (.val (.int n)),some (.own (ss.map prD)),some (.val d),y,z] _;refine qX (λae=>∃c a,PotOk c/\0<=a/\a < n/\ae=[some (.bor c),some (.val (.int n)),some (.own (ss.map prD)),some (.val d),some (.val (.int a)),z]) (λK hK _=>?_) ?_
  ·simp[isMut,R.mut];refine qR hc (by omega) (by omega) λa c a1 a2 hc=>?_
   simp;exact hK _ ⟨c,a,hc,a1,a2,rfl⟩
  rintro ae ⟨c,a,hc,a1,a2,rfl⟩;refine qX (λae=>∃c a,PotOk c/\0<=a/\a < n/\ae=[some (.bor c),some (.val (.int n)),some (.own (ss.map prD)),some (.val d),some (.val (.int a)),z]) (λK hK _=>?_) ?_
  ·rcases List.eq_nil_or_concat ss with rfl | ⟨kL,p,rfl⟩
   ·simp[isMut,R.mut,DL.wA,dep,depA];exact hK _ ⟨c,a,hc,a1,a2,rfl⟩
   ·have hp:=hs p (by simp);unfold StOk at hp;have d0:depA []<=99:=by simp[depA]
    have e:(kL.concat p).map prD=kL.map prD++[prD p]:=by simp
    rw[e] at hK ⊢;have d1:=uk (kL.concat p);rw[e] at d1;simp[isMut,R.mut,BN,dep,d0];refine⟨by omega,qR hc (by omega) (by omega) λb c b1 b2 hc=>?_⟩;simp;by_cases b0:b=0
    ·simp[b0,isMut,R.mut,un1,negI,Gr,prD];refine qR hc (by omega) (by omega) λe c e1 e2 hc=>?_
     simp;exact hK _ ⟨c,_,hc,by omega,by omega,rfl⟩
    ·simp[b0];exact hK _ ⟨c,a,hc,a1,a2,rfl⟩
  rintro ae ⟨c,a,hc,a1,a2,rfl⟩;refine qX (λae=>∃c b,PotOk c/\a<=b/\b < n/\ae=[some (.bor c),some (.val (.int n)),some (.own (ss.map prD)),some (.val d),some (.val (.int a)),some (.val (.int b))]) (λK hK _=>?_) ?_
  ·simp[isMut,R.mut];refine qR hc (by omega) (by omega) λe c e1 e2 hc=>?_
   simp[isMut,R.mut];refine qR hc (by omega) (by omega) λb c b1 b2 hc=>?_
   have:b=0\/b=1\/b=2\/b=3\/b=4:=by omega
   rcases this with rfl | rfl | rfl | rfl | rfl<;>simp[vH,AY]<;>exact hK _ ⟨c,_,hc,by omega,by omega,rfl⟩
  rintro ae ⟨c,b,hc,b1,b2,rfl⟩;simp[isMut,R.mut];refine⟨by omega,c,hc,ss++[(a,b)],by simp[hi],λu v hx=>?_,rfl,by simp[prD]⟩
  rcases Mc.mp hx with z | z
  ·exact hs _ z
  ·rw[q_.mp z];exact⟨a1,b1,b2⟩
 ·rintro Z ⟨c,ss,x,y,z,hc,hi,hs,rfl⟩;have ln:(rngD 0 (1+m).toNat).length=(1+m).toNat:=by unfold rngD;simp
  rw[ln] at hi;refine hK _ ?_;simp;exact hE _ _ _ ⟨_,rfl⟩ (k ss c (by omega) (by omega) hs hc)
theorem Ga(cs N:List Int):(fewW cs N).length=(gapsL N).length:=by
 unfold fewW;rw[x_];exact(xP cs N).length_eq
theorem JK{n:Int}(h:∀p∈ss,StOk n p):Gd n (nums ss):=by
 refine⟨uq _,λx hx=>?_⟩;unfold nums at hx;rw[sC,List.mem_flatMap] at hx;obtain⟨p,hp,hx⟩:=hx;have:=h p hp;unfold StOk at this;have:=rL.mp hx;omega
theorem Jj{n:Int}(h:∀p∈ss,StOk n p)(h1:1<=ss.length):∃a l,nums ss=a::l:=by
 cases ss with
 | nil=>simp at h1
 | cons p ss =>
  have:p.1∈nums (p::ss):=by
   unfold nums;rw[sC,List.mem_flatMap];refine⟨p,by simp,rL.mpr ?_⟩;have:=h p (by simp);unfold StOk at this;omega
  cases e:nums (p::ss) with
  | nil=>rw[e] at this;cases this
  | cons a l=>exact⟨a,l,rfl⟩
theorem Dq{n:Int}(hn:n<=100){p:Int×Int}(h:StOk n p):SOk p:=by
 unfold StOk at h;exact⟨by omega,by omega,by omega,by omega⟩
theorem vi{n:Int}:∀{ss:List (Int×Int)}{a:Int},rowB n a ss=true↔RowUp n a ss
 | [],a=>by simp[rowB,RowUp]
 | p::ss,a=>by
  rw[rowB,RowUp];split
  ·rename_i h;rw[vi];exact⟨λq=>⟨h.1,h.2.1,h.2.2,q⟩,λq=>q.2.2.2⟩
  ·rename_i h;exact⟨λq=>(by cases q),λq=>absurd ⟨q.1,q.2.1,q.2.2.1⟩ h⟩
theorem RowUp.few{n:Int}:∀{ss:List (Int×Int)}{a:Int},RowUp n a ss->a < n->a+ss.length < n
 | [],a,_,h=>by simpa using h
 | p::ss,a,⟨h1,h2,h3,h4⟩,_=>by
  have:=RowUp.few h4 h3;rw[Md];omega
noncomputable def badB(n:Int)(p:Int×Int):Bool:=decide (p.1 < 0)||(decide (p.2 < p.1)||decide (n<=p.2))
noncomputable def touB(q:(Int×Int)×(Int×Int)):Bool:=decide (q.2.1<=q.1.2)
theorem vW{n:Int}:∀{ss:List (Int×Int)}{a:Int},-1<=a->(RowUp n a ss↔(∀p∈ss,badB n p=false)/\(∀q∈ss.zip (ss.drop 1),touB q=false)/\∀p r,ss=p::r->a < p.1)
 | [],a,_=>by simp[RowUp]
 | p::ss,a,ha=>by
  constructor
  ·rintro⟨h1,h2,h3,h4⟩;obtain⟨i1,i2,i3⟩:=(vW (a:=p.2) (by omega)).mp h4;refine⟨λx hx=>?_,λx hx=>?_,λp' r e=>by cases e;exact h1⟩
   ·rcases n_.mp hx with rfl | hx
    ·unfold badB;simp;omega
    ·exact i1 x hx
   ·cases ss with
    | nil=>simp at hx
    | cons q ss =>
     rw[RH,tail_cons,O0] at hx
     rcases n_.mp hx with rfl | hx
     ·have:=i3 q ss rfl;unfold touB;simp;omega
     ·exact i2 x (by simpa using hx)
  ·rintro⟨b1,b2,b3⟩;have hp:=b1 p g_;unfold badB at hp;simp at hp;refine⟨b3 p ss rfl,by omega,by omega,(vW (a:=p.2) (by omega)).mpr ⟨λx hx=>b1 x (j_ _ hx),λx hx=>b2 x ?_,λq r e=>?_⟩⟩
   ·cases ss with
    | nil=>simp at hx
    | cons q ss =>
     rw[RH,tail_cons] at hx ⊢;rw[O0];exact j_ _ hx
   ·subst e;have:=b2 (p,q) (by rw[RH,tail_cons,O0];exact g_);unfold touB at this;simpa using this
theorem FY{n:Int}:RowUp n (-1) ss↔ss.filter (badB n)=[]/\(ss.zip (ss.drop 1)).filter touB=[]:=by
 rw[vW (L9 _),Q_,Q_];constructor
 ·rintro⟨h1,h2,_⟩;exact⟨λp hp=>by rw[h1 p hp];decide,λq hq=>by rw[h2 q hq];decide⟩
 ·rintro⟨h1,h2⟩;refine⟨λp hp=>Ra.mpr (h1 p hp),λq hq=>Ra.mpr (h2 q hq),λp r e=>?_⟩;have:=h1 p (by rw[e];exact g_);unfold badB at this;simp at this;omega
noncomputable def gst(P:Int->Bool)(f:Int->Int)(st:List Int×Option Int)(x:Int):List Int×Option Int:=
 if P x=true then(match st.2 with
  | some w=>(st.1++[w],none)
  | none=>(st.1,none)) else(st.1,some (match st.2 with
  | none=>f x
  | some w=>w+f x))
theorem Bd{P:Int->Bool}{f:Int->Int}:∀(xs:List Int) (F:List Int) (w:Int),(∀x∈xs,P x=false)->xs.foldl (gst P f) (F,some w)=(F,some (w+(xs.map f).sum))
 | [],F,w,_=>by simp
 | x::xs,F,w,h=>by
  have e:gst P f (F,some w) x=(F,some (w+f x)):=by
   unfold gst;rw[if_neg (by rw[h x g_];decide)]
  rw[Nu,e,Bd xs F _ λy hy=>h y (j_ _ hy),K_,Pg,Int.add_assoc]
theorem Da{P:Int->Bool}{f:Int->Int}{x:Int}{xs:List Int}{F:List Int}(h:∀y∈x::xs,P y=false):(x::xs).foldl (gst P f) (F,none)=(F,some ((x::xs).map f).sum):=by
 have e:gst P f (F,none) x=(F,some (f x)):=by
  unfold gst;rw[if_neg (by rw[h x g_];decide)]
 rw[Nu,e,Bd xs F _ λy hy=>h y (j_ _ hy),K_,Pg]
theorem u0{P:Int->Bool}{f:Int->Int}{x:Int}{F:List Int}(h:P x=true):gst P f (F,none) x=(F,none):=by
 unfold gst;rw[if_pos h]
theorem BX{P:Int->Bool}{f:Int->Int}{x w:Int}{F:List Int}(h:P x=true):gst P f (F,some w) x=(F++[w],none):=by
 unfold gst;rw[if_pos h]
theorem F8{P:Int->Bool}{f:Int->Int}{x:Int}{F:List Int}(h:P x=false):gst P f (F,none) x=(F,some (f x)):=by
 unfold gst;rw[if_neg (by rw[h];decide)]
theorem Jr{P:Int->Bool}{f:Int->Int}{x w:Int}{F:List Int}(h:P x=false):gst P f (F,some w) x=(F,some (w+f x)):=by
 unfold gst;rw[if_neg (by rw[h];decide)]
theorem v5:∀{l:List Int}{a:Int},Up (a::l)->a<=(a::l).getLast (by simp)
 | l,a,u=>by
  have m:=List.getLast_mem (l:=a::l) (by simp)
  rcases n_.mp m with z | z
  ·rw[z];exact L9 _
  ·exact QZ ((I_.mp u).1 _ z)
theorem uI{a b:Int}(h:a<=b):span (a,b)=a::span (a+1,b):=by
 have:=uh (a:=a) (b:=a) (c:=b) (by omega) h;rw[um] at this;exact this
theorem BV{P:Int->Bool}{f:Int->Int}:∀{l:List Int}{a:Int} (F:List Int),Up (a::l)->(∀x,a<=x->P x=decide (x∈a::l)) →
  (span (a,(a::l).getLast (by simp))).foldl (gst P f) (F,none)=(F++(gapsL (a::l)).map (λg=>((span g).map f).sum),none)
 | [],a,F,u,h=>by
  have ha:P a=true:=by rw[h a (L9 _)];simp
  rw[List.getLast_singleton,um,Nu,u0 ha];simp[gapsL]
 | b::l,a,F,u,h=>by
  have uc:=I_.mp u;have qq:a < b:=uc.1 b g_;have nC:b<=(b::l).getLast (by simp):=v5 uc.2;have ha:P a=true:=by rw[h a (L9 _)];simp
  have hb:P b=true:=by rw[h b (by omega)];simp
  have h':∀x,b<=x->P x=decide (x∈b::l):=λx hx=>by
   rw[h x (by omega)];have ne:x≠a:=by omega
   simp[ne]
  have ih:∀G,(span (b,(b::l).getLast (by simp))).foldl (gst P f) (G,none)=(G++(gapsL (b::l)).map (λg=>((span g).map f).sum),none):=λG=>BV G uc.2 h'
  rw[Qe (by simp),se];generalize (b::l).getLast (by simp)=L at *;rw[uI (by omega),Nu,u0 ha];by_cases g:a+1 < b
  ·rw[if_pos g,uh (a:=a+1) (b:=b - 1) (c:=L) (by omega) (by omega),PB,Sk]
   have ak:∀y∈span (a+1,b - 1),P y=false:=λy hy=>by
    have hy:=rL.mp hy;rw[h y (by dsimp only at hy;omega)];refine decide_eq_false λz=>?_
    rcases n_.mp z with z | z
    ·dsimp only at hy;omega
    rcases n_.mp z with z | z
    ·dsimp only at hy;omega
    ·have:=(I_.mp uc.2).1 y z;dsimp only at hy;omega
   have e1:=Da (P:=P) (f:=f) (F:=F) (x:=a+1) (xs:=span (a+1+1,b - 1)) (by rw[←uI (by omega)];exact ak);rw[←uI (by omega)] at e1;rw[e1,K_];have e2:=ih (F++[((span (a+1,b - 1)).map f).sum]);rw[uI nC,Nu,u0 hb] at e2;rw[uI nC,Nu,BX hb,e2];simp
  ·rw[if_neg g];have e:a+1=b:=by omega
   rw[e];exact ih F
theorem AE{m:Int}:∀(xs:List Int) (x:Int),(m=x\/m∈xs)->(∀y∈x::xs,m<=y)->xs.foldl mi x=m
 | [],x,h,_=>by
  rcases h with h | h
  ·exact h.symm
  ·cases h
 | y::xs,x,h,hm=>by
  rw[Nu];have h1:=hm x g_;have h2:=hm y (by simp);refine AE xs _ ?_ λz hz=>?_
  ·unfold mi
   rcases h with h | h
   ·rw[if_neg (by omega)];exact .inl h
   ·rcases n_.mp h with h | h
    ·subst h;by_cases q:m < x
     ·rw[if_pos q];exact .inl rfl
     ·rw[if_neg q];exact .inl (by omega)
    ·exact .inr h
  ·rcases n_.mp hz with z' | z'
   ·subst z';unfold mi;split<;>omega
   ·exact hm z (by simp[z'])
theorem ze{m:Int}:∀(xs:List Int) (x:Int),(m=x\/m∈xs)->(∀y∈x::xs,y<=m)->xs.foldl mx x=m
 | [],x,h,_=>by
  rcases h with h | h
  ·exact h.symm
  ·cases h
 | y::xs,x,h,hm=>by
  rw[Nu];have h1:=hm x g_;have h2:=hm y (by simp);refine ze xs _ ?_ λz hz=>?_
  ·unfold mx
   rcases h with h | h
   ·rw[if_neg (by omega)];exact .inl h
   ·rcases n_.mp h with h | h
    ·subst h;by_cases q:x < m
     ·rw[if_pos q];exact .inl rfl
     ·rw[if_neg q];exact .inl (by omega)
    ·exact .inr h
  ·rcases n_.mp hz with z' | z'
   ·subst z';unfold mx;split<;>omega
   ·exact hm z (by simp[z'])
theorem GN{m:Int}(h1:m∈ns)(h2:∀x∈ns,m<=x):minI ns=m:=by
 cases ns with
 | nil=>cases h1
 | cons x xs=>exact AE xs x (n_.mp h1) h2
theorem GO{m:Int}(h1:m∈ns)(h2:∀x∈ns,x<=m):maxI 0 ns=m:=by
 cases ns with
 | nil=>cases h1
 | cons x xs=>exact ze xs x (n_.mp h1) h2
theorem yO:∀{l:List Int}{a x:Int},Up (a::l)->x∈a::l->x<=(a::l).getLast (by simp)
 | [],a,x,_,h=>by
  rw[q_.mp h];exact L9 _
 | b::l,a,x,u,h=>by
  have uc:=I_.mp u;rw[Qe (by simp)]
  rcases n_.mp h with z | z
  ·have:=v5 uc.2;have:=uc.1 b g_;omega
  ·exact yO uc.2 z
section
variable{QD:D->Gm->Prop}{QL:List D->Gm->Prop}
@[simp ↓] theorem Lb{g:M (List (Int×D))}:wp (frzK g) Z QD↔wp g Z λaj ae=>QD (.dct (aj.map (·.1))) ae:=by simp only[frzK,qY,sL]
@[simp ↓] theorem Lv{g:M D}:wp (itDc g) Z QL↔wp g Z λd ae=>wp (lft (dctI d)) ae QL:=by simp only[itDc,qY]
end
@[simp] theorem Lp{k:Int}:inDF neg (.int k) (.dct ns)=some (.bl (if neg then !decide (k∈ns) else decide (k∈ns))):=rfl
@[simp] theorem Kr:dctI (.dct ns)=some (ns.map D.int):=rfl
theorem II(h:0 < ns.length):minKF [.dct ns]=some (.int (minI ns)):=if_pos h
theorem JV(h:0 < ns.length):maxKF [.dct ns]=some (.int (maxI 0 ns)):=if_pos h
noncomputable def wO:Option Int->D
 | none=>.non
 | some w=>.int w
theorem Af{N:List Int}(hN:nums ss=N)(x:Int):x∈hadL (ss.flatMap span)↔x∈N:=by
 rw[←hN];unfold nums;simp only[(vj (ss.flatMap span)).2.2.1 x,sC]
theorem JO{a:Int}(hb:∀p∈ss,SOk p)(hl:ss.length<=100)(hN:nums ss=a::l)(gd:Gd cs.length (a::l))(hn:cs.length<=100):
  cvF vF [.lst (ss.map prD),.lst (cs.map D.int)]=some (.lst (((gapsL (a::l)).map (wt cs)).map D.int)):=by
 have t1:=wC hb hl;have mem:=λx=>Af hN x
 obtain⟨T,eT⟩:∃T,T=hadL (ss.flatMap span):=⟨_,rfl⟩;rw[←eT] at t1 mem;have a1:=gd.2 a g_;obtain⟨L,eL⟩:∃L,L=(a::l).getLast (by simp):=⟨_,rfl⟩;have Lm:L∈a::l:=by rw[eL];exact List.getLast_mem _
 have aL:a<=L:=by rw[eL];exact v5 gd.1
 have L1:=gd.2 L Lm
 have lo:minI T=a:=GN ((mem a).mpr g_) λx hx=>by
  rcases n_.mp ((mem x).mp hx) with z | z
  ·omega
  ·exact QZ ((I_.mp gd.1).1 x z)
 have hi:maxI 0 T=L:=GO ((mem L).mpr Lm) λx hx=>by
  have hx:=(mem x).mp hx;rw[eL];exact yO gd.1 hx
 have tl:0 < T.length:=by
  cases T with
  | nil=>have:=(mem a).mpr g_;cases this
  | cons _ _=>simp
 have all:=BV (P:=λx=>decide (x∈T)) (f:=cAt cs) [] gd.1 λx hx=>by simp only[mem x]
 rw[←eL,QY] at all
 have ws:(gapsL (a::l)).map (λg=>((span g).map (cAt cs)).sum)=(gapsL (a::l)).map (wt cs):=by
  refine Ps λg hg=>?_
  have ga:=wU gd.1 g hg;have gb:=xf (n:=cs.length) (λx hx=>(gd.2 x hx).2) g hg;exact Ic (by omega) ga.2.1 gb
 rw[ws] at all;have mk:=II tl;have nD:=JV tl;rw[lo] at mk;rw[hi] at nD;clear lo hi ws eL mem;generalize (gapsL (a::l)).map (wt cs)=W at *;refine sM ?_;refine sN rfl λKE hE _=>?_
 rw[xc];refine qz λK hK _=>?_
 simp;rw[qL t1];rw[xp];refine⟨by simp,hK _ ?_⟩;refine qz λK hK _=>?_
 simp;refine hK _ ?_;refine qz λK hK _=>?_
 simp;refine hK _ ?_;refine qz λK hK hR=>?_
 simp;rw[qL mk];simp;rw[qL nD];simp;have sr:=ud (a,L);dsimp only at sr;rw[sr]
 have sl:∀x∈span (a,L),0<=x/\x < (cs.length:Int):=λx hx=>by
  have:=rL.mp hx;dsimp only at this;omega
 refine⟨by omega,?_⟩;refine rQ (J:=λi Z=>∃F w x,((span (a,L)).take i).foldl (gst (λx=>decide (x∈T)) (cAt cs)) ([],none)=(F,w)/\F.length<=i/\Z=[some (.val (.lst (ss.map prD))),some (.val (.lst (cs.map D.int))),some (.val (.dct T)),some (.own (F.map D.int)),some (.val (wO w)),x]) ⟨[],none,none,rfl,A_ _,rfl⟩ ?_ ?_
 ·rintro i d Z hd ⟨F,w,x,e,fl,rfl⟩;rw[E_,Nz] at hd;obtain⟨n,e1,rfl⟩:=hd;have nb:=sl n (Mf e1)
  have il:i < 1000:=by
   have h1:=(D_.mp e1).1;unfold span at h1;simp at h1;omega
  have tk:((span (a,L)).take (i+1)).foldl (gst (λx=>decide (x∈T)) (cAt cs)) ([],none)=gst (λx=>decide (x∈T)) (cAt cs) (F,w) n:=by
   rw[NG,e1,Option.toList_some,PB,e];rfl
  rw[tk];have fV:=at_c nb.1 nb.2;refine⟨(),_,rfl,?_⟩;show wp _ [some (.val (.lst (ss.map prD))),some (.val (.lst (cs.map D.int))),some (.val (.dct T)),some (.own (F.map D.int)),some (.val (wO w)),some (.val (.int n))] _;by_cases hn:n∈T
  ·cases w with
   | none =>
    simp[hn,wO,isNF,isN];exact⟨F,none,u0 (by simpa using hn),by omega,rfl,rfl⟩
   | some v =>
    simp[hn,wO,isNF,isN,isMut,R.mut];refine qz λK1 cM _=>?_
    simp[isMut,R.mut];refine⟨by omega,cM _ ?_⟩;simp;exact⟨F++[v],none,BX (by simpa using hn),by rw[LY];exact Nat.succ_le_succ fl,by simp,rfl⟩
  ·cases w with
   | none =>
    simp[hn,wO,isNF,isN,fV];exact⟨F,some (cAt cs n),F8 (by simpa using hn),by omega,rfl,rfl⟩
   | some v =>
    simp[hn,wO,isNF,isN,fV];exact⟨F,some (v+cAt cs n),Jr (by simpa using hn),by omega,rfl,rfl⟩
 ·rintro Z ⟨F,w,x,e,fl,rfl⟩;rw[x_,OE,all] at e;cases e;refine hK _ ?_;simp;exact hE _ _ ⟨_,rfl,rfl⟩
noncomputable def thD(w:Int)(row:List (Int×Int))(m:Int):D:=.tup [.int w,.lst (row.map prD),.int m]
noncomputable def fewB(cs N:List Int)(row:List (Int×Int))(many w m:Int):Bool:=
 decide ((row.length:Int)<=many)&&(rowB cs.length (-1) row&&(N.all (inN (row.flatMap span))&&(decide (w=sumN (inN N) (cAt cs) (row.flatMap span))&&markB cs (gapsL N) many w m)))
structure Row(cs:List Int)(row:List (Int×Int)):Prop where
 ok:∀p∈row,SOk p
 few:row.length<=100
 mem:∀x∈row.flatMap span,0<=x/\x < (cs.length:Int)
 len:(row.flatMap span).length<=100
 nums:nums row=row.flatMap span
 nd:(row.flatMap span).Nodup
theorem vJ{row:List (Int×Int)}(hn:cs.length<=100)(h0:1<=cs.length)(ru:RowUp cs.length (-1) row):Row cs row:=by
 have hu:=ru.up;have hm:∀x∈row.flatMap span,0<=x/\x < (cs.length:Int):=λx hx=>by have:=hu.2 x hx;omega
 refine⟨Bt (n:=cs.length) (by omega) (L9 _) ru,?_,hm,?_,HE ru,hu.1.imp λh e=>by rw[e] at h;omega⟩
 ·have:=ru.few (by omega);omega
 ·have:=yb (n:=cs.length) (a:=0) hu.1 hm;omega
theorem zK(N H:List Int):(N.any λx=>!inN H x)=!N.all (inN H):=by
 induction N with
 | nil=>rfl
 | cons x N ih=>rw[O3,Sv,ih,Bool.not_and]
theorem F2{row:List (Int×Int)}{a:Int}{w m:Int}(hb:∀p∈ss,SOk p)(hl:ss.length<=100)(hN:nums ss=a::l)(gd:Gd cs.length (a::l))(hn:cs.length<=100)(m0:0<=many)(m1:many<=1000)(rl:row.length<=1000):
  cvF vh [.lst (ss.map prD),.int many,.lst (cs.map D.int),thD w row m]=some (.bl (fewB cs (a::l) row many w m)):=by
 have gl:=wI gd (by omega);have h0:1<=cs.length:=by have:=gd.2 a g_;omega
 have n1:=xM hb hl (by rw[hN];omega);rw[hN] at n1;have rB:=JP cs.length row rl;have g1:=A7 (l:=a::l) (by omega);have gf:=uS gd (by omega);have mk:=λw'=>He cs (gapsL (a::l)) many w' m (by omega) m0 m1
 unfold thD fewB;clear hN;generalize gapsL (a::l)=G at *;generalize a::l=N at *;refine sM ?_;refine sN rfl λKE hE _=>?_
 rw[yj];refine qz λK hK _=>⟨_,_,rfl,hK _ ?_⟩
 by_cases c1:(row.length:Int)<=many
 case neg =>
  refine qz λK hK hR=>?_
  simp[c1] at hE ⊢;rw[if_pos (by omega)];exact hR _ _ (hE _ _ _ rfl rfl)
 by_cases c2:rowB cs.length (-1) row=true
 case neg =>
  rw[QI] at c2;rw[c2] at rB hE;refine qz λK hK hR=>?_
  simp[c1] at hE ⊢;rw[if_neg (by omega)];rw[qL rB];simp;exact hR _ _ (hE _ _ _ rfl rfl)
 have ru:=vi.mp c2;have R1:=vJ hn h0 ru;have n2:=xM R1.ok R1.few (by rw[R1.nums];have:=R1.len;omega);rw[R1.nums] at n2;rw[c2] at rB hE;have hm:=R1.mem;have aM:=R1.len;clear R1 ru c2;generalize row.flatMap span=H at *;refine qz λK hK _=>?_
 simp[c1];rw[if_neg (by omega)];rw[qL rB];simp;refine hK _ ?_;refine qz λK hK _=>wN rfl n1 (show 5 < 8 by decide) (hK _ ?_)
 refine qz λK hK _=>wN rfl n2 (show 6 < 8 by decide) (hK _ ?_)
 dsimp only[List.set];have fo:N.filter (λ_=>true)=N:=NX.mpr (by simp);by_cases c3:N.all (inN H)=true
 case neg =>
  rw[QI] at c3;rw[c3] at hE;refine qz λK hK hR=>?_
  simp;refine rS N D.int (λ_=>true) (λx=>.bl (!inN H x)) ?_;simp[xR];rw[fo,qL Ar,zK,c3];simp at hE ⊢;exact⟨by omega,hR _ _ (hE _ _ _ rfl rfl)⟩
 rw[c3] at hE;refine qz λK hK _=>?_
 simp;refine rS N D.int (λ_=>true) (λx=>.bl (!inN H x)) ?_;simp[xR];rw[fo,qL Ar,zK,c3];simp;refine⟨by omega,hK _ ?_⟩;refine qz λK hK _=>?_
 simp;refine rS H D.int (λx=>!inN N x) (λx=>.int (cAt cs x)) ?_;simp[xR];refine⟨by omega,λx hx=>?_,?_⟩
 ·intro _;rw[qL (at_c (hm x hx).1 (hm x hx).2)];exact⟨rfl,_,rfl⟩
 have e7:(H.filter λx=>!inN N x).map (λx=>D.int (cAt cs x))=((H.filter λx=>!inN N x).map (cAt cs)).map D.int:=by rw[NH];rfl
 rw[e7,qL (tZ _)];have e8:((H.filter λx=>!inN N x).map (cAt cs)).sum=sumN (inN N) (cAt cs) H:=rfl;rw[e8];refine⟨by simp,hK _ ?_⟩;clear hK e7 e8;generalize sumN (inN N) (cAt cs) H=w' at *;have mk:=mk w';by_cases c4:w=w'
 ·subst c4;simp[deq,dep];rw[qL g1];simp;rw[qL mk];exact hE _ _ ⟨_,rfl,by simp[c1]⟩
 ·simp[deq,dep,c4];exact hE _ _ ⟨_,rfl,by simp[c4]⟩
theorem cut1P(l:List (Int×Int)):cutD (l.map prD) (some 1) none=(l.drop 1).map prD:=by
 unfold cutD;rw[x_,Pf];cases l with
 | nil=>simp[HT.sIx]
 | cons a l =>
  simp[HT.sIx];exact L6 (by simp)
theorem Ff(l m:List (Int×Int)):pairsD (l.map prD) (m.map prD)=(l.zip m).map λp=>D.tup [prD p.1,prD p.2]:=by
 unfold pairsD;rw[List.zip_map,NH];rfl
theorem Ei(ds:List D):deq (.lst ds) (.lst [])=ds.isEmpty:=by
 cases ds<;>simp[deq,deqA]
theorem FW{α:Type}(l:List α):depA (l.map λ_=>D.int 1)=0:=by
 induction l with
 | nil=>rfl
 | cons x l ih=>rw[K_,depA,ih];rfl
theorem GA{row:List (Int×Int)}{a:Int}{w m:Int}(hb:∀p∈ss,SOk p)(hl:ss.length<=100)(hN:nums ss=a::l)(gd:Gd cs.length (a::l))(hn:cs.length<=100)(m0:0<=many)(m1:many<=1000)(rl:row.length<=1000):
  cvF uU [.dct (hadL (ss.flatMap span)),.lst (((gapsL (a::l)).map (wt cs)).map D.int),.int many,.lst (cs.map D.int),thD w row m]=some (.bl (fewB cs (a::l) row many w m)):=by
 have mem:=λx=>Af hN x
 have gf:=uS gd (by omega);have gl:=wI gd (by omega);have h0:1<=cs.length:=by have:=gd.2 a g_;omega
 unfold thD fewB markB;have e9:(gapsL (a::l)).map (λp=>mn (wt cs p) m)=((gapsL (a::l)).map (wt cs)).map λx=>mn x m:=by rw[NH];rfl
 rw[e9];have wl:((gapsL (a::l)).map (wt cs)).length < 64:=by rw[x_];exact gf
 have tl:(hadL (ss.flatMap span)).length<=1000000:=by
  have h1:=(vj (ss.flatMap span)).2.1;have h2:=ul hb;omega
 clear e9 gf hN hb;generalize (gapsL (a::l)).map (wt cs)=W at *;generalize hadL (ss.flatMap span)=T at *;generalize a::l=N at *;refine sM ?_;refine sN rfl λKE hE _=>?_
 rw[wG];refine qz λK hK _=>⟨_,_,rfl,hK _ ?_⟩
 show wp _ [some (.val (.dct T)),some (.val (.lst (W.map D.int))),some (.val (.int many)),some (.val (.lst (cs.map D.int))),some (.val (.tup [.int w,.lst (row.map prD),.int m])),some (.val (.int w)),some (.val (.lst (row.map prD))),some (.val (.int m)),none] _;by_cases c0:m < 0
 case pos =>
  refine qz λK hK hR=>?_
  have kO:¬0<=m:=by omega
  simp[c0,kO] at hE ⊢;exact hR _ _ (hE _ _ _ rfl rfl)
 by_cases c1:(row.length:Int)<=many
 case neg =>
  refine qz λK hK hR=>?_
  simp[c0,c1] at hE ⊢;rw[if_pos (by omega)];exact hR _ _ (hE _ _ _ rfl rfl)
 refine qz λK hK hR=>?_
 simp[c0];rw[if_neg (by omega)];refine hK _ ?_;clear hK hR;have t2:=FY (n:=cs.length) (ss:=row);rw[←vi] at t2
 have p1:∀a b:Int,(a,b)∈row->if a < 0 then a < 0\/b < a\/(cs.length:Int)<=b else if b < a then a < 0\/b < a\/(cs.length:Int)<=b else decide ((cs.length:Int)<=b)=(decide (a < 0)||(decide (b < a)||decide ((cs.length:Int)<=b))):=λa b _=>by
  by_cases h1:a < 0
  ·simp[h1]
  ·by_cases h2:b < a
   ·simp[h1,h2]
   ·simp[h1,h2]
 have d1:∀{α:Type} (l:List α),dep (D.lst (l.map λ_=>D.int 1))<=100:=λl=>by rw[dep,FW];omega
 by_cases c2:row.filter (badB cs.length)=[]
 case neg =>
  have kP:rowB cs.length (-1) row=false:=Ra.mpr λz=>c2 (t2.mp z).1
  rw[kP] at hE;refine qz λK hK hR=>?_
  simp;refine uF row prD (badB cs.length) (λ_=>.int 1) ?_;simp[prD,badB];refine⟨by omega,p1,d1 _,?_⟩;rw[if_neg (by rw[P0];exact c2)];simp at hE;exact hR _ _ (hE _ _ _ rfl rfl)
 refine qz λK hK hR=>?_
 simp;refine uF row prD (badB cs.length) (λ_=>.int 1) ?_;simp[prD,badB];refine⟨by omega,p1,d1 _,?_⟩;rw[if_pos (by rw[P0];exact c2)];refine hK _ ?_;clear hK hR p1;obtain⟨dQ,jh⟩:∃dQ,dQ=[some (R.val (.dct T)),some (.val (.lst (W.map D.int))),some (.val (.int many)),some (.val (.lst (cs.map D.int))),some (.val (.tup [.int w,.lst (row.map prD),.int m])),some (.val (.int w)),some (.val (.lst (row.map prD))),some (.val (.int m)),none]:=⟨_,rfl⟩;have zl:(row.zip (row.drop 1)).length<=1000000:=by rw[Tl];omega
 have it:wp (fn1 zipI (consA (nm 6) (consA (sl3 slF (nm 6) (prt (ret (D.int 1))) (ret none)) nilA))) dQ λds ae=>ds=(row.zip (row.drop 1)).map (λp=>D.tup [prD p.1,prD p.2])/\ae=dQ:=by
  rw[jh];simp;rw[cut1P,Ff,RH]
 have el:∀x∈row.zip (row.drop 1),∀(a b:Option R),wp (tgTup 2 (tgCons (tgN 0) (tgCons (tgN 1) tgNil)) (D.tup [prD x.1,prD x.2])) (a::b::dQ) λ_ ao=>wp (tst (op2 geI (op2 ixF (nm 0) (ret (D.int 1))) (op2 ixF (nm 1) (ret (D.int 0))))) ao λb aO=>b=touB x/\(if b=true then wp (ret (D.int 1)) aO λy a9=>y=D.int 1/\∃a' b',a9=a'::b'::dQ else ∃a' b',aO=a'::b'::dQ):=λx _ a b=>by
  obtain⟨⟨a1,a2⟩,⟨b1,b2⟩⟩:=x;simp[prD,touB]
 rw[←jh];by_cases c3:(row.zip (row.drop 1)).filter touB=[]
 case neg =>
  have kP:rowB cs.length (-1) row=false:=Ra.mpr λz=>c3 (t2.mp z).2
  rw[kP] at hE;refine qz λK hK hR=>?_
  simp;refine uF (row.zip (row.drop 1)) (λp=>D.tup [prD p.1,prD p.2]) touB (λ_=>.int 1) (it.mono ?_);rintro ds ae ⟨rfl,rfl⟩;refine⟨rfl,zl,el,d1 _,?_⟩;rw[if_neg (by rw[P0];exact c3)];subst jh;simp at hE;exact hR _ _ (hE _ _ _ rfl rfl)
 refine qz λK hK hR=>?_
 simp;refine uF (row.zip (row.drop 1)) (λp=>D.tup [prD p.1,prD p.2]) touB (λ_=>.int 1) (it.mono ?_);rintro ds ae ⟨rfl,rfl⟩;refine⟨rfl,zl,el,d1 _,?_⟩;rw[if_pos (by rw[P0];exact c3)];refine hK _ ?_;clear hK hR it el zl;subst jh;have ru:=t2.mpr ⟨c2,c3⟩;rw[ru] at hE;have R1:=vJ hn h0 (vi.mp ru);have t3:=wC R1.ok R1.few;rw[(vj (row.flatMap span)).2.2.2 R1.nd] at t3;have hm:=R1.mem;have aM:=R1.len;clear R1 ru t2 c2 c3;generalize row.flatMap span=H at *;refine qz λK hK _=>?_
 simp;rw[qL t3,xp];refine⟨by simp,hK _ ?_⟩;clear hK t3
 have key:(∀x,x∈T->x∈H)↔N.all (inN H)=true:=by
  rw[Na];constructor
  ·intro h x hx;have:=h x ((mem x).mpr hx);simpa[inN] using this
  ·intro h x hx;have:=h x ((mem x).mp hx);simpa[inN] using this
 refine qz λK hK hR=>?_
 simp;refine rS T D.int (λx=>!inN H x) (λ_=>.int 1) ?_;simp[inN];refine⟨tl,d1 _,?_⟩;by_cases c4:N.all (inN H)=true
 case neg =>
  rw[if_neg λz=>c4 (key.mp z)];rw[QI] at c4;rw[c4] at hE;simp at hE;exact hR _ _ (hE _ _ _ rfl rfl)
 rw[if_pos (key.mpr c4)];rw[c4] at hE;refine hK _ ?_;clear hK hR key;have e5:∀x,(!decide (x∈T))=!inN N x:=λx=>by unfold inN;simp only[mem x]
 have e7:(H.filter λx=>!inN N x).map (λx=>D.int (cAt cs x))=((H.filter λx=>!inN N x).map (cAt cs)).map D.int:=by rw[NH];rfl
 have e8:((H.filter λx=>!inN N x).map (cAt cs)).sum=sumN (inN N) (cAt cs) H:=rfl;refine qz λK hK hR=>?_
 simp;refine rS H D.int (λx=>!inN N x) (λx=>.int (cAt cs x)) ?_;simp[e5];refine⟨by omega,λx hx=>?_,?_⟩
 ·intro _;rw[qL (at_c (hm x hx).1 (hm x hx).2)];exact⟨rfl,_,rfl⟩
 rw[e7,qL (tZ _),e8];clear e7 e8;generalize sumN (inN N) (cAt cs) H=w' at *;by_cases c5:w=w'
 case neg =>
  simp[c5,deq,dep] at hE ⊢;exact hR _ _ (hE _ _ _ rfl rfl)
 subst c5;simp[deq,dep];refine hK _ ?_;clear hK hR
 have e9:(filter (λ_=>true) W).map (λx=>D.int (mn x m))=(W.map λx=>mn x m).map D.int:=by
  rw[NX.mpr (by simp),NH];rfl
 simp;refine rS W D.int (λ_=>true) (λx=>.int (mn x m)) ?_;simp;refine⟨by omega,λx _=>?_,?_⟩
 ·unfold mn;rw[Int.min_def];split<;>split<;>omega
 rw[e9,qL (tZ _)];simp[dep];refine⟨.inl ⟨by omega,by omega⟩,hE _ _ ⟨_,rfl,?_⟩⟩;have kO:0<=m:=by omega
 simp[c1,kO];exact Bool.eq_iff_iff.mpr (by simp)
section
open PySem PySem.Spec
mutual
noncomputable def lbD:D->Nat
 | .tup xs=>3+lbA xs
 | .lst xs=>3+lbA xs
 | .int _=>92
 | .str x=>(Nl (.str x)).length
 | .non=>5
 | .bl _=>5
 | .dct _=>0
noncomputable def lbA:List D->Nat
 | []=>0
 | x::xs=>lbD x+2+lbA xs
end
mutual
def smD:D->Prop
 | .tup xs=>smA xs
 | .lst xs=>smA xs
 | .int i=>i.natAbs < 10 ^ 90
 | .str _=>True
 | .non=>True
 | .bl _=>True
 | .dct _=>False
def smA:List D->Prop
 | []=>True
 | x::xs=>smD x/\smA xs
end
theorem FO(ts:List PySem.Str):(PySem.tupleText ts).length<=3+TF ts:=by
 have h:(join ", " ts).length<=TF ts:=by
  cases ts with
  | nil=>exact Me _
  | cons t ts =>
   have:=PySem.join_length_add (t::ts) (by simp);omega
 unfold PySem.tupleText;rw[R7,R7];have e1:((("(":String):PySem.Str)).length=1:=rfl;have e3:(((if ts.length == 1 then ",)" else ")":String):PySem.Str)).length<=2:=by split<;>decide
 omega
theorem AI:∀ts:List PySem.Str,(ts.map (·.length)).sum+2*ts.length<=TF ts
 | []=>by simp[TF]
 | t::ts=>by
  have:=AI ts;rw[PySem.piled_cons,K_,Pg,Md];omega
theorem HF(ts:List PySem.Str):(PySem.listText ts).length<=3+TF ts:=by
 have:=AI ts;unfold PySem.listText;rw[R7];have q:=PySem.textFrom_len_le ts 0 (PySem.Str.ofString "[");have e1:((PySem.Str.ofString "[")).length=1:=rfl;have e3:((PySem.Str.ofString "]")).length=1:=rfl;omega
mutual
theorem AK:∀d:D,smD d->(pd d).showable=true/\(pd d).depth<=dep d/\(pd d).shown.length<=lbD d
 | .tup xs,h=>by
  rw[smD] at h;obtain⟨a1,a2,a3⟩:=wZ xs h;refine⟨by rw[pd,Qz];exact a1,by rw[pd,depth,dep];omega,?_⟩;rw[pd,Nl,lbD];exact MY (FO _) (by omega)
 | .lst xs,h=>by
  rw[smD] at h;obtain⟨a1,a2,a3⟩:=wZ xs h;refine⟨by rw[pd,Qz];exact a1,by rw[pd,depth,dep];omega,?_⟩;rw[pd,Nl,lbD];exact MY (HF _) (by omega)
 | .int i,h=>by
  rw[smD] at h;refine⟨?_,by rw[pd,depth];exact Me _,?_⟩
  ·rw[pd,Qz,decide_eq_true_eq];by_cases z:i.natAbs=0
   ·rw[z];decide
   ·rw[Nat.log2_lt z];exact Rt h (by decide +kernel)
  ·rw[pd,Nl,lbD];have:=PySem.int_text_length_le10 (k:=90) (by omega) h;rw[PySem.ofString_length];omega
 | .str x,h=>⟨by rw[pd,Qz],by rw[pd,depth];exact Me _,by rw[pd,lbD];exact A_ _⟩
 | .non,h=>⟨by rw[pd,Qz],by rw[pd,depth];exact Me _,by rw[pd,Nl,lbD];decide⟩
 | .bl b,h=>⟨by rw[pd,Qz],by rw[pd,depth];exact Me _,by cases b<;>(rw[pd,Nl,lbD];decide)⟩
 | .dct _,h=>by rw[smD] at h;exact h.elim
theorem wZ:∀ds:List D,smA ds->S4 (pdA ds)=true/\depthAll (pdA ds)<=depA ds/\TF (shownAll (pdA ds))<=lbA ds
 | [],h=>⟨by rw[pdA,S4],by rw[pdA,depthAll];exact Me _,by rw[pdA,shownAll];simp[TF]⟩
 | d::ds,h=>by
  rw[smA] at h;obtain⟨a1,a2,a3⟩:=wZ ds h.2;obtain⟨b1,b2,b3⟩:=AK d h.1;refine⟨by rw[pdA,S4,b1,a1];rfl,by rw[pdA,depthAll,depA];omega,?_⟩;rw[pdA,shownAll,PySem.piled_cons,lbA];omega
end
theorem Bo(h:smD d)(h1:dep d<=50)(h2:lbD d<=16000000):reprG [d]=some (.str (pd d).shown):=by
 obtain⟨a1,a2,a3⟩:=AK d h;unfold reprG;simp only;rw[if_pos ⟨by omega,a1,by omega,by rw[PySem.sizeLine_eq];omega⟩]
end
theorem Fe{i:Nat}{g:List R->Option (R×List R)}{t:M (List D)}{h:M Fl}{QS:Fl->Gm->Prop}(hj:Z[j]?=some (some (.bor c)))(ht:t Z=some (ds,Z))(hi:Nat.blt i Z.length=true)(k:wpB g c ds λr c'=>∃d,r=.val d/\wp h ((Z.set j (some (.bor c'))).set i (some (.val d))) QS):wp (seqS (setV i (cbV j g t)) h) Z QS:=by
 obtain⟨r,c',e1,d,rfl,k⟩:=k;have b9:i < Z.length:=by rw[←Nat.ble_eq_true_of_le (A_ 0)] at hi;exact Rl hi
 refine qz λK hK _=>⟨.nx,_,?_,hK _ k⟩
 have e2:callB j g t Z=some (.val d,Z.set j (some (.bor c'))):=by
  unfold callB mutS;have:isMut Z j=true:=by unfold isMut;rw[hj];rfl
  rw[this];simp only[bnd,ht,hj,e1,if_true]
 simp[setV,cbV,bnd,lft,asV,e2,putS,ret,b9]
theorem uH{i:Nat}{k x:Int}{A h:M Fl}{QS:Fl->Gm->Prop}(fx:Z[i]?=some (some (.val (.int x))))(ne:¬x=k)(hh:wp h Z QS):wp (seqS (ifS (tst (op2 (eqF false) (nm i) (ret (.int k)))) A (ret .nx)) h) Z QS:=by
 refine qz λK hK _=>?_
 simp[fx,ne,dep];exact hK _ hh
theorem uA{i:Nat}{k x:Int}{A h:M Fl}{QS:Fl->Gm->Prop}(fx:Z[i]?=some (some (.val (.int x))))(e:x=k)(hh:∀K:Fl->Gm->Prop,(∀r ae,QS (.rt r) ae->K (.rt r) ae)->wp A Z K):wp (seqS (ifS (tst (op2 (eqF false) (nm i) (ret (.int k)))) A (ret .nx)) h) Z QS:=by
 refine qz λK hK hR=>?_
 simp[fx,e,dep];exact hh K hR
theorem Iy{i:Nat}{k x:Int}{A h:M Fl}{QS:Fl->Gm->Prop}(fx:Z[i]?=some (some (.val (.int x))))(ne:¬x < k)(hh:wp h Z QS):wp (seqS (ifS (tst (op2 ltI (nm i) (ret (.int k)))) A (ret .nx)) h) Z QS:=by
 refine qz λK hK _=>?_
 simp[fx,ne];exact hK _ hh
theorem EV{i:Nat}{k x:Int}{A h:M Fl}{QS:Fl->Gm->Prop}(fx:Z[i]?=some (some (.val (.int x))))(e:x < k)(hh:∀K:Fl->Gm->Prop,(∀r ae,QS (.rt r) ae->K (.rt r) ae)->wp A Z K):wp (seqS (ifS (tst (op2 ltI (nm i) (ret (.int k)))) A (ret .nx)) h) Z QS:=by
 refine qz λK hK hR=>?_
 simp[fx,e];exact hh K hR
theorem Di{c:M Bool}{A B h:M Fl}{QS:Fl->Gm->Prop}(e:c Z=some (true,Z))(hh:∀K:Fl->Gm->Prop,(∀r ae,QS (.rt r) ae->K (.rt r) ae)->wp A Z K):wp (seqS (ifS c A B) h) Z QS:=by
 refine qz λK hK hR=>?_
 obtain⟨a,ah,e1,k⟩:=hh K hR;exact⟨a,ah,by simp[ifS,bnd,e,e1],k⟩
theorem sR{i:Nat}{g:M D}{h:M Fl}{QS:Fl->Gm->Prop}(e:g Z=some (d,Z))(hi:Nat.blt i Z.length=true)(hh:wp h (Z.set i (some (.val d))) QS):wp (seqS (setV i g) h) Z QS:=
 qz λK hK hR=>⟨.nx,_,by have b9:i < Z.length:=Rl hi;simp[setV,bnd,e,putS,ret,b9],hK _ hh⟩
theorem sO{g:M D}{K:Fl->Gm->Prop}(e:g Z=some (d,Z))(hh:K (.rt (.val d)) Z):wp (retS g) Z K:=⟨_,_,by simp[retS,bnd,e,ret],hh⟩
def Pb(c:Int)(p:Int×Int):Prop:=-c<=p.1/\p.1<=c/\-c<=p.2/\p.2<=c
theorem Pb.up{c:Int}{p:Int×Int}(h:Pb c p)(hc:c<=c'):Pb c' p:=by
 obtain⟨h1,h2,h3,h4⟩:=h;exact⟨by omega,by omega,by omega,by omega⟩
def Th(L:Nat)(c b:Int)(d:D):Prop:=∃w row m,d=thD w row m/\row.length<=L/\(∀p∈row,Pb c p)/\(-b<=w/\w<=b)/\(-b<=m/\m<=b)
theorem zZ{c:Int}(hc:c<=10 ^ 60):∀{row:List (Int×Int)},(∀p∈row,Pb c p)->smA (row.map prD)/\lbA (row.map prD)=193*row.length
 | [],_=>⟨by rw[map_nil,smA];trivial,rfl⟩
 | p::row,h=>by
  obtain⟨i1,i2⟩:=zZ hc λq hq=>h q (j_ _ hq)
  obtain⟨h1,h2,h3,h4⟩:=h p g_;rw[K_];refine⟨?_,?_⟩
  ·rw[smA];refine⟨?_,i1⟩;unfold prD;rw[smD,smA,smA,smA,smD,smD];exact⟨by omega,by omega,trivial⟩
  ·rw[lbA,i2,Md];unfold prD;rw[lbD,lbA,lbA,lbA,lbD,lbD];omega
theorem Eb{c b:Int}(hL:L<=1000)(hc:c<=10 ^ 60)(hb:b<=10 ^ 80)(h:Th L c b d):∃z,reprG [d]=some (.str z):=by
 obtain⟨w,row,m,rfl,h1,h2,h3,h4⟩:=h;obtain⟨s1,s2⟩:=zZ hc h2;have d1:=uk row;refine⟨_,Bo ?_ ?_ ?_⟩
 ·unfold thD;rw[smD,smA,smA,smA,smA,smD,smD,smD];exact⟨by omega,s1,by omega,trivial⟩
 ·unfold thD;simp[dep,depA];omega
 ·unfold thD;rw[lbD,lbA,lbA,lbA,lbA,lbD,lbD,lbD,s2];omega
theorem Ji(ds:List D){i:Int}(h:0<=i):cutD ds (some i) (some (i+1))=(ds.drop i.toNat).take 1:=by
 unfold cutD HT.sIx;simp only[];rw[if_neg (by omega),if_neg (by omega),show(i+1).toNat=i.toNat+1 by omega]
 rcases TB (i.toNat+1) ds.length with c | c
 ·rw[MN c,MN (by omega),NU]
 ·rw[Pz c]
  rcases TB i.toNat ds.length with c' | c'
  ·rw[MN c'];rw[L6 (by simp),L6 (by rw[ME];omega)]
  ·rw[Pz c',OC,ND c',take_nil,take_nil]
theorem atP{row:List (Int×Int)}{i:Int}(h0:0<=i)(h1:i < row.length):∃p,p∈row/\atI (row.map prD) i=some (prD p):=by
 obtain⟨j,rfl⟩:∃j:Nat,i=j:=⟨i.toNat,by omega⟩;refine⟨row[j]'(by omega),MF _,?_⟩;rw[rN,E_,h_ (by omega)];rfl
theorem wpE{α:Type}{g:M α}{d:α}{Q:α->Gm->Prop}(e:g Z=some (d,Z))(h:Q d Z):wp g Z Q:=⟨_,_,e,h⟩
theorem ixE{L ix:M D}{vs:List D}{i:Int}(e1:L Z=some (.lst vs,Z))(e2:ix Z=some (.int i,Z))(e3:atI vs i=some d):op2 ixF L ix Z=some (d,Z):=by
 simp[op2,bnd,e1,e2,lft,ixF,seqI,asI,e3]
theorem catE{A B:M D}{xs ys:List (Int×Int)}(e1:A Z=some (.lst (xs.map prD),Z))(e2:B Z=some (.lst (ys.map prD),Z))(h:xs.length+ys.length<=lim):frz (op2 catF A B) Z=some (.lst ((xs++ys).map prD),Z):=by
 have h':catF (.lst (xs.map prD)) (.lst (ys.map prD))=some ((xs++ys).map prD):=by
  unfold catF;dsimp only;rw[if_pos (by rw[x_,x_];exact h),Oa]
 simp only[frz,op2,bnd,e1,e2,lft,h',ret]
theorem pr1E{A B:M D}{a b:Int}(e1:A Z=some (.int a,Z))(e2:B Z=some (.int b,Z)):frz (lstA (consA (tupA (consA A (consA B nilA))) nilA)) Z=some (.lst ([(a,b)].map prD),Z):=by
 simp[frz,lstA,tupA,consA,bnd,ret,nilA,lft,e1,e2,lim,prD]
theorem wS{g:List R->Option (R×List R)}{t:M (List D)}{QD:D->Gm->Prop}(hj:Z[j]?=some (some (.bor c)))(ht:t Z=some (ds,Z))(k:wpB g c ds λr c'=>∃d,r=.val d/\QD d (Z.set j (some (.bor c')))):wp (cbV j g t) Z QD:=by
 obtain⟨r,c',e1,d,rfl,k⟩:=k
 have e2:callB j g t Z=some (.val d,Z.set j (some (.bor c'))):=by
  unfold callB mutS;have:isMut Z j=true:=by unfold isMut;rw[hj];rfl
  rw[this];simp only[bnd,ht,hj,e1,if_true]
 exact⟨d,_,by simp[cbV,bnd,lft,asV,e2],k⟩
theorem yh{P:Int×Int->Prop}{xs ys zs:List (Int×Int)}(h1:∀q∈xs,P q)(h2:∀q∈ys,P q)(h3:∀q∈zs,P q):∀q∈xs++ys++zs,P q:=λq hq=>by
 rcases Mc.mp hq with z | z
 ·rcases Mc.mp z with z | z
  ·exact h1 q z
  ·exact h2 q z
 ·exact h3 q z
theorem F0{row:List (Int×Int)}{n:Int}{c:Int}{Q:R->List D->Prop}(hc:PotOk c0)(ne:row≠[])(hl:row.length<=L)(hL:L<=1000)(hr:∀p∈row,Pb c p)(b0:0<=c)(b1:c<=10 ^ 40)(k:∀(dL:List (Int×Int)) c',dL.length<=L+1->(∀p∈dL,Pb (c+10 ^ 20) p)->PotOk c'->Q (.val (.lst (dL.map prD))) c'):wpB vQ c0 [.lst (row.map prD),.int n] Q:=by
 have pos:=Pt.mpr ne;have up:∀p∈row,Pb (c+10 ^ 20) p:=λp hp=>(hr p hp).up (by omega)
 refine uz rfl λKE hE _=>?_
 rw[wQ];refine qX (λae=>∃(c:List D) (aF:Int),PotOk c/\0<=aF/\aF < row.length/\ae=[some (.bor c),some (.val (.lst (row.map prD))),some (.val (.int n)),some (.val (.int aF)),none,none,none,none,none,none]) (λK hK _=>?_) ?_
 ·simp[isMut,R.mut];refine qR hc (by omega) (by omega) λi c i1 i2 hc=>?_
  simp;exact hK _ ⟨c,i,hc,i1,i2,rfl⟩
 rintro ae ⟨c0,i,hc,i1,i2,rfl⟩;obtain⟨p,hp,e1⟩:=atP i1 i2;have pb:=hr p hp;refine qX (λae=>ae=[some (.bor c0),some (.val (.lst (row.map prD))),some (.val (.int n)),some (.val (.int i)),some (.val (.int p.1)),some (.val (.int p.2)),none,none,none,none]) (λK hK _=>?_) ?_
 ·simp;rw[qL e1];simp[prD];exact hK _ rfl
 rintro ae rfl;refine qX (λae=>∃(c:List D) (b:Int),PotOk c/\-(10 ^ 20)<=b/\b<=10 ^ 20/\ae=[some (.bor c),some (.val (.lst (row.map prD))),some (.val (.int n)),some (.val (.int i)),some (.val (.int p.1)),some (.val (.int p.2)),some (.val (.int b)),none,none,none]) (λK hK _=>?_) ?_
 ·simp[un1,negI,isMut,R.mut];refine qR hc (by omega) (by omega) λj c j1 j2 hc=>?_
  have:j=0\/j=1\/j=2\/j=3\/j=4:=by omega
  rcases this with rfl | rfl | rfl | rfl | rfl<;>simp[vH,AY]<;>exact hK _ ⟨c,_,hc,by omega,by omega,rfl⟩
 rintro ae ⟨c0,b,hc,bl,bh,rfl⟩;refine qX (λae=>∃(c:List D) (way:Int),PotOk c/\0<=way/\way < 8/\ae=[some (.bor c),some (.val (.lst (row.map prD))),some (.val (.int n)),some (.val (.int i)),some (.val (.int p.1)),some (.val (.int p.2)),some (.val (.int b)),some (.val (.int way)),none,none]) (λK hK _=>?_) ?_
 ·simp[isMut,R.mut];refine qR hc (by omega) (by omega) λj c j1 j2 hc=>?_
  simp;exact hK _ ⟨c,j,hc,j1,j2,rfl⟩
 rintro ae ⟨c0,way,hc,w1,w2,rfl⟩
 obtain⟨o,po,eo⟩:∃o:Int×Int,Pb (c+10 ^ 20) o/\atI [prD (p.1+b,p.2),prD (p.1,p.2+b),prD (p.1,p.1),prD (p.2,p.1)] (way % 4)=some (prD o):=by
  obtain⟨p1,p2,p3,p4⟩:=pb;have:way % 4=0\/way % 4=1\/way % 4=2\/way % 4=3:=by omega
  rcases this with z | z | z | z<;>rw[z]
  ·exact⟨(p.1+b,p.2),⟨by dsimp only;omega,by dsimp only;omega,by dsimp only;omega,by dsimp only;omega⟩,rfl⟩
  ·exact⟨(p.1,p.2+b),⟨by dsimp only;omega,by dsimp only;omega,by dsimp only;omega,by dsimp only;omega⟩,rfl⟩
  ·exact⟨(p.1,p.1),⟨by dsimp only;omega,by dsimp only;omega,by dsimp only;omega,by dsimp only;omega⟩,rfl⟩
  ·exact⟨(p.2,p.1),⟨by dsimp only;omega,by dsimp only;omega,by dsimp only;omega,by dsimp only;omega⟩,rfl⟩
 refine sR (ixE rfl rfl eo) rfl ?_;show wp _ [some (.bor c0),some (.val (.lst (row.map prD))),some (.val (.int n)),some (.val (.int i)),some (.val (.int p.1)),some (.val (.int p.2)),some (.val (.int b)),some (.val (.int way)),some (.val (prD o)),none] _;have tk:cutD (row.map prD) none (some i)=(row.take i.toNat).map prD:=by rw[xL _ i1,QH]
 have dr:∀j:Int,0<=j->cutD (row.map prD) (some j) none=(row.drop j.toNat).map prD:=λj hj=>by rw[BZ _ hj,Pf]
 have tl:(row.take i.toNat).length=i.toNat:=by rw[L5];omega
 have dl:∀j:Int,(row.drop j.toNat).length=row.length - j.toNat:=λj=>ME
 have mt:∀q∈row.take i.toNat,Pb (c+10 ^ 20) q:=λq hq=>up q (Mh hq)
 have md:∀j,∀q∈row.drop j,Pb (c+10 ^ 20) q:=λj q hq=>up q (MD hq)
 have l1:lim=1000000:=rfl
 have ji:∀Z:Gm,Z[1]?=some (some (.val (.lst (row.map prD))))->Z[3]?=some (some (.val (.int i)))->sl3 slF (nm 1) (ret none) (prt (nm 3)) Z=some (.lst ((row.take i.toNat).map prD),Z):=λZ h1 h3=>by
  rw[←tk];simp[sl3,bnd,nm,h1,h3,ret,prt,lft,slF,asI]
 by_cases q1:way < 4
 ·refine EV rfl q1 λK hR=>sO (catE (catE (ji _ rfl rfl) (ys:=[o]) rfl ?_) (ys:=row.drop (i+1).toNat) ?_ ?_) (hR _ _ (hE _ _ _ ⟨_,rfl⟩ (k _ c0 ?_ ?_ hc)))
  ·simp;omega
  ·rw[←dr (i+1) (by omega)];rfl
  ·simp;omega
  ·simp;omega
  ·exact yh mt (λq hq=>by rw[q_.mp hq];exact po) (md _)
 refine Iy rfl q1 ?_;by_cases q2:way=4
 ·refine uA rfl q2 λK hR=>sO (catE (ji _ rfl rfl) (ys:=row.drop (i+1).toNat) ?_ ?_) (hR _ _ (hE _ _ _ ⟨_,rfl⟩ (k _ c0 ?_ ?_ hc)))
  ·rw[←dr (i+1) (by omega)];rfl
  ·simp;omega
  ·simp;omega
  ·exact λq hq=>(Mc.mp hq).elim (mt q) (md _ q)
 refine uH rfl q2 ?_;by_cases q3:way=5
 ·refine uA rfl q3 λK hR=>?_
  rw[Eo,tF]
  have e1:frz (op2 catF (nm 1) (sl3 slF (nm 1) (prt (nm 3)) (prt (op2 addF (nm 3) (ret (.int 1)))))) [some (.bor c0),some (.val (.lst (row.map prD))),some (.val (.int n)),some (.val (.int i)),some (.val (.int p.1)),some (.val (.int p.2)),some (.val (.int b)),some (.val (.int way)),some (.val (prD o)),none]=some (.lst ((row++(row.drop i.toNat).take 1).map prD),[some (.bor c0),some (.val (.lst (row.map prD))),some (.val (.int n)),some (.val (.int i)),some (.val (.int p.1)),some (.val (.int p.2)),some (.val (.int b)),some (.val (.int way)),some (.val (prD o)),none]):=by
   refine catE rfl ?_ ?_
   ·rw[QH,Pf,←Ji _ i1];rfl
   ·rw[L5];omega
  refine wpE (d:=.lst [.lst ((row++(row.drop i.toNat).take 1).map prD),.lst (row.reverse.map prD)]) ?_ ?_
  ·have e2:frz (op2 rvF (nm 1) (un1 negI (ret (.int 1)))) [some (.bor c0),some (.val (.lst (row.map prD))),some (.val (.int n)),some (.val (.int i)),some (.val (.int p.1)),some (.val (.int p.2)),some (.val (.int b)),some (.val (.int way)),some (.val (prD o)),none]=some (.lst (row.reverse.map prD),[some (.bor c0),some (.val (.lst (row.map prD))),some (.val (.int n)),some (.val (.int i)),some (.val (.int p.1)),some (.val (.int p.2)),some (.val (.int b)),some (.val (.int way)),some (.val (prD o)),none]):=by
    rw[Qd];rfl
   simp only[frz,lstA,consA,bnd,ret,nilA,lft] at e1 e2 ⊢;rw[e1];dsimp only;rw[e2];rfl
  refine wS rfl rfl (qR hc (by omega) (by omega) λj c' j1 j2 hc=>⟨_,rfl,?_⟩);have:j=0\/j=1:=by omega
  rcases this with rfl | rfl
  ·refine wpE (d:=.lst ((row++(row.drop i.toNat).take 1).map prD)) rfl (hR _ _ (hE _ _ _ ⟨_,rfl⟩ (k _ c' ?_ ?_ hc)))
   ·rw[LY,L5];omega
   ·exact λq hq=>(Mc.mp hq).elim (up q) λz=>md _ q (Mh z)
  ·refine wpE (d:=.lst (row.reverse.map prD)) rfl (hR _ _ (hE _ _ _ ⟨_,rfl⟩ (k _ c' ?_ ?_ hc)))
   ·rw[MC];omega
   ·exact λq hq=>up q (List.mem_reverse.mp hq)
 refine uH rfl q3 ?_;obtain⟨p1,p2,p3,p4⟩:=pb;by_cases q4:way=6
 ·refine uA rfl q4 λK hR=>?_
  refine qX (λae=>∃(c':List D) (fW:Int),PotOk c'/\-c<=fW/\fW<=c+1/\ae=[some (.bor c'),some (.val (.lst (row.map prD))),some (.val (.int n)),some (.val (.int i)),some (.val (.int p.1)),some (.val (.int p.2)),some (.val (.int b)),some (.val (.int way)),some (.val (prD o)),some (.val (.int fW))]) (λK hK _=>?_) ?_
  ·rw[tE,tF];refine wpE (d:=.int p.1) rfl (wS rfl rfl (qR hc ?_ ?_ λj c' j1 j2 hc=>⟨_,rfl,?_⟩))
   ·omega
   ·omega
   ·refine wpE (d:=.int (p.1+j)) rfl ⟨by show 9 < 10;decide,hK _ ⟨c',p.1+j,hc,by omega,by omega,rfl⟩⟩
  rintro ae ⟨c',fW,hc,m1,m2,rfl⟩;refine sO (catE (catE (ji _ rfl rfl) (ys:=[(p.1,fW),(fW+1,p.2)]) rfl ?_) (ys:=row.drop (i+1).toNat) ?_ ?_) (hR _ _ (hE _ _ _ ⟨_,rfl⟩ (k _ c' ?_ ?_ hc)))
  ·simp;omega
  ·rw[←dr (i+1) (by omega)];rfl
  ·simp;omega
  ·simp;omega
  ·refine yh mt (λq hq=>?_) (md _)
   rcases n_.mp hq with rfl | hq
   ·exact⟨by dsimp only;omega,by dsimp only;omega,by dsimp only;omega,by dsimp only;omega⟩
   ·rw[q_.mp hq];exact⟨by dsimp only;omega,by dsimp only;omega,by dsimp only;omega,by dsimp only;omega⟩
 refine uH rfl q4 ?_;have il:0<=(i+1) % (row.length:Int):=O7 _ (by omega);have ih:(i+1) % (row.length:Int) < row.length:=N_ _ (by omega);obtain⟨q,hq,e5⟩:=atP il ih;obtain⟨z1,z2,z3,z4⟩:=hr q hq;refine sO (catE (catE (ji _ rfl rfl) (ys:=[(p.1,q.2)]) ?_ ?_) (ys:=row.drop (i+2).toNat) ?_ ?_) (hE _ _ _ ⟨_,rfl⟩ (k _ c0 ?_ ?_ hc))
 ·have e6:op2 ixF (op2 ixF (nm 1) (op2 modI (op2 addF (nm 3) (ret (D.int 1))) (fn1 lenF (consA (nm 1) nilA)))) (ret (D.int 1)) [some (.bor c0),some (.val (.lst (row.map prD))),some (.val (.int n)),some (.val (.int i)),some (.val (.int p.1)),some (.val (.int p.2)),some (.val (.int b)),some (.val (.int way)),some (.val (prD o)),none]=some (.int q.2,[some (.bor c0),some (.val (.lst (row.map prD))),some (.val (.int n)),some (.val (.int i)),some (.val (.int p.1)),some (.val (.int p.2)),some (.val (.int b)),some (.val (.int way)),some (.val (prD o)),none]):=by
   have e7:op2 ixF (nm 1) (op2 modI (op2 addF (nm 3) (ret (D.int 1))) (fn1 lenF (consA (nm 1) nilA))) [some (.bor c0),some (.val (.lst (row.map prD))),some (.val (.int n)),some (.val (.int i)),some (.val (.int p.1)),some (.val (.int p.2)),some (.val (.int b)),some (.val (.int way)),some (.val (prD o)),none]=some (prD q,[some (.bor c0),some (.val (.lst (row.map prD))),some (.val (.int n)),some (.val (.int i)),some (.val (.int p.1)),some (.val (.int p.2)),some (.val (.int b)),some (.val (.int way)),some (.val (prD o)),none]):=by
    refine ixE (vs:=row.map prD) (i:=(i+1) % (row.length:Int)) rfl ?_ e5;simp[op2,fn1,consA,nilA,bnd,nm,ret,lft,addF,modI,lenF,intF,pos]
   simp only[op2,bnd] at e7 ⊢;rw[e7];rfl
  exact pr1E rfl e6
 ·simp;omega
 ·rw[←dr (i+2) (by omega)];rfl
 ·simp;omega
 ·simp;omega
 ·refine yh mt (λq' hq=>?_) (md _);rw[q_.mp hq];exact⟨by dsimp only;omega,by dsimp only;omega,by dsimp only;omega,by dsimp only;omega⟩
theorem Jx{n:Int}{c b:Int}{Q:R->List D->Prop}(hc:PotOk c0)(h:Th L c b d)(hL:L<=900)(c1:10 ^ 4<=c)(c2:c<=10 ^ 40)(b1:10 ^ 30<=b)(n1:1<=n)(n2:n<=100)(k:∀d' c',Th (L+1) (c+10 ^ 20) (2*b) d'->PotOk c'->Q (.val d') c'):wpB vR c0 [d,.int n] Q:=by
 obtain⟨w,row,m,rfl,h1,h2,⟨h3,h4⟩,h5,h6⟩:=h;refine uz rfl λKE hE _=>?_
 rw[xt];refine qz λK hK _=>⟨_,_,rfl,hK _ ?_⟩
 show wp _ [some (.bor c0),some (.val (thD w row m)),some (.val (.int n)),some (.val (.int w)),some (.val (.lst (row.map prD))),some (.val (.int m)),none,none] _;refine Fe rfl rfl rfl (qR hc (by omega) (by omega) λway c0 w1 w2 hc=>⟨_,rfl,?_⟩);show wp _ [some (.bor c0),some (.val (thD w row m)),some (.val (.int n)),some (.val (.int w)),some (.val (.lst (row.map prD))),some (.val (.int m)),some (.val (.int way)),none] _;refine qX (λae=>∃(c:List D) (y:Int),PotOk c/\-b<=y/\y<=b/\ae=[some (.bor c),some (.val (thD w row m)),some (.val (.int n)),some (.val (.int w)),some (.val (.lst (row.map prD))),some (.val (.int m)),some (.val (.int way)),some (.val (.int y))]) (λK hK _=>?_) ?_
 ·rw[tE,tF];refine wpE (d:=.lst [.int 1,.int (-1),.int 7,.int (10 ^ 25),.int (0 - m)]) rfl ?_;refine wS rfl rfl (qR hc (by omega) (by omega) λj c' j1 j2 hc=>⟨_,rfl,?_⟩);have:j=0\/j=1\/j=2\/j=3\/j=4:=by omega
  rcases this with rfl | rfl | rfl | rfl | rfl
  ·exact wpE (d:=.int 1) rfl ⟨by show 7 < 8;decide,hK _ ⟨c',_,hc,by omega,by omega,rfl⟩⟩
  ·exact wpE (d:=.int (-1)) rfl ⟨by show 7 < 8;decide,hK _ ⟨c',_,hc,by omega,by omega,rfl⟩⟩
  ·exact wpE (d:=.int 7) rfl ⟨by show 7 < 8;decide,hK _ ⟨c',_,hc,by omega,by omega,rfl⟩⟩
  ·exact wpE (d:=.int (10 ^ 25)) rfl ⟨by show 7 < 8;decide,hK _ ⟨c',_,hc,by omega,by omega,rfl⟩⟩
  ·exact wpE (d:=.int (0 - m)) rfl ⟨by show 7 < 8;decide,hK _ ⟨c',_,hc,by omega,by omega,rfl⟩⟩
 rintro ae ⟨c0,y,hc,y1,y2,rfl⟩;have up:∀p∈row,Pb (c+10 ^ 20) p:=λp hp=>(h2 p hp).up (by omega)
 by_cases q0:way=0
 ·exact uA rfl q0 λK hR=>sO (d:=thD (w+y) row m) rfl (hR _ _ (hE _ _ _ ⟨_,rfl⟩ (k _ c0 ⟨_,row,_,rfl,by omega,up,by omega,by omega⟩ hc)))
 refine uH rfl q0 ?_;by_cases q1:way=1
 ·exact uA rfl q1 λK hR=>sO (d:=thD w row (m+y)) rfl (hR _ _ (hE _ _ _ ⟨_,rfl⟩ (k _ c0 ⟨_,row,_,rfl,by omega,up,by omega,by omega⟩ hc)))
 refine uH rfl q1 ?_;have d1:=uk row;by_cases q2:row=[]
 ·subst q2;refine Di rfl λK hR=>sO (d:=thD w [(0,n - 1)] m) rfl (hR _ _ (hE _ _ _ ⟨_,rfl⟩ (k _ c0 ⟨_,[(0,n - 1)],_,rfl,by simp,λp hp=>?_,by omega,by omega⟩ hc)))
  rw[q_.mp hp];exact⟨by dsimp only;omega,by dsimp only;omega,by dsimp only;omega,by dsimp only;omega⟩
 refine qz λK hK hR=>?_
 have e0:deq (.lst (row.map prD)) (.lst [])=false:=by
  rw[Ei];cases row with
  | nil=>exact absurd rfl q2
  | cons _ _=>rfl
 have e1:dep (.lst (row.map prD))<=100:=by rw[dep];omega
 simp[e0,e1];refine hK _ ?_;clear hK hR;simp[isMut,R.mut];refine F0 (L:=L) hc q2 h1 (by omega) h2 (by omega) c2 λdL c' r1 r2 hc=>?_
 simp;exact hE _ _ _ ⟨_,rfl⟩ (k _ c' ⟨w,dL,m,rfl,r1,r2,by omega,by omega⟩ hc)
theorem Th.up{L':Nat}{c b b':Int}(h:Th L c b d)(h1:L<=L')(h2:c<=c')(h3:b<=b'):Th L' c' b' d:=by
 obtain⟨w,row,m,rfl,g1,g2,g3,g4⟩:=h;exact⟨w,row,m,rfl,by omega,λp hp=>(g2 p hp).up h2,by omega,by omega⟩
noncomputable def bd:Nat->Int
 | 0=>10 ^ 62
 | i+1=>2*bd i
theorem vZ:∀i,10 ^ 62<=bd i
 | 0=>L9 _
 | i+1=>by
  have:=vZ i;show 10 ^ 62<=2*bd i;omega
theorem bd_9:bd 8<=10 ^ 70:=by decide
theorem w4{b:Int}(b0:0<=b):∀{l:List Int}{n:Nat},l.length<=n->(∀x∈l,x<=b)->l.sum<=n*b
 | [],n,_,_=>by
  have:=Int.mul_nonneg (Int.natCast_nonneg n) b0;simpa using this
 | x::l,0,h,_=>by cases h
 | x::l,n+1,h,hb=>by
  have:=w4 b0 (l:=l) (n:=n) (by simpa using h) λy hy=>hb y (j_ _ hy)
  have:=hb x g_;rw[Pg,Int.natCast_add,Int.natCast_one,Int.add_mul,Int.one_mul];omega
theorem BR{b:Int}:∀(xs:List Int) (x:Int),x<=b->(∀y∈xs,y<=b)->xs.foldl mx x<=b
 | [],x,h,_=>h
 | y::xs,x,h,hb=>by
  rw[Nu];refine BR xs _ ?_ λz hz=>hb z (j_ _ hz)
  have:=hb y g_;unfold mx;split<;>omega
theorem Ey{b:Int}(b0:0<=b)(h:∀x∈l,x<=b):maxI 0 l<=b:=by
 cases l with
 | nil=>exact b0
 | cons x xs=>exact BR xs x (h x g_) λy hy=>h y (j_ _ hy)
theorem DN(h1:∀x∈cs,x<=10 ^ 57)(hn:cs.length<=100)(p:Int×Int):wt cs p<=10 ^ 59:=by
 have:=w4 (b:=10 ^ 57) (by decide) (l:=cutL cs (some p.1) (some (p.2+1))) (n:=100) (by unfold cutL;rw[L5,ME];omega) λx hx=>h1 x (MD (Mh hx))
 unfold wt;omega
theorem Fg{a:Int}(gd:Gd cs.length (a::l))(hn:cs.length<=100)(nn:∀x∈cs,0<=x)(h1:∀x∈cs,x<=10 ^ 57)(k:Nat):Th 101 (10 ^ 21) (bd 0) (fewD cs (a::l) k):=by
 have ru:=Au gd (zd (cs:=cs) gd.1 k);have R1:=vJ hn (by have:=gd.2 a g_;omega) ru
 have le:∀x∈(fewW cs (a::l)).drop k,x<=10 ^ 59:=λx hx=>by
  obtain⟨p,_,rfl⟩:=Nf.mp (MD hx);exact DN h1 hn p
 have pE:∀x∈(fewW cs (a::l)).drop k,0<=x:=λx hx=>BI nn _ x (MD hx)
 have s0:=wx pE;have s1:=w4 (b:=10 ^ 59) (by decide) (n:=64) (by rw[ME,Ga];have:=uS gd (by omega);omega) le;have x1:=Ey (b:=10 ^ 59) (by decide) le;have x0:=(Cb (Dp cs (a::l)) (BI nn (a::l)) k).1;have b0:bd 0=10 ^ 62:=rfl;refine⟨_,rowF cs (a::l) k,_,rfl,by have:=R1.few;omega,λp hp=>?_,by rw[b0];omega,by rw[b0];omega⟩;obtain⟨o1,o2,o3,o4⟩:=R1.ok p hp;exact⟨by omega,by omega,by omega,by omega⟩
theorem atT{T:List D}{j:Int}(h0:0<=j)(h1:j < T.length):∃d,d∈T/\atI T j=some d:=by
 obtain⟨i,rfl⟩:∃i:Nat,j=i:=⟨j.toNat,by omega⟩;refine⟨T[i]'(by omega),MF _,?_⟩;rw[rN,h_ (by omega)]
theorem ve{g:List R->Option (R×List R)}{t:M (List D)}{QD:D->Gm->Prop}(hj:Z[j]?=some (some (.own c)))(ht:t Z=some (ds,Z))(k:wpB g c ds λr c'=>∃d,r=.val d/\QD d (Z.set j (some (.own c')))):wp (cbV j g t) Z QD:=by
 obtain⟨r,c',e1,d,rfl,k⟩:=k
 have e2:callB j g t Z=some (.val d,Z.set j (some (.own c'))):=by
  unfold callB mutS;have:isMut Z j=true:=by unfold isMut;rw[hj];rfl
  rw[this];simp only[bnd,ht,hj,e1,if_true]
 exact⟨d,_,by simp[cbV,bnd,lft,asV,e2],k⟩
theorem Jz{g:List R->Option (R×List R)}{t:M (List D)}{QL:List D->Gm->Prop}(hj:Z[j]?=some (some (.own c)))(ht:t Z=some (ds,Z))(k:wpB g c ds λr c'=>∃d,r=.own d/\QL d (Z.set j (some (.own c')))):wp (cbO j g t) Z QL:=by
 obtain⟨r,c',e1,d,rfl,k⟩:=k
 have e2:callB j g t Z=some (.own d,Z.set j (some (.own c'))):=by
  unfold callB mutS;have:isMut Z j=true:=by unfold isMut;rw[hj];rfl
  rw[this];simp only[bnd,ht,hj,e1,if_true]
 exact⟨d,_,by simp[cbO,bnd,lft,asO,e2],k⟩
theorem fn1E{F:List D->Option D}{t:M (List D)}(e1:t Z=some (ds,Z))(e2:F ds=some d):fn1 F t Z=some (d,Z):=by simp only[fn1,bnd,e1,lft,e2]
theorem consE{g:M D}{t:M (List D)}(e1:g Z=some (d,Z))(e2:t Z=some (ds,Z)):consA g t Z=some (d::ds,Z):=by simp only[consA,bnd,e1,e2,ret]
theorem lstE{t:M (List D)}(e:t Z=some (ds,Z))(h:ds.length<=lim):lstA t Z=some (ds,Z):=by simp only[lstA,bnd,e,lft,if_pos h]
theorem orE{a b:M Bool}(e1:a Z=some (false,Z))(e2:b Z=some (false,Z)):orT a b Z=some (false,Z):=by simp[orT,bnd,e1,e2]
theorem neE{A C:M D}(e1:A Z=some (d,Z))(e2:C Z=some (d,Z))(h:dep d<=100):tst (op2 (eqF true) A C) Z=some (false,Z):=by
 have e3:eqF true d d=some (.bl false):=by
  unfold eqF;rw[if_pos ⟨h,h⟩,DL.wA];rfl
 simp only[tst,op2,bnd,e1,e2,lft,e3,asB]
theorem FM(b:Bool):∃z,reprG [.bl b]=some (.str z):=⟨_,Bo (d:=.bl b) (by rw[smD];trivial) (by simp[dep]) (by rw[lbD];omega)⟩
theorem law_true(ns:List Int)(hl:ns.length<=63):∃rs,sT [.val (.lst (ns.map D.int))]=some (.val (.bl true),rs):=by
 have key:wpF sT [.val (.lst (ns.map D.int))] λr _=>r=.val (.bl true):=by
  refine sN rfl λKE hE _=>?_
  rw[wo];obtain⟨c,e,hc⟩:=Gz ns;refine qz λK hK _=>?_
  simp;rw[qL e];refine⟨by simp,hK _ ?_⟩;clear hK e;generalize ns.map D.int=S at *;refine qz λK hK hR=>?_
  simp;refine rQ (J:=λi Z=>∃c x2 x3 x4 x5 x6 x7 x8 x9 a8 bU bV bW bA bt aZ aU aV,PotOk c/\Z=[some (.val (.lst S)),some (.own c),x2,x3,x4,x5,x6,x7,x8,x9,a8,bU,bV,bW,bA,bt,aZ,aU,aV]) ⟨c,none,none,none,none,none,none,none,none,none,none,none,none,none,none,none,none,none,hc,rfl⟩ ?_ ?_
  ·rintro i d Z hd ⟨c,x2,x3,x4,x5,x6,x7,x8,x9,a8,bU,bV,bW,bA,bt,aZ,aU,aV,hc,rfl⟩;refine⟨(),_,rfl,?_⟩;show wp _ [some (.val (.lst S)),some (.own c),some (.val d),x3,x4,x5,x6,x7,x8,x9,a8,bU,bV,bW,bA,bt,aZ,aU,aV] _;generalize some (R.val d)=x2';refine qX (λae=>∃(c:List D) (k:Nat),PotOk c/\k<=98/\ae=[some (.val (.lst S)),some (.own c),x2',some (.val (.int ((k:Int)+1))),x4,x5,x6,x7,x8,x9,a8,bU,bV,bW,bA,bt,aZ,aU,aV]) (λK hK _=>?_) ?_
   ·refine tE.mpr (tF.mpr (v3.mpr (DU.mpr (vI.mpr (tF.mpr (wpE rfl (ve rfl rfl (qR hc (by decide) (by decide) λt1 c t2 t3 hc=>⟨_,rfl,wpE (d:=.int (1+t1)) rfl (vI.mpr (tF.mpr (wpE rfl (ve rfl rfl (qR hc (by decide) (by decide) λu1 c u2 u3 hc=>⟨_,rfl,wpE (d:=.int (1+u1)) rfl (vI.mpr (wpE rfl (Ak.mpr ?_)))⟩)))))⟩))))))));refine wpE (d:=[.int (1+t1),.int (1+u1),.int 99]) rfl (ve rfl rfl (qR hc (by decide) (by decide) λj c j1 j2 hc=>⟨_,rfl,?_⟩));have:j=0\/j=1\/j=2:=by omega
    rcases this with rfl | rfl | rfl
    ·refine wpE (d:=.int (1+t1)) rfl ⟨by show 3 < 19;decide,hK _ ⟨c,t1.toNat,hc,by omega,?_⟩⟩;rw[show(t1.toNat:Int)+1=1+t1 by omega];rfl
    ·refine wpE (d:=.int (1+u1)) rfl ⟨by show 3 < 19;decide,hK _ ⟨c,u1.toNat,hc,by omega,?_⟩⟩;rw[show(u1.toNat:Int)+1=1+u1 by omega];rfl
    ·exact wpE (d:=.int 99) rfl ⟨by show 3 < 19;decide,hK _ ⟨c,98,hc,by omega,rfl⟩⟩
   rintro ae ⟨c,k,hc,k1,rfl⟩;obtain⟨t,et⟩:∃t:Int,t=(k:Int)+1:=⟨_,rfl⟩;rw[←et];refine qX (λae=>∃(c:List D) (cs:List Int),PotOk c/\1<=cs.length/\cs.length<=100/\(∀x∈cs,0<=x)/\(∀x∈cs,x<=10 ^ 57)/\ae=[some (.val (.lst S)),some (.own c),x2',some (.val (.int t)),some (.val (.lst (cs.map D.int))),x5,x6,x7,x8,x9,a8,bU,bV,bW,bA,bt,aZ,aU,aV]) (λK hK _=>?_) ?_
   ·exact tE.mpr (v3.mpr (Jz rfl rfl (CZ hc λcs c h1 h2 h3 h4 hc=>⟨_,rfl,by show 4 < 19;decide,hK _ ⟨c,cs,hc,h1,h2,h3,h4,rfl⟩⟩)))
   rintro ae ⟨c,cs,hc,n1,n2,nn,pF,rfl⟩;refine qX (λae=>∃(c:List D) (ss:List (Int×Int)),PotOk c/\1<=ss.length/\ss.length<=12/\(∀p∈ss,StOk cs.length p)/\ae=[some (.val (.lst S)),some (.own c),x2',some (.val (.int t)),some (.val (.lst (cs.map D.int))),some (.val (.lst (ss.map prD))),x6,x7,x8,x9,a8,bU,bV,bW,bA,bt,aZ,aU,aV]) (λK hK _=>?_) ?_
   ·refine tE.mpr (ve rfl rfl (Du (n:=((cs.map D.int).length:Int)) hc (by rw[x_];omega) (by rw[x_];omega) λss c h1 h2 h3 hc=>⟨_,rfl,by show 5 < 19;decide,hK _ ⟨c,ss,hc,h1,h2,?_,rfl⟩⟩));rw[x_] at h3;exact h3
   rintro ae ⟨c,ss,hc,s1,s2,sk,rfl⟩;have eJ:ss.length<=100:=MY s2 (by decide);have nI:(cs.length:Int)<=100:=Int.ofNat_le.mpr n2;obtain⟨a,l,hN⟩:=Jj sk s1;have gd:=JK sk;rw[hN] at gd;have hW:∀p∈ss,SOk p:=λp hp=>Dq nI (sk p hp)
   have gl:=wI gd nI;have gf:=uS gd nI
   have few:cvF sZ [.lst (ss.map prD),.int t,.lst (cs.map D.int)]=some (fewD cs (a::l) k):=by
    have:=IY (cs:=cs) (k:=k) hW eJ (by rw[hN];exact MY gl (by decide)) (by rw[hN];simp) (by rw[hN];exact gf);rw[hN] at this;rw[et];exact this
   have kQ:=Fg gd n2 nn pF k;have hX:=JO hW eJ hN gd n2;have kR:=wC hW eJ;have jz:=λ(many w m:Int) (row:List (Int×Int))=>GA (row:=row) (many:=many) (w:=w) (m:=m) hW eJ hN gd n2
   have pG:=λ(many w m:Int) (row:List (Int×Int))=>F2 (row:=row) (many:=many) (w:=w) (m:=m) hW eJ hN gd n2
   obtain⟨G,eG⟩:∃G,G=(gapsL (a::l)).map (wt cs):=⟨_,rfl⟩;obtain⟨HD,kT⟩:∃H,H=hadL (ss.flatMap span):=⟨_,rfl⟩;rw[←eG] at hX;rw[←kT] at kR;simp only[←eG,←kT] at jz;clear eG kT;obtain⟨fw,kU⟩:∃d,d=fewD cs (a::l) k:=⟨_,rfl⟩;rw[←kU] at few kQ;refine qz λK hK _=>CF.mpr (wpE (lstE (consE (fn1E rfl few) (consE (d:=thD 0 [(0,((cs.map D.int).length:Int) - 1)] 0) rfl (consE (d:=thD 0 [] 0) rfl rfl))) (by show 3<=lim;decide)) ⟨by show 6 < 19;decide,hK _ ?_⟩)
   clear hK few;rw[x_];obtain⟨T0,hZ⟩:∃T0,T0=[fw,thD 0 [(0,(cs.length:Int) - 1)] 0,thD 0 [] 0]:=⟨_,rfl⟩
   have t0:∀d∈T0,Th 101 (10 ^ 21) (bd 0) d:=λd hd=>by
    have b0:bd 0=10 ^ 62:=rfl;rw[hZ] at hd
    rcases n_.mp hd with rfl | hd
    ·exact kQ
    rcases n_.mp hd with rfl | hd
    ·refine⟨_,_,_,rfl,by simp,λp hp=>?_,by rw[b0];omega,by rw[b0];omega⟩;rw[q_.mp hp];exact⟨by dsimp only;omega,by dsimp only;omega,by dsimp only;omega,by dsimp only;omega⟩
    rw[q_.mp hd];exact⟨_,[],_,rfl,by simp,λp hp=>(by cases hp),by rw[b0];omega,by rw[b0];omega⟩
   have pH:atI T0 0=some fw:=by rw[hZ];rfl
   have pI:T0.length=3:=by rw[hZ];rfl
   show wp _ [some (.val (.lst S)),some (.own c),x2',some (.val (.int t)),some (.val (.lst (cs.map D.int))),some (.val (.lst (ss.map prD))),some (.own [fw,thD 0 [(0,(cs.length:Int) - 1)] 0,thD 0 [] 0]),x7,x8,x9,a8,bU,bV,bW,bA,bt,aZ,aU,aV] _;rw[←hZ];clear hZ kQ;refine qX (λae=>∃(c T:List D) (x7:Option R),PotOk c/\T.length=11/\atI T 0=some fw/\(∀d∈T,Th 109 (10 ^ 23) (bd 8) d)/\ae=[some (.val (.lst S)),some (.own c),x2',some (.val (.int t)),some (.val (.lst (cs.map D.int))),some (.val (.lst (ss.map prD))),some (.own T),x7,x8,x9,a8,bU,bV,bW,bA,bt,aZ,aU,aV]) (λK hK _=>?_) ?_
   ·simp;refine rQ (J:=λi Z=>∃(c T:List D) (x7:Option R),PotOk c/\T.length=3+i/\atI T 0=some fw/\(∀d∈T,Th (101+i) (10 ^ 21*((i:Int)+1)) (bd i) d)/\Z=[some (.val (.lst S)),some (.own c),x2',some (.val (.int t)),some (.val (.lst (cs.map D.int))),some (.val (.lst (ss.map prD))),some (.own T),x7,x8,x9,a8,bU,bV,bW,bA,bt,aZ,aU,aV]) ⟨c,T0,x7,hc,pI,pH,λd hd=>(t0 d hd).up (by omega) (by omega) (L9 _),rfl⟩ ?_ ?_
    ·rintro i d Z hd ⟨c,T,x7,hc,lT,hT,tT,rfl⟩
     have il:i < 8:=by
      obtain⟨h,_⟩:=D_.mp hd;simpa[rngD] using h
     refine⟨(),_,rfl,?_⟩;show wp _ [some (.val (.lst S)),some (.own c),x2',some (.val (.int t)),some (.val (.lst (cs.map D.int))),some (.val (.lst (ss.map prD))),some (.own T),some (.val d),x8,x9,a8,bU,bV,bW,bA,bt,aZ,aU,aV] _;simp[isMut,R.mut];refine qR hc (by omega) (by omega) λj c j1 j2 hc=>?_
     simp[isMut,R.mut];refine qR hc (by omega) (by omega) λu c u1 u2 hc=>?_
     have ju:0<=j*u/\j*u < T.length:=by
      have:u=0\/u=1:=by omega
      rcases this with rfl | rfl
      ·rw[Int.mul_zero];omega
      ·rw[Int.mul_one];omega
     obtain⟨d',bj,e'⟩:=atT ju.1 ju.2;simp[isMut,R.mut];refine⟨.inl ⟨by omega,by omega⟩,?_⟩;rw[qL e'];simp[isMut,R.mut];refine Jx hc (tT d' bj) (by omega) (by omega) (by omega) (by have:=vZ i;omega) (by omega) nI λd2 c th hc=>?_
     simp;refine⟨by omega,c,hc,T++[d2],by simp;omega,?_,λd hd=>?_,rfl,rfl⟩
     ·rw[show(0:Int)=((0:Nat):Int) from rfl,rN] at hT ⊢;rw[MT (by omega)];exact hT
     ·rcases Mc.mp hd with z | z
      ·exact(tT d z).up (by omega) (by omega) (by show bd i<=2*bd i;have:=vZ i;omega)
      ·rw[q_.mp z];exact th.up (by omega) (by omega) (L9 _)
    ·rintro Z ⟨c,T,x7,hc,lT,hT,tT,rfl⟩;exact hK _ ⟨c,T,x7,hc,lT,hT,λd hd=>(tT d hd).up (by decide) (by decide) (L9 _),rfl⟩
   rintro ae ⟨c,T,x7,hc,lT,hT,tT,rfl⟩;have dC:=vJ n2 n1 (Au gd (zd (cs:=cs) gd.1 k));obtain⟨row,er⟩:∃row,row=rowF cs (a::l) k:=⟨_,rfl⟩;obtain⟨w,ew⟩:∃w,w=((fewW cs (a::l)).drop k).sum:=⟨_,rfl⟩;obtain⟨m,em⟩:∃m,m=maxI 0 ((fewW cs (a::l)).drop k):=⟨_,rfl⟩;have ef:fw=thD w row m:=by rw[kU,er,ew,em];rfl
   rw[←er] at dC;clear kU er ew em;subst ef;refine qz λK hK _=>?_
   simp;refine hK _ ?_;refine qX (λae=>∃x9 a8,ae=[some (.val (.lst S)),some (.own c),x2',some (.val (.int t)),some (.val (.lst (cs.map D.int))),some (.val (.lst (ss.map prD))),some (.own T),x7,some (.own (((row.flatMap span).map λx=>(x,x)).map prD)),x9,a8,bU,bV,bW,bA,bt,aZ,aU,aV]) (λK hK _=>?_) ?_
   ·simp[hT];rw[show thD w row m=.tup [.int w,.lst (row.map prD),.int m] from rfl];simp;refine rQ (J:=λi Z=>∃x9 a8,Z=[some (.val (.lst S)),some (.own c),x2',some (.val (.int t)),some (.val (.lst (cs.map D.int))),some (.val (.lst (ss.map prD))),some (.own T),x7,some (.own ((((row.take i).flatMap span).map λx=>(x,x)).map prD)),x9,a8,bU,bV,bW,bA,bt,aZ,aU,aV]) ⟨x9,a8,rfl⟩ ?_ ?_
    ·rintro i d Z hd ⟨x9,a8,rfl⟩;rw[E_,Nz] at hd;obtain⟨p,e1,rfl⟩:=hd;obtain⟨o1,o2,o3,o4⟩:=id (dC.ok p (Mf e1));have sl:=vV (dC.ok p (Mf e1))
     have tk:(row.take (i+1)).flatMap span=(row.take i).flatMap span++span p:=by
      rw[NG,e1,Pr];simp
     have fl:=ul (ss:=row.take i) λq hq=>dC.ok q (Mh hq)
     have tl:(row.take i).length<=100:=by rw[L5];have:=dC.few;omega
     rw[tk];generalize (row.take i).flatMap span=A at *;refine⟨(),_,rfl,?_⟩;show wp _ [some (.val (.lst S)),some (.own c),x2',some (.val (.int t)),some (.val (.lst (cs.map D.int))),some (.val (.lst (ss.map prD))),some (.own T),x7,some (.own ((A.map λx=>(x,x)).map prD)),some (.val (.int p.1)),some (.val (.int p.2)),bU,bV,bW,bA,bt,aZ,aU,aV] _;obtain⟨B,eB⟩:∃B,B=(A.map λx=>(x,x)).map prD:=⟨_,rfl⟩;have lB:B.length=A.length:=by rw[eB];simp
     rw[←eB];have ft:(span p).filter (λ_=>true)=span p:=NX.mpr (by simp);simp[isMut,R.mut];refine rS (span p) D.int (λ_=>true) (λx=>prD (x,x)) ?_;simp[prD];rw[ud,ft];refine⟨⟨⟨by omega,by omega⟩,by omega,by omega⟩,rfl,by omega,by omega,?_⟩;rw[eB,NH];rfl
    ·rintro Z ⟨x9,a8,rfl⟩;rw[x_,OE];exact hK _ ⟨x9,a8,rfl⟩
   rintro ae ⟨x9,a8,rfl⟩;obtain⟨sg,es⟩:∃sg,sg=(row.flatMap span).map λx=>(x,x):=⟨_,rfl⟩
   rw[←es];have qt:sg.length<=100:=by rw[es,x_];exact dC.len
   have nE:∀p∈sg,Pb (10 ^ 23) p:=λp hp=>by
    rw[es] at hp;obtain⟨x,hx,rfl⟩:=Nf.mp hp;have:=dC.mem x hx;exact⟨by dsimp only;omega,by dsimp only;omega,by dsimp only;omega,by dsimp only;omega⟩
   clear es;refine qX (λae=>∃x8,ae=[some (.val (.lst S)),some (.own c),x2',some (.val (.int t)),some (.val (.lst (cs.map D.int))),some (.val (.lst (ss.map prD))),some (.own (T++[thD w sg m])),x7,x8,x9,a8,bU,bV,bW,bA,bt,aZ,aU,aV]) (λK hK _=>?_) ?_
   ·simp[isMut,R.mut,hT];rw[show thD w row m=.tup [.int w,.lst (row.map prD),.int m] from rfl];simp[hT];rw[show thD w row m=.tup [.int w,.lst (row.map prD),.int m] from rfl];simp;exact⟨by omega,hK _ ⟨_,rfl⟩⟩
   rintro ae ⟨x8,rfl⟩
   have pJ:∀d∈T++[thD w sg m],Th 109 (10 ^ 23) (bd 8) d:=λd hd=>by
    rcases Mc.mp hd with z | z
    ·exact tT d z
    ·rw[q_.mp z]
     have h0:thD w row m∈T:=by
      rw[show(0:Int)=((0:Nat):Int) from rfl,rN] at hT;exact Mf hT
     obtain⟨w',dL,m',e1,_,_,h4,h5⟩:=tT _ h0;unfold thD at e1;simp at e1;exact⟨w,sg,m,rfl,by omega,nE,by rw[e1.1];exact h4,by rw[e1.2.2];exact h5⟩
   have qu:(T++[thD w sg m]).length=12:=by rw[LY,lT];rfl
   clear tT hT lT nE;generalize T++[thD w sg m]=T at *
   have jA:frzK (fn1 (ckF sy) (consA (nm 5) nilA)) [some (.val (.lst S)),some (.own c),x2',some (.val (.int t)),some (.val (.lst (cs.map D.int))),some (.val (.lst (ss.map prD))),some (.own T),x7,x8,x9,a8,bU,bV,bW,bA,bt,aZ,aU,aV]=some (.dct HD,[some (.val (.lst S)),some (.own c),x2',some (.val (.int t)),some (.val (.lst (cs.map D.int))),some (.val (.lst (ss.map prD))),some (.own T),x7,x8,x9,a8,bU,bV,bW,bA,bt,aZ,aU,aV]):=by
    have e0:consA (nm 5) nilA [some (.val (.lst S)),some (.own c),x2',some (.val (.int t)),some (.val (.lst (cs.map D.int))),some (.val (.lst (ss.map prD))),some (.own T),x7,x8,x9,a8,bU,bV,bW,bA,bt,aZ,aU,aV]=some ([.lst (ss.map prD)],[some (.val (.lst S)),some (.own c),x2',some (.val (.int t)),some (.val (.lst (cs.map D.int))),some (.val (.lst (ss.map prD))),some (.own T),x7,x8,x9,a8,bU,bV,bW,bA,bt,aZ,aU,aV]):=rfl;simp only[frzK,fn1,bnd,e0,lft,kR,ret,xp]
   refine sR jA rfl (sR (fn1E rfl hX) rfl (sR (d:=.tup [.lst (ss.map prD),.lst (cs.map D.int)]) rfl rfl ?_));clear kR hX jA;show wp _ [some (.val (.lst S)),some (.own c),x2',some (.val (.int t)),some (.val (.lst (cs.map D.int))),some (.val (.lst (ss.map prD))),some (.own T),x7,x8,x9,a8,some (.val (.dct HD)),some (.val (.lst (G.map D.int))),some (.val (.tup [.lst (ss.map prD),.lst (cs.map D.int)])),bA,bt,aZ,aU,aV] _;simp;refine rQ (J:=λi Z=>∃bA bt aZ aU aV,Z=[some (.val (.lst S)),some (.own c),x2',some (.val (.int t)),some (.val (.lst (cs.map D.int))),some (.val (.lst (ss.map prD))),some (.val (.lst T)),x7,x8,x9,a8,some (.val (.dct HD)),some (.val (.lst (G.map D.int))),some (.val (.tup [.lst (ss.map prD),.lst (cs.map D.int)])),bA,bt,aZ,aU,aV]) ⟨bA,bt,aZ,aU,aV,rfl⟩ ?_ ?_
   ·rintro i d Z hd ⟨bA,bt,aZ,aU,aV,rfl⟩;have th:=pJ d (Mf hd);obtain⟨z,ez⟩:=Eb (by decide) (by decide) (Int.le_trans bd_9 (by decide)) th;obtain⟨w,row,m,rfl,r1,_,_,_⟩:=th;refine⟨(),_,rfl,?_⟩;show wp _ [some (.val (.lst S)),some (.own c),x2',some (.val (.int t)),some (.val (.lst (cs.map D.int))),some (.val (.lst (ss.map prD))),some (.val (.lst T)),x7,x8,x9,a8,some (.val (.dct HD)),some (.val (.lst (G.map D.int))),some (.val (.tup [.lst (ss.map prD),.lst (cs.map D.int)])),some (.val (thD w row m)),bt,aZ,aU,aV] _;refine sR (fn1E rfl ez) rfl ?_;show wp _ [some (.val (.lst S)),some (.own c),x2',some (.val (.int t)),some (.val (.lst (cs.map D.int))),some (.val (.lst (ss.map prD))),some (.val (.lst T)),x7,x8,x9,a8,some (.val (.dct HD)),some (.val (.lst (G.map D.int))),some (.val (.tup [.lst (ss.map prD),.lst (cs.map D.int)])),some (.val (thD w row m)),some (.val (.str z)),aZ,aU,aV] _;simp;refine rQ (J:=λi Z=>∃aZ aU aV,Z=[some (.val (.lst S)),some (.own c),x2',some (.val (.int t)),some (.val (.lst (cs.map D.int))),some (.val (.lst (ss.map prD))),some (.val (.lst T)),x7,x8,x9,a8,some (.val (.dct HD)),some (.val (.lst (G.map D.int))),some (.val (.tup [.lst (ss.map prD),.lst (cs.map D.int)])),some (.val (thD w row m)),some (.val (.str z)),aZ,aU,aV]) ⟨aZ,aU,aV,rfl⟩ ?_ ?_
    ·rintro j d2 Z de ⟨aZ,aU,aV,rfl⟩
     obtain⟨u,rfl,u1,u2⟩:∃u:Int,d2=.int u/\0<=u/\u<=1000:=by
      have hm:=Mf de;simp at hm
      rcases hm with rfl | rfl | rfl
      ·exact⟨_,rfl,by omega,by omega⟩
      ·exact⟨_,rfl,by omega,by omega⟩
      ·exact⟨_,rfl,by omega,by omega⟩
     have b1:=jz u w m row (by omega) (by omega) (by omega);have b2:=pG u w m row (by omega) (by omega) (by omega);obtain⟨fb,pK⟩:∃fb,fb=fewB cs (a::l) row u w m:=⟨_,rfl⟩;rw[←pK] at b1 b2;obtain⟨zb,nG⟩:=FM fb;refine⟨(),_,rfl,?_⟩;show wp _ [some (.val (.lst S)),some (.own c),x2',some (.val (.int t)),some (.val (.lst (cs.map D.int))),some (.val (.lst (ss.map prD))),some (.val (.lst T)),x7,x8,x9,a8,some (.val (.dct HD)),some (.val (.lst (G.map D.int))),some (.val (.tup [.lst (ss.map prD),.lst (cs.map D.int)])),some (.val (thD w row m)),some (.val (.str z)),some (.val (.int u)),aU,aV] _;have dp:=uk ss;refine sR (fn1E rfl b1) rfl (sR (fn1E rfl b2) rfl (GJ.mpr (wpE (orE (neE (fn1E rfl nG) (fn1E rfl nG) (by simp[dep])) (orE (neE (fn1E rfl ez) rfl (by simp[dep])) (neE (d:=.tup [.lst (ss.map prD),.lst (cs.map D.int)]) rfl rfl (by simp[dep,depA];omega)))) ?_)));rw[if_neg (by decide)];exact sL.mpr ⟨_,_,_,rfl⟩
    ·rintro Z ⟨aZ,aU,aV,rfl⟩;exact⟨_,_,_,_,_,rfl⟩
   ·rintro Z ⟨bA,bt,aZ,aU,aV,rfl⟩;exact⟨c,hc,_,_,_,_,_,_,_,_,_,_,_,_,_,_,_,_,_,rfl⟩
  ·rintro Z ⟨c,x2,x3,x4,x5,x6,x7,x8,x9,a8,bU,bV,bW,bA,bt,aZ,aU,aV,hc,rfl⟩;refine hK _ ?_;simp;exact hE _ _ ⟨_,rfl,rfl⟩
 obtain⟨r,rs,e,rfl⟩:=key;exact⟨rs,e⟩
end Own
namespace PySem.W.Fast
theorem tw13569274528930738717:True:=⟨⟩
theorem tw16979040255091641369:True:=⟨⟩
theorem tw518578409145070335:True:=⟨⟩
theorem tw422542733445009683:True:=⟨⟩
theorem tw3813588687310058448:True:=⟨⟩
theorem tw14860273525030943341:True:=⟨⟩
theorem tw14484191670455319830:True:=⟨⟩
theorem tw2815586303824273759:True:=⟨⟩
theorem tw4676046545141223793:True:=⟨⟩
theorem tw3022956738161670940:True:=⟨⟩
theorem tw4937603897473347688:True:=⟨⟩
theorem tw14238531908237016095:True:=⟨⟩
theorem tw9368108333780017742:True:=⟨⟩
theorem tw1841782311957982528:True:=⟨⟩
theorem tw14778946625378252533:True:=⟨⟩
theorem tw14660726802615664855:True:=⟨⟩
theorem tw16901245295551551265:True:=⟨⟩
theorem tw3318808428240607429:True:=⟨⟩
theorem tw15166998358698372433:True:=⟨⟩
theorem tw8608479719054119545:True:=⟨⟩
theorem tw17523435158836445661:True:=⟨⟩
theorem tw18303121404659506015:True:=⟨⟩
theorem tw10929931641244619297:True:=⟨⟩
theorem tw6270551224790823286:True:=⟨⟩
theorem tw3692122229091419064:True:=⟨⟩
theorem tw13320064899786569904:True:=⟨⟩
theorem tw5632796351464204177:True:=⟨⟩
theorem tw739977769864226188:True:=⟨⟩
theorem tw13198622744227824229:True:=⟨⟩
theorem tw10823737283751865968:True:=⟨⟩
theorem tw444685201528460171:True:=⟨⟩
theorem tw13761264027714835564:True:=⟨⟩
theorem tw17415528414145940911:True:=⟨⟩
theorem tw6174754648633532326:True:=⟨⟩
theorem tw7291868077166966480:True:=⟨⟩
theorem tw4181715798040092932:True:=⟨⟩
theorem tw10226190855336621151:True:=⟨⟩
theorem tw4479405136171446943:True:=⟨⟩
theorem tw8158531264066123820:True:=⟨⟩
theorem tw1368107694734812509:True:=⟨⟩
theorem tw8394378589370642610:True:=⟨⟩
theorem tw15616708713014740304:True:=⟨⟩
theorem tw11421428243048094534:True:=⟨⟩
theorem tw17229942368623185796:True:=⟨⟩
theorem tw15782137755543686790:True:=⟨⟩
theorem tw7948608354824213576:True:=⟨⟩
theorem tw3007076829294173130:True:=⟨⟩
theorem tw6368192665279262370:True:=⟨⟩
theorem tw12433454529896975952:True:=⟨⟩
theorem tw4277522977808257450:True:=⟨⟩
theorem tw16529979208622133016:True:=⟨⟩
theorem tw12668255660320412168:True:=⟨⟩
theorem tw5005022306945076603:True:=⟨⟩
theorem tw9386003636717375681:True:=⟨⟩
theorem tw15675111286830005272:True:=⟨⟩
theorem tw4997082245593801937:True:=⟨⟩
theorem tw10488378700189696001:True:=⟨⟩
theorem tw11348075228995799344:True:=⟨⟩
theorem tw5734740441745006530:True:=⟨⟩
theorem tw2369396521570905921:True:=⟨⟩
theorem tw5615772844184803701:True:=⟨⟩
theorem tw6662207374025448726:True:=⟨⟩
theorem tw11787290488877270341:True:=⟨⟩
theorem tw9655693327388710836:True:=⟨⟩
theorem tw6920393283486965016:True:=⟨⟩
theorem tw5539580083583206857:True:=⟨⟩
theorem tw11523720561955787920:True:=⟨⟩
theorem tw3680083298385334744:True:=⟨⟩
theorem tw17497858334518630461:True:=⟨⟩
theorem tw1082658639226306633:True:=⟨⟩
theorem tw11503448117980977301:True:=⟨⟩
theorem tw8276710201929458715:True:=⟨⟩
theorem tw17586614293939758524:True:=⟨⟩
theorem tw8734548441979311774:True:=⟨⟩
theorem tw8170631557300745803:True:=⟨⟩
theorem tw9384192482894180902:True:=⟨⟩
theorem tw13175900800074093076:True:=⟨⟩
theorem tw16363355672381237264:True:=⟨⟩
theorem tw15523432189280166900:True:=⟨⟩
theorem tw16550153608263789060:True:=⟨⟩
theorem tw14456558424378935885:True:=⟨⟩
theorem tw17707350330372724794:True:=⟨⟩
theorem tw8118937297877980383:True:=⟨⟩
theorem tw6287520528515077636:True:=⟨⟩
theorem tw4451611475725407559:True:=⟨⟩
theorem tw8423768967014661855:True:=⟨⟩
theorem tw8773323764473039317:True:=⟨⟩
theorem tw18134593558540245956:True:=⟨⟩
theorem tw486909673340213196:True:=⟨⟩
theorem tw10722311498148282720:True:=⟨⟩
theorem tw617724221585828813:True:=⟨⟩
theorem tw745116325489926523:True:=⟨⟩
theorem tw6157854826270631916:True:=⟨⟩
theorem tw398496682554216031:True:=⟨⟩
theorem tw1810513858219094010:True:=⟨⟩
theorem tw580975009829543857:True:=⟨⟩
theorem tw8221804099232436244:True:=⟨⟩
theorem tw16035021001156793325:True:=⟨⟩
theorem tw7542580546322884895:True:=⟨⟩
theorem tw4679801088786381841:True:=⟨⟩
theorem tw3647888023810876687:True:=⟨⟩
theorem tw17690153317702379072:True:=⟨⟩
theorem tw8342791900688618424:True:=⟨⟩
theorem tw16591698805998386124:True:=⟨⟩
theorem tw17410617970251133268:True:=⟨⟩
theorem tw17375062830643121231:True:=⟨⟩
theorem tw9783597346086731001:True:=⟨⟩
theorem tw1956109076267809394:True:=⟨⟩
theorem tw7614514210809515537:True:=⟨⟩
theorem tw8890542408783310873:True:=⟨⟩
theorem tw12378291283298946434:True:=⟨⟩
end PySem.W.Fast
open PySem PySem.W PyProof.Rows
set_option maxRecDepth 100000 in
set_option maxHeartbeats 0 in
theorem PySem.Challenge.cw_roofpost_k64_few_stretches_looked_at_holds : PySem.Challenge.rw_roofpost_k64_few_stretches_looked_at.Holds := by
 w_on;(refine holds_law (by decide +kernel) λpR=>?_);k_head;(case hw=>w_witness2)
 k_fill
 refine Own.walk (l:=PySem.Challenge.rw_roofpost_k64_few_stretches_looked_at) Own.law_true rfl rfl ?W ?NT (λw h Y=>PySem.W.km_in_of Y) ?F
 (case W=>exact Oo.mp (by kernel_rfl))
 (case NT=>intro p;kernel_rfl)
 case F =>
  intro w mg fa h KX G gz;refine' Own.all_mk gz (Own.dn KX G ?_ ?_ ?_ ?_) (Own.dn KX G ?_ ?_ ?_ ?_) (Own.dn KX G ?_ ?_ ?_ ?_) (Own.dn KX G ?_ ?_ ?_ ?_) (Own.dn KX G ?_ ?_ ?_ ?_) (Own.dn KX G ?_ ?_ ?_ ?_) (Own.dn KX G ?_ ?_ ?_ ?_) (Own.dn KX G ?_ ?_ ?_ ?_) (Own.dn KX G ?_ ?_ ?_ ?_) (Own.dn KX G ?_ ?_ ?_ ?_) (Own.dn KX G ?_ ?_ ?_ ?_) (Own.dn KX G ?_ ?_ ?_ ?_) (Own.dn KX G ?_ ?_ ?_ ?_) (Own.dn KX G ?_ ?_ ?_ ?_) (Own.dn KX G ?_ ?_ ?_ ?_) (Own.dn KX G ?_ ?_ ?_ ?_) (Own.dn KX G ?_ ?_ ?_ ?_) (Own.dn KX G ?_ ?_ ?_ ?_) (Nv KX G ?_) (Nv KX G ?_) (Nv KX G ?_) (Nv KX G ?_) (Nv KX G ?_) (Nv KX G ?_) (Nv KX G ?_) (Nv KX G ?_) (Nv KX G ?_) (Nv KX G ?_) (Nv KX G ?_) (Nv KX G ?_) ?T0
  (case T0=>kernel_rfl)
  any_goals k_is
